import PyProof.Rows.All
import HandS.ForMost
import HandS.Exc
import HandS.NestedK
import KE.KLam
import HandS.Deep
import HandS.ExcOwn
import HandS.WordsExc
import HandS.TryOnly
import HandS.TupAny
import HandS.Conv
import HandS.Style
import HandS.IsInst
import HandS.SortInts
import HandS.Zip
import KE.GoesMore
import KE.GoesEnum
import HandS.Set
import HandS.SetFor
import HandS.Strs
import HandS.TupMul
import HandS.TupSets
import PyProof.StrOps2
import HandS.Dict
import HandS.SetKeys
import HandS.WordsDict
import HandS.Codes
import HandS.ExcInit
import HandS.ExcField
import HandS.EndTab
import PySem.Challenge.RW_reesblocks_k07_named_semigroups
set_option Elab.async false
set_option linter.all false
set_option autoImplicit false
set_option maxRecDepth 100000
namespace G
open PySem PySem.Spec PyProof.Rows L2 NdefX

/-! ### cells that lie in the heap: what a closure keeps when it is handed on -/
def CellO (c : Addr) (o : Obj) : HO := .ext fun h => h.get? c = some o
def hid (H : Hp) (cs : List Addr) : Hp := fun a => if a ∈ cs then none else H a
def putb (H' H : Hp) (cs : List Addr) : Hp := fun a => if a ∈ cs then H a else H' a
def AllC (cs : List Addr) (H : Hp) : Prop := ∀ c, c ∈ cs → ∃ o v, H c = some (CellO c o) ∧ o.data = Data.cell v
theorem hid_in {H : Hp} {cs : List Addr} {a : Addr} (h : a ∈ cs) : hid H cs a = none := if_pos h
theorem hid_out {H : Hp} {cs : List Addr} {a : Addr} (h : a ∉ cs) : hid H cs a = H a := if_neg h
theorem putb_in {H' H : Hp} {cs : List Addr} {a : Addr} (h : a ∈ cs) : putb H' H cs a = H a := if_pos h
theorem putb_out {H' H : Hp} {cs : List Addr} {a : Addr} (h : a ∉ cs) : putb H' H cs a = H' a := if_neg h
theorem hid_some {H : Hp} {cs : List Addr} {a : Addr} {x : HO} (h : hid H cs a = some x) : a ∉ cs ∧ H a = some x := by
  by_cases e : a ∈ cs
  · rw [hid_in e] at h; cases h
  · rw [hid_out e] at h; exact ⟨e, h⟩
/-- what is no cell is there still -/
theorem hid_keep {H : Hp} {cs : List Addr} {a : Addr} {x : HO} (l : AllC cs H) (h : H a = some x) (n : ∀ p, x ≠ .ext p) : hid H cs a = some x := by
  by_cases e : a ∈ cs
  · obtain ⟨o, v, q, _⟩ := l a e
    rw [q] at h
    exact absurd (Option.some.inj h).symm (n _)
  · rw [hid_out e]; exact h
theorem hok_hid {P : Program} {w : World} {H : Hp} {h : Heap} {cs : List Addr} (k : HOk P w H h) (l : AllC cs H) : HOk P w (hid H cs) h := fun a x e => by
  obtain ⟨_, e⟩ := hid_some e
  exact (k a x e).stay (fun b u _ q => q) (fun b q => hid_keep l q nofun) (fun b xs q => hid_keep l q nofun)
theorem cell_at {P : Program} {w : World} {H : Hp} {h : Heap} {c : Addr} {o : Obj} (k : HOk P w H h) (e : H c = some (CellO c o)) : h.get? c = some o := by
  have := k c _ e
  simp only [CellO, ObjOk] at this
  exact this.1
theorem cell_ok {P : Program} {w : World} {H : Hp} {h : Heap} {c : Addr} {o : Obj} (e : h.get? c = some o) : ObjOk P w H h c (CellO c o) := by
  simp only [CellO, ObjOk]
  exact ⟨e, ⟨o, e⟩, fun h1 h2 a b => b o a⟩
theorem inv_hid {X : Cx} {pins : List (Addr × Obj)} {σ : L2.St} {H : Hp} {s : Shared} {cs : List Addr} (v : L2.Inv X pins σ H s) (l : AllC cs H) : L2.Inv X pins σ (hid H cs) s := by
  have no : ∀ {a : Addr}, H a = none → hid H cs a = none := fun {a} e => by
    by_cases q : a ∈ cs
    · exact hid_in q
    · rw [hid_out q]; exact e
  refine ⟨v.ok, v.os, v.bare, ⟨v.base.keep, v.base.slot, fun b o a c d => no (v.base.free b o a c d), v.base.there, fun b xs e => hid_keep l (v.base.tups b xs e) nofun, fun b o u e => hid_keep l (v.base.frzs b o u e) nofun, fun b ps e => ?_⟩, v.loc, v.cell, no v.free, fun x c e => no (v.freeC x c e), fun p hp => ?_, hok_hid v.hok l, v.len⟩
  · obtain ⟨m, q⟩ := v.base.tbls b ps e
    exact ⟨m, hid_keep l q nofun⟩
  · obtain ⟨a, b, c⟩ := v.pin p hp
    exact ⟨a, no b, c⟩
/-- behind a call that saw no cells -/
theorem un_putb {X : Cx} {pins : List (Addr × Obj)} {σ : L2.St} {H H2 : Hp} {s s' : Shared} {cs : List Addr} (v : L2.Inv X pins σ H s) (l : AllC cs H) (u : Un (frs X.stack) [] (hid H cs) H2 s.heap s'.heap) (k : HOk X.prog X.w H2 s'.heap) : Un (frs X.stack) [] H (putb H2 H cs) s.heap s'.heap ∧ HOk X.prog X.w (putb H2 H cs) s'.heap := by
  have out : ∀ {a : Addr}, H a = none → a ∉ cs := fun {a} e q => by
    obtain ⟨o, _, q, _⟩ := l a q
    rw [q] at e; cases e
  have no : ∀ {a : Addr}, H a = none → hid H cs a = none := fun {a} e => by rw [hid_out (out e)]; exact e
  have nc : ∀ {a : Addr} {x : HO}, H a = some x → (∀ p, x ≠ .ext p) → a ∉ cs := fun {a x} e n q => by
    obtain ⟨o, _, q, _⟩ := l a q
    rw [q] at e
    exact n _ (Option.some.inj e).symm
  have gone : ∀ c, c ∈ cs → H2 c = none := fun c hc => by
    obtain ⟨o, _, q, _⟩ := l c hc
    exact u.free c o (cell_at v.hok q) (hid_in hc) nofun
  refine ⟨⟨fun b o a c d e => u.keep b o a (no c) d e, fun b o a c d e => u.slot b o a (no c) d e, fun b o a c d => ?_, u.there, fun b xs e => ?_, fun b o y e => ?_, fun b ps e => ?_⟩, fun a x e => ?_⟩
  · rw [putb_out (out c)]; exact u.free b o a (no c) d
  · have := nc e nofun
    rw [putb_out this]; exact u.tups b xs (by rw [hid_out this]; exact e)
  · have := nc e nofun
    rw [putb_out this]; exact u.frzs b o y (by rw [hid_out this]; exact e)
  · have := nc e nofun
    rw [putb_out this]; exact u.tbls b ps (by rw [hid_out this]; exact e)
  · by_cases q : a ∈ cs
    · rw [putb_in q] at e
      obtain ⟨o, _, y, _⟩ := l a q
      rw [y] at e
      cases Option.some.inj e
      have nf : a ∉ frs X.stack := fun z => by
        have := v.env0.frf a z
        rw [y] at this; cases this
      exact cell_ok (u.keep a o (cell_at v.hok y) (hid_in q) nf nofun)
    · rw [putb_out q] at e
      have up : ∀ {b : Addr} {z : HO}, H2 b = some z → putb H2 H cs b = some z := fun {b z} e => by
        by_cases p : b ∈ cs
        · rw [gone b p] at e; cases e
        · rw [putb_out p]; exact e
      exact (k a x e).stay (fun b u _ q => q) (fun b q => up q) (fun b xs q => up q)

/-! ### a closure, called where it was handed to -/
structure Held (cl : List (Str × Addr)) (fr : List Str) (ws : List V) (cs : List Addr) (H : Hp) : Prop where
  len : ws.length = fr.length
  all : AllC cs H
  ncode : ∀ c, c ∈ cs → ∀ q, H c ≠ some (LamX.CodeO c q)
  cov : ∀ y c, List.lookup y cl = some c → c ∈ cs
  inj : ∀ x y c, List.lookup x cl = some c → List.lookup y cl = some c → x = y
  has : ∀ (i : Nat) (y : Str), fr[i]? = some y → ∃ c o u v, List.lookup y cl = some c ∧ H c = some (CellO c o) ∧ o.data = Data.cell (some u) ∧ ws[i]? = some v ∧ RelV v u
theorem Held.cells {P : Program} {w : World} {cl : List (Str × Addr)} {fr : List Str} {ws : List V} {cs : List Addr} {H : Hp} {h : Heap} (d : Held cl fr ws cs H) (k : HOk P w H h) : CellsAt cl fr (ws.map some) h (hid H cs) := by
  refine ⟨by rw [List.length_map, d.len], fun y c e => ?_, d.inj, fun i y e => ?_⟩
  · obtain ⟨o, v, q, z⟩ := d.all c (d.cov y c e)
    exact ⟨hid_in (d.cov y c e), v, o, cell_at k q, z⟩
  · obtain ⟨c, o, u, v, e1, e2, e3, e4, e5⟩ := d.has i y e
    refine ⟨c, e1, fun v' hv => ⟨u, ?_, o, cell_at k e2, e3⟩⟩
    rw [List.getElem?_map, e4] at hv
    cases hv
    exact e5
/-- the thing at f is a closure: FO says what lies there, c is its code object, cl its cells -/
structure Clo (P : Program) (w : World) (K : PySem.W.Frag) (mg : Str → Option Value) (base : Heap) (CX : CXT) (k : Nat) (f : Addr) (FO : HO) (c : Addr) (q : Str) (cl : List (Str × Addr)) (fr : List Str) (sp : List (Option V) → Sp) : Prop where
  fnat : ∀ (H : Hp) (h : Heap), HOk P w H h → H f = some FO → PySem.W.FnAt f h
  run : ∀ (A : Around) (out : List Env) (s : Shared) (H : Hp) (us : List Value) (vs : List V) (ws : List (Option V)) (Q : VK) (E : XK), Room k A → Env0 P w K mg base A out s H → H f = some FO → H c = some (LamX.CodeO c q) →
    CellsAt cl fr ws s.heap H → Vals vs us → sp ws vs H Q E → codeAny (model P w) A (.call (.ref f) ⟨us, []⟩) (CR CX out P w H s Q E) s
theorem Clo.of {P : Program} {w : World} {K : PySem.W.Frag} {mg : Str → Option Value} {base : Heap} {CX : CXT} {k : Nat} {f : Addr} {F : NF} {ps fr : List Str} {sp : List (Option V) → Sp} (o : NOk P w K mg base CX k f F ps fr sp) : Clo P w K mg base CX k f (FnO f F) F.c F.qual F.cl fr sp :=
  ⟨fun H h hok e => by obtain ⟨od, sl, doc, pm, ctv, ho⟩ := fnO_at hok e; exact ⟨_, od, _, sl, ho⟩, fun A out s H us vs ws Q E a b c d e f g => o.run A out s H us vs ws Q E a b c d e f g⟩
/-- the closure in slot i, called with the values of t; nothing is raised -/
def tCallX (X : Cx) (CX : CXT) (j i : Nat) (t : TA) : TE := fun σ H Q => ∃ f FO c q cl fr sp k, Clo X.prog X.w X.K X.mg X.base CX k f FO c q cl fr sp ∧ k ≤ j ∧ σ[i]? = some (some (.ref f)) ∧ H f = some FO ∧ t σ H fun vs H1 => H1 f = some FO ∧ H1 c = some (LamX.CodeO c q) ∧ ∃ ws cs, Held cl fr ws cs H1 ∧ f ∉ cs ∧ c ∉ cs ∧
  sp (ws.map some) vs (hid H1 cs) (fun v H2 => (∀ b, b ∈ cs → H2 b = none) → Q v (putb H2 H1 cs)) fun _ _ _ => False
theorem gone_of {X : Cx} {pins : List (Addr × Obj)} {σ : L2.St} {H H2 : Hp} {s s' : Shared} {cs : List Addr} (v : L2.Inv X pins σ H s) (l : AllC cs H) (u : Un (frs X.stack) [] (hid H cs) H2 s.heap s'.heap) : ∀ b, b ∈ cs → H2 b = none := fun b hb => by
  obtain ⟨o, _, q, _⟩ := l b hb
  exact u.free b o (cell_at v.hok q) (hid_in hb) nofun
theorem run_cl {X : Cx} {CX : CXT} {j k : Nat} {FO : HO} {c : Addr} {qn : Str} {cl : List (Str × Addr)} {fr : List Str} {ws : List V} {cs : List Addr} {sp : List (Option V) → Sp} {pins : List (Addr × Obj)} {σ : L2.St} {H : Hp} {s : Shared} {Q : VK} {f : Addr} {us : List Value} {vs : List V}
    (o : Clo X.prog X.w X.K X.mg X.base CX k f FO c qn cl fr sp) (hr : Room j X.A) (hk : k ≤ j) (hx : Passes CX X fun _ _ _ => False) (v : L2.Inv X pins σ H s) (hf : H f = some FO) (hc : H c = some (LamX.CodeO c qn)) (nf : f ∉ cs) (nc : c ∉ cs) (d : Held cl fr ws cs H) (u : Vals vs us)
    (q : sp (ws.map some) vs (hid H cs) (fun v H2 => (∀ b, b ∈ cs → H2 b = none) → Q v (putb H2 H cs)) fun _ _ _ => False) : wpAny (model X.prog X.w) X.A (PySem.call (.ref f) us) (EP X pins σ Q) X.xe s := by
  have vh := inv_hid v d.all
  refine wpAny_call (codeAny_mono (o.run X.A X.stack s (hid H cs) us vs (ws.map some) _ _ (hr.mono hk) vh.env0 (by rw [hid_out nf]; exact hf) (by rw [hid_out nc]; exact hc) (d.cells v.hok) u q) fun r s' h => ?_)
  cases r with
  | error e => exact hx pins σ _ s e s' vh h
  | ok fl =>
    cases fl with
    | ret y =>
      obtain ⟨z, H2, e1, e2, e3, e4, e5, e6⟩ := h
      obtain ⟨un, hk⟩ := un_putb v d.all e3 e4
      exact ⟨z, _, v.call' e1 un hk e2 nofun, e5, e6 (gone_of v d.all e3)⟩
    | _ => exact h.elim
theorem pe_callX {X : Cx} {CX : CXT} {i j : Nat} {x : Str} {t : TA} {e : Expr} {es : List Expr} {p pos : Pos} (hr : Room j X.A) (hx : Passes CX X fun _ _ _ => False) (hN : X.N[i]? = some x) (hv : Vis X.env.scope x) (ha : PA X (e :: es) t)
    (n1 : (x == Str.ofString "__debug__") = false := by rfl) (n2 : (x == Str.ofString "__classdict__") = false := by rfl)
    (n3 : starEach (e :: es) X.env = (false, eval e X.env) :: starEach es X.env := by rfl) (n4 : ((backTo pos (starEach es X.env)).any fun x => x.fst) = false := by rfl) :
    PE X (.Call (.Name x p) (e :: es) [] pos) (tCallX X CX j i t) := ⟨fun pins s σ H Q v h => by
  obtain ⟨f, FO, c, qn, cl, fr, sp, k, o, hk, e1, e2, h⟩ := h
  refine wpAny_Call_Name_kw (thn ((pe_var (pos := p) hN hv n1 n2).run pins s σ H (fun v H' => v = .ref f ∧ H' = H) v ⟨_, e1, rfl, rfl⟩) fun u s1 g => ?_)
  obtain ⟨w, H', v1, r, rfl, rfl⟩ := g
  have r : u = .ref f := r
  subst r
  refine W.callWith_F (first := []) (o.fnat _ _ v1.hok e2) (thn (ha.run pos pins s1 σ H' _ v1 h) fun us s2 g => ?_) n3 n4
  obtain ⟨vs, H1, v2, r2, f1, c1, ws, cs, d, nf, nc, q⟩ := g
  exact ⟨o.fnat _ _ v2.hok f1, run_cl o hr hk hx v2 f1 c1 nf nc d r2 q⟩⟩

/-! ### a closure handed on: the cells of the running def are laid into the heap for the time of the call -/
def layC (H : Hp) (h : Heap) (cs : List Addr) : Hp := fun a => if a ∈ cs then (h.get? a).map (CellO a) else H a
theorem layC_out {H : Hp} {h : Heap} {cs : List Addr} {a : Addr} (e : a ∉ cs) : layC H h cs a = H a := if_neg e
theorem layC_in {H : Hp} {h : Heap} {cs : List Addr} {a : Addr} {o : Obj} (e : a ∈ cs) (g : h.get? a = some o) : layC H h cs a = some (CellO a o) := by
  show (if a ∈ cs then (h.get? a).map (CellO a) else H a) = _
  rw [if_pos e, g]; rfl
def addrs (cl : List (Str × Addr)) : List Addr := cl.filterMap fun p => List.lookup p.1 cl
theorem lookup_mem {y : Str} {c : Addr} : ∀ {l : List (Str × Addr)}, List.lookup y l = some c → ∃ p, p ∈ l ∧ p.1 = y
  | [], h => by cases h
  | p :: l, h => by
    rw [List.lookup_cons] at h
    cases e : y == p.1 with
    | true => exact ⟨p, List.mem_cons_self, (eq_of_beq e).symm⟩
    | false =>
      rw [e] at h
      obtain ⟨q, a, b⟩ := lookup_mem h
      exact ⟨q, List.mem_cons_of_mem _ a, b⟩
theorem addrs_mem {cl : List (Str × Addr)} {y : Str} {c : Addr} (h : List.lookup y cl = some c) : c ∈ addrs cl := by
  obtain ⟨p, a, b⟩ := lookup_mem h
  exact List.mem_filterMap.mpr ⟨p, a, by rw [b]; exact h⟩
theorem mem_addrs {cl : List (Str × Addr)} {c : Addr} (h : c ∈ addrs cl) : ∃ y, List.lookup y cl = some c := by
  obtain ⟨p, _, b⟩ := List.mem_filterMap.mp h
  exact ⟨_, b⟩
theorem held_lay {cl : List (Str × Addr)} {fr : List Str} {ws : List V} {H : Hp} {h : Heap} (k : CellsAt cl fr (ws.map some) h H) : Held cl fr ws (addrs cl) (layC H h (addrs cl)) := by
  refine ⟨by have := k.len; rw [List.length_map] at this; exact this, fun c hc => ?_, fun c hc q z => ?_, fun y c e => addrs_mem e, k.inj, fun i y e => ?_⟩
  · obtain ⟨y, e⟩ := mem_addrs hc
    obtain ⟨_, v, o, g, d⟩ := k.all y c e
    exact ⟨o, v, layC_in hc g, d⟩
  · obtain ⟨y, e⟩ := mem_addrs hc
    obtain ⟨_, v, o, g, d⟩ := k.all y c e
    rw [layC_in hc g] at z
    have z : CellO c o = LamX.CodeO c q := Option.some.inj z
    unfold CellO LamX.CodeO at z
    have z2 := congrFun (HO.ext.inj z) h
    obtain ⟨oc, xs, t, g1, g2, _⟩ := z2.mp g
    rw [g] at g1
    cases g1
    rw [d] at g2
    cases g2
  · obtain ⟨c, e1, e2⟩ := k.has i y e
    have hi : i < ws.length := by
      have := (List.getElem?_eq_some_iff.mp e).1
      have l := k.len
      rw [List.length_map] at l
      omega
    obtain ⟨u, r, o, g, d⟩ := e2 ws[i] (by rw [List.getElem?_map, List.getElem?_eq_getElem hi]; rfl)
    exact ⟨c, o, u, ws[i], e1, layC_in (addrs_mem e1) g, d, List.getElem?_eq_getElem hi, r⟩
section
variable {X : Cx} {pins : List (Addr × Obj)} {σ : L2.St} {H : Hp} {s : Shared} {cs : List Addr}
/-- what is known of the cells that are laid down -/
structure Mine (X : Cx) (H : Hp) (h : Heap) (cs : List Addr) : Prop where
  own : ∀ c, c ∈ cs → ∃ x, List.lookup x X.env.cells = some c
  non : ∀ c, c ∈ cs → H c = none
  is : ∀ c, c ∈ cs → ∃ o v, h.get? c = some o ∧ o.data = Data.cell v
theorem hok_lay {P : Program} {w : World} {h : Heap} (k : HOk P w H h) (m : Mine X H h cs) : HOk P w (layC H h cs) h := fun a x e => by
  have up : ∀ {b : Addr} {z : HO}, H b = some z → layC H h cs b = some z := fun {b z} e => by
    by_cases q : b ∈ cs
    · rw [m.non b q] at e; cases e
    · rw [layC_out q]; exact e
  by_cases q : a ∈ cs
  · obtain ⟨o, v, g, _⟩ := m.is a q
    rw [layC_in q g] at e
    cases Option.some.inj e
    exact cell_ok g
  · rw [layC_out q] at e
    exact (k a x e).stay (fun b u _ q => q) (fun b q => up q) (fun b xs q => up q)
theorem fun_lt {h base : Heap} : ∀ {l : List Env} {b : Addr}, h.FunFrames base l → b ∈ frs l → b < h.objs.size
  | [], b, _, hb => by cases hb
  | e :: l, b, hf, hb => by
    obtain ⟨_, ⟨L, o, e1, _, e3, _⟩, rest⟩ := hf
    have hb : b ∈ frs (e :: l) := hb
    unfold frs at hb
    rw [List.filterMap_cons] at hb
    rw [e1] at hb
    rcases List.mem_cons.mp hb with q | q
    · rw [q]; exact Heap.lt_size e3
    · exact fun_lt rest q
theorem not_frame (v : L2.Inv X pins σ H s) (fn : ∀ x, X.fn x = true) (m : Mine X H s.heap cs) {b : Addr} (hb : b ∈ frs X.stack) : b ∉ cs := fun hc => by
  obtain ⟨x, hx⟩ := m.own b hc
  have big := v.ok.cab x b (fn x) hx
  rcases List.mem_cons.mp (v.stkSub b hb) with q | q
  · obtain ⟨o, y, g, d⟩ := m.is b hc
    obtain ⟨_, ⟨o', es, ep, g', d', _⟩, _⟩ := v.loc
    rw [← q, g] at g'
    cases Option.some.inj g'
    rw [d] at d'; cases d'
  · exact absurd (fun_lt v.ok.funs q) (Nat.not_lt.mpr big)
theorem env0_lay (v : L2.Inv X pins σ H s) (fn : ∀ x, X.fn x = true) (m : Mine X H s.heap cs) : Env0 X.prog X.w X.K X.mg X.base X.A X.stack s (layC H s.heap cs) := by
  have e := v.env0
  refine ⟨e.frames, e.mod, fun b o g => ⟨(e.bs b o g).1, ?_⟩, e.bsz, e.funs, fun b hb => ?_, hok_lay e.hok m, e.bare⟩
  · have : b ∉ cs := fun hc => by
      obtain ⟨x, hx⟩ := m.own b hc
      have big := v.ok.cab x b (fn x) hx
      exact absurd (Nat.lt_of_lt_of_le (Heap.lt_size g) v.ok.bsz) (Nat.not_lt.mpr big)
    rw [layC_out this]; exact (e.bs b o g).2
  · rw [layC_out (not_frame v fn m hb)]; exact e.frf b hb
/-- behind a call that was handed the cells -/
theorem un_hid (v : L2.Inv X pins σ H s) (fn : ∀ x, X.fn x = true) (m : Mine X H s.heap cs) {H2 : Hp} {s' : Shared} (u : Un (frs X.stack) [] (layC H s.heap cs) H2 s.heap s'.heap) (k : HOk X.prog X.w H2 s'.heap) (st : ∀ c, c ∈ cs → H2 c = layC H s.heap cs c) :
    Un (frs X.stack) [] H (hid H2 cs) s.heap s'.heap ∧ HOk X.prog X.w (hid H2 cs) s'.heap := by
  have nc : ∀ {a : Addr} {x : HO}, H a = some x → a ∉ cs := fun {a x} e q => by rw [m.non a q] at e; cases e
  have ll : AllC cs H2 := fun c hc => by
    obtain ⟨o, y, g, d⟩ := m.is c hc
    exact ⟨o, y, by rw [st c hc, layC_in hc g], d⟩
  refine ⟨⟨fun b o a c d e => ?_, fun b o a c d e => ?_, fun b o a c d => ?_, u.there, fun b xs e => ?_, fun b o y e => ?_, fun b ps e => ?_⟩, hok_hid k ll⟩
  · by_cases q : b ∈ cs
    · exact cell_at k (by rw [st b q, layC_in q a])
    · exact u.keep b o a (by rw [layC_out q]; exact c) d e
  · have q := not_frame v fn m d
    exact u.slot b o a (by rw [layC_out q]; exact c) d e
  · by_cases q : b ∈ cs
    · exact hid_in q
    · rw [hid_out q]; exact u.free b o a (by rw [layC_out q]; exact c) d
  · have q := nc e
    rw [hid_out q]; exact u.tups b xs (by rw [layC_out q]; exact e)
  · have q := nc e
    rw [hid_out q]; exact u.frzs b o y (by rw [layC_out q]; exact e)
  · have q := nc e
    rw [hid_out q]; exact u.tbls b ps (by rw [layC_out q]; exact e)
def EH (cs : List Addr) (HL : Hp) (E : XK) : XK := fun cls dx H2 => (∀ c, c ∈ cs → H2 c = HL c) ∧ E cls dx (hid H2 cs)
def QH (cs : List Addr) (HL : Hp) (Q : VK) : VK := fun v H2 => (∀ c, c ∈ cs → H2 c = HL c) ∧ Q v (hid H2 cs)
theorem cx_hid {P : Program} {w : World} {E : XK} {u : Value} {s' : Shared} (v : L2.Inv X pins σ H s) (fn : ∀ x, X.fn x = true) (m : Mine X H s.heap cs) (h : L2.CX P w X.stack (layC H s.heap cs) s (EH cs (layC H s.heap cs) E) u s') : L2.CX P w X.stack H s E u s' := by
  obtain ⟨a, B, H2, cls, d, e1, e2, k, ub, e3, e4, e5, st, e6⟩ := h
  have nc : ∀ {a : Addr} {x : HO}, H a = some x → a ∉ cs := fun {a x} e q => by rw [m.non a q] at e; cases e
  have ll : AllC cs H2 := fun c hc => by
    obtain ⟨o, y, g, d⟩ := m.is c hc
    exact ⟨o, y, by rw [st c hc, layC_in hc g], d⟩
  refine ⟨a, B, hid H2 cs, cls, d, e1, e2, hok_hid k ll, ⟨fun b o a c d => ?_, ub.slot, fun b o a c => ?_, ub.there, fun b xs e => ?_, fun b o y e => ?_, fun b ps e => ?_⟩, ?_, e4, e5, e6⟩
  · by_cases q : b ∈ cs
    · exact cell_at k (by rw [st b q, layC_in q a])
    · exact ub.keep b o a (by rw [layC_out q]; exact c) d
  · by_cases q : b ∈ cs
    · exact hid_in q
    · rw [hid_out q]; exact ub.free b o a (by rw [layC_out q]; exact c)
  · have q := nc e
    rw [hid_out q]; exact ub.tups b xs (by rw [layC_out q]; exact e)
  · have q := nc e
    rw [hid_out q]; exact ub.frzs b o y (by rw [layC_out q]; exact e)
  · have q := nc e
    rw [hid_out q]; exact ub.tbls b ps (by rw [layC_out q]; exact e)
  · by_cases q : a ∈ cs
    · exact hid_in q
    · rw [hid_out q]; exact e3
theorem mine_of {cl : List (Str × Addr)} {fr : List Str} {js : List Nat} {ws : List (Option V)} (cp : Caps X cl fr js) (k : CellsAt cl fr ws s.heap H) : Mine X H s.heap (addrs cl) :=
  ⟨fun c hc => by obtain ⟨y, e⟩ := mem_addrs hc; exact ⟨y, cp.sub y c e⟩, fun c hc => by obtain ⟨y, e⟩ := mem_addrs hc; exact (k.all y c e).1, fun c hc => by
    obtain ⟨y, e⟩ := mem_addrs hc
    obtain ⟨_, v, o, g, d⟩ := k.all y c e
    exact ⟨o, v, g, d⟩⟩
/-- the def called with the values of t, the cells of cl laid down -/
def tCallH (cl : List (Str × Addr)) (fr : List Str) (js : List Nat) (sp : Sp) (E : XK) (t : TA) : TE := fun σ H Q => t σ H fun vs H1 => ∃ ws : List V, js.map (NdefX.slotAt σ) = ws.map some ∧ ∀ HL cs, Held cl fr ws cs HL → (∀ c, c ∈ cs → H1 c = none) → (∀ a, a ∉ cs → HL a = H1 a) → sp vs HL (QH cs HL Q) (EH cs HL E)
theorem run_hand {P : Program} {w : World} {k : Nat} {f : Addr} {fd : FuncData} {ps : List Str} {sp : Sp} {E : XK} {cl : List (Str × Addr)} {fr : List Str} {js : List Nat} {Q : VK} {us : List Value} {vs : List V}
    (o : FnOk X.prog X.w X.K X.mg X.base (L2.CX P w) k f fd ps sp) (hr : Room k X.A) (hb : L2.Binds X.K fd ps []) (hx : Passes (L2.CX P w) X E) (fn : ∀ x, X.fn x = true) (cp : Caps X cl fr js) (v : L2.Inv X pins σ H s) (u : Vals vs us)
    (q : ∃ ws : List V, js.map (NdefX.slotAt σ) = ws.map some ∧ ∀ HL cs, Held cl fr ws cs HL → (∀ c, c ∈ cs → H c = none) → (∀ a, a ∉ cs → HL a = H a) → sp vs HL (QH cs HL Q) (EH cs HL E)) :
    wpAny (model X.prog X.w) X.A (PySem.call (.ref f) us) (EP X pins σ Q) X.xe s := by
  obtain ⟨ws, ew, q⟩ := q
  have ca := cells_of v cp
  have m := mine_of cp ca
  rw [ew] at ca
  have q := q _ _ (held_lay ca) m.non fun a ha => layC_out ha
  have ul : us.length = ps.length := by rw [← u.length, o.len _ _ _ _ q]
  refine wpAny_call (codeAny_mono (o.run X.A X.stack s _ ⟨us, []⟩ us vs _ _ hr (env0_lay v fn m) ?_ u q) fun r s' h => ?_)
  · have := hb s us v.kIn (by rw [List.append_nil]; exact ul)
    rw [List.append_nil] at this
    exact this
  cases r with
  | error e => exact hx pins σ H s e s' v (cx_hid v fn m h)
  | ok fl =>
    cases fl with
    | ret y =>
      obtain ⟨z, H2, e1, e2, e3, e4, e5, e6, e7⟩ := h
      obtain ⟨un, hk⟩ := un_hid v fn m e3 e4 e6
      exact ⟨z, _, v.call' e1 un hk e2 nofun, e5, e7⟩
    | _ => exact h.elim
theorem pe_callH {P : Program} {w : World} {k : Nat} {f : Addr} {fd : FuncData} {ps : List Str} {sp : Sp} {E : XK} {cl : List (Str × Addr)} {fr : List Str} {js : List Nat} {x : Str} {p pos : Pos} {e : Expr} {es : List Expr} {t : TA}
    (o : FnOk X.prog X.w X.K X.mg X.base (L2.CX P w) k f fd ps sp) (hr : Room k X.A) (hg : Gl X x) (hm : X.mg x = some (.ref f)) (hk : W.keepIn X.K (.ref f) = true) (hb : L2.Binds X.K fd ps []) (hx : Passes (L2.CX P w) X E) (fn : ∀ x, X.fn x = true) (cp : X.Ok → Caps X cl fr js) (ha : PA X (e :: es) t)
    (n1 : (x == Str.ofString "__debug__") = false := by rfl)
    (n3 : starEach (e :: es) X.env = (false, eval e X.env) :: starEach es X.env := by rfl) (n4 : ((backTo pos (starEach es X.env)).any fun x => x.fst) = false := by rfl) :
    PE X (.Call (.Name x p) (e :: es) [] pos) (tCallH cl fr js sp E t) := ⟨fun pins s σ H Q v h => by
  refine wpAny_Call_Name_kw (ld_glob v hg hm ?_ n1)
  refine W.callWith_K (first := []) v.ok.mod.kin hk (thn (ha.run pos pins s σ H _ v h) fun us s2 g => ?_) n3 n4
  obtain ⟨vs, H1, v2, r2, q⟩ := g
  exact ⟨v2.kIn, run_hand o hr hb hx fn (cp v2.ok) v2 r2 q⟩⟩
end
/-! ### the things that are made: a lambda, a nested def -/
def LamO (f : Addr) (F : NF) (e : Expr) : HO := .ext fun h => ∃ pm tv, h.get? f = some (PySem.W.kla_obj F.name F.qual F.params e F.scope F.cl pm F.c tv)
theorem lamO_at {P : Program} {w : World} {H : Hp} {h : Heap} {f : Addr} {F : NF} {e : Expr} (k : HOk P w H h) (z : H f = some (LamO f F e)) : ∃ pm tv, h.get? f = some (PySem.W.kla_obj F.name F.qual F.params e F.scope F.cl pm F.c tv) := by
  have := k f _ z
  simp only [LamO, ObjOk] at this
  exact this.1
section
variable {CX : CXT} {P : Program} {w : World} {K : PySem.W.Frag} {mg : Str → Option Value} {base : Heap} {N ps fr : List Str} {F : NF} {f : Addr} {e : Expr} {k : Nat} {sp : List (Option V) → Sp}
theorem clo_lam (S : NScope N ps fr F.scope) (bs : ∀ (pm tv : Value) (us : List Value), us.length = ps.length → bindArgs (PySem.W.kla_fn F.name F.qual F.params e F.scope F.cl pm (.ref F.c) tv) ⟨us, []⟩ = pure (ps.zip us)) (ln : ∀ ws vs H Q E, sp ws vs H Q E → vs.length = ps.length)
    (body : ∀ (A : Around) (out : List Env) (s : Shared) (H : Hp) (vs : List V) (ws : List (Option V)) (Q : VK) (E : XK), Room k (A.deeper (envF F f s.heap.objs.size)) → sp ws vs H Q E → ws.length = fr.length →
      ∃ t, PE (ncx CX P w K mg base N F f A out s H E) e t ∧ t (startF N vs ws) H Q) : Clo P w K mg base CX (k + 1) f (LamO f F e) F.c F.qual F.cl fr sp := by
  refine ⟨fun H h hok z => ?_, fun A out s H us vs ws Q E hr e0 hf hc C r q => ?_⟩
  · obtain ⟨pm, tv, ho⟩ := lamO_at hok z
    exact ⟨_, _, _, _, ho⟩
  · have l1 := ln _ _ _ _ _ q
    obtain ⟨pm, tv, ho⟩ := lamO_at e0.hok hf
    have nl : s.heap.NoLimit := e0.mod.nolimit.keeps fun b o z => (e0.bs b o z).1
    refine PySem.W.kla_callFunE hr.depth ho rfl S.co S.gen rfl (codeO_at e0.hok hc) ?_
    have l2 : us.length = ps.length := by rw [← r.length]; exact l1
    rw [bs pm tv us l2]
    refine wpAny_pure (wpAny_newFunctionEnv S.nocell (fun y hy => S.par y.1 (List.of_mem_zip (a := y.1) (b := y.2) hy).1) (fun h2 n2 b2 => ⟨nl.fresh _ b2, ?_⟩) S.kind)
    have st : ∀ b o, s.heap.get? b = some o → h2.get? b = some o := fun b o z => b2.extBut b o (Nat.ne_of_lt (Heap.lt_size z)) (Heap.get?_push_of_some _ z)
    obtain ⟨t, pt, qt⟩ := body A out s H vs ws Q E (hr.deeper _) q C.len
    have I : L2.Inv (ncx CX P w K mg base N F f A out s H E) [] (startF N vs ws) H { s with heap := h2, toks := s.toks + (ps.zip us).length } := inv_startN S hr.hd e0 l1 r C n2 st
    refine PySem.W.kla_codeExpr (wpAny_mono (pt.run [] _ _ H Q I qt) (fun v s2 z => ?_) fun _ _ z => z)
    obtain ⟨v2, H2, J, rv, z⟩ := z
    exact ⟨v2, H2, J.os, J.bare, J.base, J.hok, rv, z⟩
end
/-- a closure has been made at f, its code object is c -/
structure Made (T : List NTab) (H H1 : Hp) (f c : Addr) (FO : HO) (q : Str) : Prop where
  ext : LamX.ExtN H H1
  low : ∀ b ps, H1 b = some (.tbl ps) → ∃ qs, H b = some (.tbl qs)
  tab : TabsN T H1
  fre : H f = none
  isF : H1 f = some FO
  isC : H1 c = some (LamX.CodeO c q)
section
variable {X : Cx} {pins : List (Addr × Obj)} {σ : L2.St} {H : Hp} {s : Shared} {T : List NTab} {nm : Nat → Nat → Str} {P : Addr} {ps : Array Value} {pos : Pos} {q : Str}
theorem Made.lay {f c : Addr} {FO : HO} {H1 : Hp} (e : LamX.ExtN H H1) (l : ∀ b ps, H1 b = some (.tbl ps) → ∃ qs, H b = some (.tbl qs)) (t : TabsN T H1) (n : H1 f = none) (n0 : H f = none) (nt : ∀ ps, FO ≠ .tbl ps) (k : H1 c = some (LamX.CodeO c q)) : Made T H (upd H1 f FO) f c FO q := by
  have up : ∀ b o, H1 b = some o → upd H1 f FO b = some o := fun b o z => by rw [upd_ne (ne_of_none z n)]; exact z
  refine ⟨fun b o z w => up b o (e b o z w), fun b ps z => ?_, t.ext up, n0, upd_same, up _ _ k⟩
  by_cases w : b = f
  · rw [w, upd_same] at z
    exact absurd (Option.some.inj z) (nt ps)
  · rw [upd_ne w] at z
    exact l b ps z
/-- the table takes up a new code object -/
theorem new_code {c : Addr} {h2 : Heap} {tk : Tok} (I : L2.Inv X pins σ H s) (hm : (P, nm) ∈ T) (hn : nm pos.line pos.col = q) (hu : ∀ p ∈ T, p.1 = P → p.2 = nm) (hT : TabsN T H) (hP : H P = some (.tbl ps)) (ht : TriplesOk ps.toList) (ge : s.heap.objs.size ≤ c) (st : ∀ b o, b ≠ P → s.heap.get? b = some o → h2.get? b = some o)
    (tb : h2.get? P = some { cls := .none, data := .fields (ps ++ #[rawInt pos.line, rawInt pos.col, .ref c]) }) (cr : h2.CodeRec (.ref c) q) : ∃ H1, L2.Inv X pins σ H1 { s with heap := h2, toks := tk } ∧ LamX.ExtN H H1 ∧ (∀ b ps, H1 b = some (.tbl ps) → ∃ qs, H b = some (.tbl qs)) ∧ TabsN T H1 ∧ H1 c = some (LamX.CodeO c q) := by
  obtain ⟨ps', p1, _, p3⟩ := (show TabN H P nm from hT _ hm)
  rw [hP] at p1
  cases p1
  obtain ⟨c2, oc, vs, t, z, g1, g2, g3⟩ := cr
  cases z
  have nC : H c = none := I.hok.fresh ge
  have nP : P ≠ c := ne_of_none hP nC
  have I1 := LamX.inv_table (t' := tk) (h' := h2) I hP st tb ge ⟨oc, vs, t, g1, g2, g3⟩
  have ex : LamX.ExtN H (upd (upd H P (.tbl (ps ++ #[rawInt pos.line, rawInt pos.col, .ref c]))) c (LamX.CodeO c q)) := fun b o z n => by
    have b1 : b ≠ P := fun y => by rw [y, hP] at z; exact n ps (Option.some.inj z).symm
    rw [upd_ne (ne_of_none z nC), upd_ne b1]; exact z
  refine ⟨_, I1, ex, fun b qs z => ?_, fun p hp => ?_, upd_same⟩
  · by_cases b1 : b = c
    · rw [b1, upd_same] at z
      exact absurd (Option.some.inj z) (LamX.codeO_ne qs)
    · rw [upd_ne b1] at z
      by_cases b2 : b = P
      · exact ⟨ps, b2 ▸ hP⟩
      · rw [upd_ne b2] at z
        exact ⟨qs, z⟩
  · by_cases b2 : p.1 = P
    · rw [hu p hp b2, b2]
      refine ⟨_, by rw [upd_ne nP, upd_same], by rw [Array.toList_append]; exact PySem.TriplesOk_snoc _ _ _ _ ht, fun p2 cv z => ?_⟩
      rw [Array.toList_append] at z
      rcases among_app2 _ ht z with y | ⟨y, y1, y2⟩
      · obtain ⟨d, d1, d2⟩ := p3 p2 cv y
        exact ⟨d, d1, ex _ _ d2 LamX.codeO_ne⟩
      · exact ⟨c, y, by rw [← y1, ← y2, hn]; exact upd_same⟩
    · obtain ⟨rs, r1, r2, r3⟩ := hT p hp
      refine ⟨rs, by rw [upd_ne (ne_of_none r1 nC), upd_ne b2]; exact r1, r2, fun p2 cv z => ?_⟩
      obtain ⟨d, d1, d2⟩ := r3 p2 cv z
      exact ⟨d, d1, ex _ _ d2 LamX.codeO_ne⟩
theorem made_lam {c : Addr} {params : Arguments} {body : Expr} {sc : Scope} {E Q : Value → Shared → Prop} (I : L2.Inv X pins σ H s) (tb : LamX.TabB X.base X.mg c P) (hcode : X.env.code = .ref c) (hm : (P, nm) ∈ T) (hn : nm pos.line pos.col = X.env.qual ++ "<lambda>") (hu : ∀ p ∈ T, p.1 = P → p.2 = nm)
    (hT : TabsN T H) (hdef : defaultsOf params X.env = ([], [])) (hfree : ∀ y ∈ sc.names, y.2 = .free → ∃ c, X.env.cells.lookup y.1 = some c)
    (h : ∀ (f c' : Addr) (H1 : Hp) (s' : Shared), L2.Inv X pins σ H1 s' → Made T H H1 f c' (LamO f ⟨"<lambda>", X.env.qual ++ "<lambda>", params, [], sc, cloFrom X.env.cells sc.names [], c'⟩ body) (X.env.qual ++ "<lambda>") → Q (.ref f) s') :
    wpAny (model X.prog X.w) X.A (eval (.Lambda params body sc pos) X.env) Q E s := by
  obtain ⟨ps, hP, ht, at_⟩ := (show TabN H P nm from hT _ hm)
  have gP : s.heap.get? P = some { cls := .none, data := .fields ps } := I.hok P _ hP
  have bP : s.heap.BuiltinsAt X.mg P := tb.bm.keeps I.bk
  have nt : ∀ {f : Addr} {F : NF} {e : Expr} (ps : Array Value), LamO f F e ≠ .tbl ps := fun ps z => by unfold LamO at z; cases z
  have lay : ∀ {H1 : Hp} {hp : Heap} {t1 t2 : Tok} {pm tv : Value} {c' : Addr}, L2.Inv X pins σ H1 { s with heap := hp, toks := t1 } → L2.Inv X pins σ (upd H1 hp.objs.size (LamO hp.objs.size ⟨"<lambda>", X.env.qual ++ "<lambda>", params, [], sc, cloFrom X.env.cells sc.names [], c'⟩ body))
      { s with heap := hp.push (PySem.W.kla_obj "<lambda>" (X.env.qual ++ "<lambda>") params body sc (cloFrom X.env.cells sc.names []) pm c' tv), toks := t2 } := fun {H1 hp t1 t2 pm tv c'} J => by
    refine L2.Inv.laid (s := { s with heap := hp, toks := t1 }) J (fun b u z => Heap.get?_push_of_some _ z) (Nat.le_refl _) ?_
    have g : (hp.push (PySem.W.kla_obj "<lambda>" (X.env.qual ++ "<lambda>") params body sc (cloFrom X.env.cells sc.names []) pm c' tv)).get? hp.objs.size = some (PySem.W.kla_obj "<lambda>" (X.env.qual ++ "<lambda>") params body sc (cloFrom X.env.cells sc.names []) pm c' tv) := Heap.get?_push_size _ rfl
    simp only [LamO, ObjOk]
    exact ⟨⟨pm, tv, g⟩, ⟨_, g⟩, fun h1 h2 ⟨a, b, z⟩ y => ⟨a, b, y _ z⟩⟩
  refine PySem.W.kla_eval hdef ?_
  cases hc : codeAmong pos ps.toList with
  | none =>
    refine PySem.W.kla_makeFunction (mg := X.mg) (c := c) (P := P) (ps := ps) (closure_ok hfree) I.ok.glob (I.mod.glob.keeps I.bk) hcode (tb.code.keeps I.bk) gP ht hc tb.gP bP fun c' tv h2 tk hx ge lt cr h2P => ?_
    obtain ⟨H1, J, e1, e2, e3, e4⟩ := new_code (tk := tk) I hm hn hu hT hP ht ge hx h2P cr
    exact h _ c' _ _ (lay J) (.lay e1 e2 e3 (J.hok.fresh (Nat.le_refl _)) (I.hok.fresh (Nat.le_trans ge (Nat.le_of_lt lt))) nt e4)
  | some cv =>
    obtain ⟨c', z, co⟩ := at_ pos cv hc
    subst z
    rw [hn] at co
    refine PySem.W.kla_makeFunctionHit (mg := X.mg) (c := c) (P := P) (ps := ps) (closure_ok hfree) I.ok.glob (I.mod.glob.keeps I.bk) hcode (tb.code.keeps I.bk) gP ht hc bP fun tv h2 tk hx sz => ?_
    have J : L2.Inv X pins σ H { s with heap := h2, toks := tk } := I.kept hx
    have n := J.hok.fresh (Nat.le_refl _)
    exact h _ c' _ _ (lay J) (.lay (LamX.ExtN.refl H) (fun b ps z => ⟨ps, z⟩) hT n n nt co)
theorem made_def {c : Addr} {name : Str} {params : Arguments} {body : List Stmt} {sc : Scope} {E Q : Value → Shared → Prop} (I : L2.Inv X pins σ H s) (tb : LamX.TabB X.base X.mg c P) (hcode : X.env.code = .ref c) (hm : (P, nm) ∈ T) (hn : nm pos.line pos.col = X.env.qual ++ name) (hu : ∀ p ∈ T, p.1 = P → p.2 = nm)
    (hT : TabsN T H) (hfree : ∀ y ∈ sc.names, y.2 = .free → ∃ c, X.env.cells.lookup y.1 = some c)
    (h : ∀ (f c' : Addr) (H1 : Hp) (s' : Shared), L2.Inv X pins σ H1 s' → Made T H H1 f c' (FnO f ⟨name, X.env.qual ++ name, params, body, sc, cloFrom X.env.cells sc.names [], c'⟩) (X.env.qual ++ name) → Q (.ref f) s') :
    wpAny (model X.prog X.w) X.A (makeFunction name (X.env.qual ++ name) params (.stmts body) sc X.env [] [] [] pos pos.line) Q E s := by
  obtain ⟨ps, hP, ht, at_⟩ := (show TabN H P nm from hT _ hm)
  have gP : s.heap.get? P = some { cls := .none, data := .fields ps } := I.hok P _ hP
  have bP : s.heap.BuiltinsAt X.mg P := tb.bm.keeps I.bk
  cases hc : codeAmong pos ps.toList with
  | none =>
    refine PySem.W.makeFunction_K (mg := X.mg) (c := c) (P := P) (ps := ps) (closure_ok hfree) I.ok.glob (I.mod.glob.keeps I.bk) hcode (tb.code.keeps I.bk) gP ht hc tb.gP bP fun c' tv doc h2 tk hx ge lt cr h2P => ?_
    obtain ⟨H1, J, e1, e2, e3, e4⟩ := new_code (tk := tk) I hm hn hu hT hP ht ge hx h2P cr
    exact h _ c' _ _ (inv_fn J rfl) (.lay e1 e2 e3 (J.hok.fresh (Nat.le_refl _)) (I.hok.fresh (Nat.le_trans ge (Nat.le_of_lt lt))) fnO_ne e4)
  | some cv =>
    obtain ⟨c', z, co⟩ := at_ pos cv hc
    subst z
    rw [hn] at co
    refine PySem.W.makeFunction_hit (mg := X.mg) (c := c) (P := P) (ps := ps) (closure_ok hfree) I.ok.glob (I.mod.glob.keeps I.bk) hcode (tb.code.keeps I.bk) gP ht hc bP fun tv doc h2 tk hx sz => ?_
    have J : L2.Inv X pins σ H { s with heap := h2, toks := tk } := I.kept hx
    have n := J.hok.fresh (Nat.le_refl _)
    exact h _ c' _ _ (inv_fn J rfl) (.lay (LamX.ExtN.refl H) (fun b ps z => ⟨ps, z⟩) hT n n fnO_ne co)
end
end G

namespace G
open PySem PySem.Spec PyProof.Rows L2

/-! ### data, the drawing state, outcomes -/
inductive D where
  | non | bl (b : Bool) | int (i : Int) | str (x : Str)
  | lst (xs : List D) | tup (xs : List D)
  | obj (c : Nat) (fs : List D)
  | dct (ks : List Key) (ds : List D)
  | rng (lo hi : Int)
  | dc2 (ks : List (List Key)) (ds : List D)
  | clo (n : Nat) (caps : List D)
  | st
abbrev S := Int × Int
structure Xn where
  c : Nat
  arg : D
inductive Out (α : Type) where
  | bad | ok (a : α) (s : S) | exc (x : Xn) (s : S)
abbrev Mo (α : Type) := S → Out α
section
variable {α β γ : Type}
def ret (a : α) : Mo α := fun s => .ok a s
def bad : Mo α := fun _ => .bad
def thr (x : Xn) : Mo α := fun s => .exc x s
def bnd (m : Mo α) (k : α → Mo β) : Mo β := fun s => match m s with
  | .bad => .bad
  | .exc x s' => .exc x s'
  | .ok a s' => k a s'
theorem bnd_ret (a : α) (k : α → Mo β) : bnd (ret a) k = k a := rfl
theorem bnd_bad (k : α → Mo β) : bnd bad k = bad := rfl
theorem bnd_thr (x : Xn) (k : α → Mo β) : bnd (thr x) k = thr x := rfl
theorem bnd_assoc (m : Mo α) (k : α → Mo β) (l : β → Mo γ) : bnd (bnd m k) l = bnd m fun a => bnd (k a) l := by
  funext s; unfold bnd; cases m s <;> rfl
theorem bnd_eta (m : Mo α) : bnd m ret = m := by
  funext s; unfold bnd; cases m s <;> rfl
end

/-! ### what stands for data -/
/-- the fixed part: the written part, the state list's address, classes with their fields, exceptions with their one field -/
structure Gx where
  K : PySem.W.Frag
  sa : Addr
  me : Addr
  cl : Nat → Addr
  xc : Nat → Addr
  tabs : List NdefX.NTab := []
  cok : Nat → Addr → HO → Addr → Str → List (Str × Addr) → List Str → Prop := fun _ _ _ _ _ _ _ => False
/-- the fields of the program's classes by number, the one field of its errors -/
def fns : Nat → List Str
  | 0 => ["n", "table"]
  | 1 => ["zero", "group", "matrix"]
  | 2 => ["kind", "text", "data"]
  | _ => []
def xfs : Nat → Option Str
  | 2 => some "reason"
  | 3 => some "at"
  | _ => none
mutual
inductive Rep (Γ : Gx) (H : Hp) : V → D → Prop
  | non : Rep Γ H .non .non
  | bl (b : Bool) : Rep Γ H (.bl b) (.bl b)
  | int (i : Int) : Rep Γ H (.int i) (.int i)
  | str (x : Str) : Rep Γ H (.str x) (.str x)
  | lst {a : Addr} {vs : List V} {ds : List D} : H a = some (.lst vs) → vs.length ≤ sizeLine → Reps Γ H vs ds → Rep Γ H (.ref a) (.lst ds)
  | tup {a : Addr} {vs : List V} {ds : List D} : H a = some (.tup vs) → vs.length ≤ sizeLine → Reps Γ H vs ds → Rep Γ H (.ref a) (.tup ds)
  | obj {a dx : Addr} {c : Nat} {vs : List V} {ds : List D} : H a = some (.ins (Γ.cl c) dx ((fns c).zip vs)) → vs.length = (fns c).length → Reps Γ H vs ds → Rep Γ H (.ref a) (.obj c ds)
  | dct {a : Addr} {vs : List V} {ks : List Key} {ds : List D} : H a = some (.dK (ks.zip vs)) → ks.length = vs.length → vs.length ≤ sizeLine → Reps Γ H vs ds → Rep Γ H (.ref a) (.dct ks ds)
  | rng {a : Addr} {lo hi : Int} : H a = some (.rng lo hi) → Rep Γ H (.ref a) (.rng lo hi)
  | dc2 {a : Addr} {vs : List V} {ks : List (List Key)} {ds : List D} : H a = some (.dT (ks.zip vs)) → ks.length = vs.length → vs.length ≤ sizeLine → Reps Γ H vs ds → Rep Γ H (.ref a) (.dc2 ks ds)
  | clo {f c : Addr} {FO : HO} {q : Str} {cl : List (Str × Addr)} {fr : List Str} {cs : List Addr} {ws : List V} {n : Nat} {caps : List D} : Γ.cok n f FO c q cl fr → H f = some FO → H c = some (LamX.CodeO c q) → Held cl fr ws cs H → f ∉ cs → c ∉ cs → Reps Γ H ws caps → Rep Γ H (.ref f) (.clo n caps)
  | st : Rep Γ H (.ref Γ.sa) .st
inductive Reps (Γ : Gx) (H : Hp) : List V → List D → Prop
  | nil : Reps Γ H [] []
  | cons {v : V} {vs : List V} {d : D} {ds : List D} : Rep Γ H v d → Reps Γ H vs ds → Reps Γ H (v :: vs) (d :: ds)
end
section
variable {Γ : Gx} {H H' : Hp}
theorem Held.mono {cl : List (Str × Addr)} {fr : List Str} {ws : List V} {cs : List Addr} (d : Held cl fr ws cs H) (h : ∀ p o, H p = some o → H' p = some o) : Held cl fr ws cs H' := by
  refine ⟨d.len, fun c hc => ?_, fun c hc q z => ?_, d.cov, d.inj, fun i y e => ?_⟩
  · obtain ⟨o, v, a, b⟩ := d.all c hc
    exact ⟨o, v, h _ _ a, b⟩
  · obtain ⟨o, v, a, b⟩ := d.all c hc
    rw [h _ _ a] at z
    exact d.ncode c hc q (a.trans z)
  · obtain ⟨c, o, u, v, e1, e2, e3⟩ := d.has i y e
    exact ⟨c, o, u, v, e1, h _ _ e2, e3⟩
mutual
theorem Rep.mono (h : ∀ p o, H p = some o → H' p = some o) : ∀ {v : V} {d : D}, Rep Γ H v d → Rep Γ H' v d
  | _, _, .non => .non
  | _, _, .bl b => .bl b
  | _, _, .int i => .int i
  | _, _, .str x => .str x
  | _, _, .lst e l r => .lst (h _ _ e) l (Reps.mono h r)
  | _, _, .tup e l r => .tup (h _ _ e) l (Reps.mono h r)
  | _, _, .obj e l r => .obj (h _ _ e) l (Reps.mono h r)
  | _, _, .dct e l k r => .dct (h _ _ e) l k (Reps.mono h r)
  | _, _, .rng e => .rng (h _ _ e)
  | _, _, .dc2 e l k r => .dc2 (h _ _ e) l k (Reps.mono h r)
  | _, _, .clo k f c d n1 n2 r => .clo k (h _ _ f) (h _ _ c) (d.mono h) n1 n2 (Reps.mono h r)
  | _, _, .st => .st
theorem Reps.mono (h : ∀ p o, H p = some o → H' p = some o) : ∀ {vs : List V} {ds : List D}, Reps Γ H vs ds → Reps Γ H' vs ds
  | _, _, .nil => .nil
  | _, _, .cons a b => .cons (Rep.mono h a) (Reps.mono h b)
end
theorem Reps.length : ∀ {vs : List V} {ds : List D}, Reps Γ H vs ds → vs.length = ds.length
  | _, _, .nil => rfl
  | _, _, .cons _ b => by rw [List.length_cons, List.length_cons, Reps.length b]
theorem Reps.get : ∀ {vs : List V} {ds : List D} {i : Nat} {d : D}, Reps Γ H vs ds → ds[i]? = some d → ∃ v, vs[i]? = some v ∧ Rep Γ H v d
  | _, _, _, _, .nil, e => by simp at e
  | _, _, 0, _, .cons a _, e => by simp at e; subst e; exact ⟨_, rfl, a⟩
  | _, _, i + 1, d, .cons _ b, e => by
    obtain ⟨v, h1, h2⟩ := Reps.get (i := i) b (by simpa using e)
    exact ⟨v, by simpa using h1, h2⟩
theorem Reps.getV : ∀ {vs : List V} {ds : List D} {i : Nat} {v : V}, Reps Γ H vs ds → vs[i]? = some v → ∃ d, ds[i]? = some d ∧ Rep Γ H v d
  | _, _, _, _, .nil, e => by simp at e
  | _, _, 0, _, .cons a _, e => by simp at e; subst e; exact ⟨_, rfl, a⟩
  | _, _, i + 1, v, .cons _ b, e => by
    obtain ⟨d, h1, h2⟩ := Reps.getV (i := i) b (by simpa using e)
    exact ⟨d, by simpa using h1, h2⟩
theorem Reps.append : ∀ {vs ws : List V} {ds es : List D}, Reps Γ H vs ds → Reps Γ H ws es → Reps Γ H (vs ++ ws) (ds ++ es)
  | _, _, _, _, .nil, s => s
  | _, _, _, _, .cons a b, s => .cons a (Reps.append b s)
theorem Reps.set {v : V} {d : D} (r : Rep Γ H v d) : ∀ {vs : List V} {ds : List D} (i : Nat), Reps Γ H vs ds → Reps Γ H (vs.set i v) (ds.set i d)
  | _, _, _, .nil => .nil
  | _, _, 0, .cons _ t => .cons r t
  | _, _, i + 1, .cons q t => .cons q (Reps.set r i t)
theorem Reps.take : ∀ {vs : List V} {ds : List D} (n : Nat), Reps Γ H vs ds → Reps Γ H (vs.take n) (ds.take n)
  | _, _, 0, _ => .nil
  | _, _, _ + 1, .nil => .nil
  | _, _, n + 1, .cons r t => .cons r (Reps.take n t)
theorem Reps.drop : ∀ {vs : List V} {ds : List D} (n : Nat), Reps Γ H vs ds → Reps Γ H (vs.drop n) (ds.drop n)
  | _, _, 0, r => r
  | _, _, _ + 1, .nil => .nil
  | _, _, n + 1, .cons _ t => Reps.drop n t
theorem Reps.eraseIdx : ∀ {vs : List V} {ds : List D} (n : Nat), Reps Γ H vs ds → Reps Γ H (vs.eraseIdx n) (ds.eraseIdx n)
  | _, _, _, .nil => .nil
  | _, _, 0, .cons _ t => t
  | _, _, n + 1, .cons r t => .cons r (Reps.eraseIdx n t)
end

/-! ### masks, extensions -/
open Classical in
noncomputable def msk (M : Addr → Prop) (H : Hp) : Hp := fun p => if M p then none else H p
theorem msk_iff {M : Addr → Prop} {H : Hp} {p : Addr} {o : HO} : msk M H p = some o ↔ ¬ M p ∧ H p = some o := by
  unfold msk
  by_cases h : M p
  · rw [if_pos h]; simp [h]
  · rw [if_neg h]; simp [h]
/-- all but the state list stands as it stood; tables of code may grow -/
def Nt (o : HO) : Prop := ∀ ps, o ≠ .tbl ps
def Ext (sa : Addr) (H H' : Hp) : Prop := ∀ p o, H p = some o → p ≠ sa → Nt o → H' p = some o
theorem Ext.refl (sa : Addr) (H : Hp) : Ext sa H H := fun _ _ h _ _ => h
theorem Ext.trans {sa : Addr} {H H1 H2 : Hp} (a : Ext sa H H1) (b : Ext sa H1 H2) : Ext sa H H2 := fun p o h n t => b p o (a p o h n t) n t
theorem Ext.new {sa : Addr} {H : Hp} {p : Addr} {o : HO} (h : H p = none) : Ext sa H (upd H p o) := fun b x e _ _ => by
  rw [upd_ne (ne_of_none e h)]; exact e
/-- what may be masked: no tuple, nothing told by a property of the heap -/
def mkOk : HO → Bool
  | .tup _ => false
  | .ext _ => false
  | _ => true
def MkO (o : HO) : Prop := (∀ vs, o ≠ .tup vs) ∧ ∀ c q, o ≠ LamX.CodeO c q
theorem MkO.of {o : HO} (h : mkOk o = true) : MkO o := ⟨fun vs z => (by rw [z] at h; cases h), fun c q z => (by rw [z] at h; cases h)⟩
/-- the state lies at its address; the tables are those of Γ and no others -/
structure StOk (Γ : Gx) (H : Hp) (s : S) : Prop where
  at_ : H Γ.sa = some (.lst [.int s.1, .int s.2])
  tab : NdefX.TabsN Γ.tabs H
  oth : ∀ p ps, H p = some (.tbl ps) → ∃ t, t ∈ Γ.tabs ∧ t.1 = p
/-- the state and the tables are masked -/
structure Ms (Γ : Gx) (M : Addr → Prop) : Prop where
  sa : M Γ.sa
  tab : ∀ t, t ∈ Γ.tabs → M t.1
theorem Ms.or {Γ : Gx} {M N : Addr → Prop} (h : Ms Γ M) (i : ∀ p, M p → N p) : Ms Γ N := ⟨i _ h.sa, fun t m => i _ (h.tab t m)⟩
structure Ms0 (Γ : Gx) (M : Addr → Prop) (H : Hp) : Prop where
  mm : Ms Γ M
  oth : ∀ p ps, H p = some (.tbl ps) → ∃ t, t ∈ Γ.tabs ∧ t.1 = p
  ntu : ∀ p, M p → ∀ o, H p = some o → MkO o
structure HpOk (Γ : Gx) (M : Addr → Prop) (H : Hp) (s : S) : Prop where
  st : StOk Γ H s
  ms : M Γ.sa
  dom : ∀ p, M p → H p ≠ none
  mt : ∀ t, t ∈ Γ.tabs → M t.1
  nt : ∀ p, M p → ∀ o, H p = some o → MkO o
section
variable {Γ : Gx} {M : Addr → Prop} {H H' : Hp} {s s' : S}
theorem HpOk.mm (h : HpOk Γ M H s) : Ms Γ M := ⟨h.ms, h.mt⟩
theorem StOk.isTab (h : StOk Γ H s) {t : NdefX.NTab} (m : t ∈ Γ.tabs) : ∃ ps, H t.1 = some (.tbl ps) := by
  obtain ⟨ps, q, _⟩ := h.tab t m
  exact ⟨ps, q⟩
theorem HpOk.ntm (h : HpOk Γ M H s) {p : Addr} (m : ¬ M p) {o : HO} (e : H p = some o) : Nt o := fun ps z => by
  subst z
  obtain ⟨t, a, b⟩ := h.st.oth p ps e
  exact m (b ▸ h.mt t a)
theorem Ms0.of (h : HpOk Γ M H s) : Ms0 Γ M H := ⟨⟨h.ms, h.mt⟩, h.st.oth, h.nt⟩
theorem Ms0.ok (h : Ms0 Γ M H) (dom : ∀ p, M p → H p ≠ none) (e : Ext Γ.sa H H') (t : StOk Γ H' s') : HpOk Γ M H' s' := by
  have key : ∀ p, M p → ∃ o, H' p = some o ∧ MkO o := fun p hp => by
    cases q : H p with
    | none => exact absurd q (dom p hp)
    | some o =>
      by_cases hs : p = Γ.sa
      · subst hs; exact ⟨_, t.at_, .of rfl⟩
      · by_cases ht : ∃ ps, o = .tbl ps
        · obtain ⟨ps, rfl⟩ := ht
          obtain ⟨x, a, b⟩ := h.oth p ps q
          obtain ⟨qs, y⟩ := t.isTab a
          exact ⟨_, b ▸ y, .of rfl⟩
        · exact ⟨o, e p o q hs fun ps z => ht ⟨ps, z⟩, h.ntu p hp o q⟩
  refine ⟨t, h.mm.sa, fun p hp z => ?_, h.mm.tab, fun p hp o z => ?_⟩
  · obtain ⟨o, a, _⟩ := key p hp
    rw [a] at z; cases z
  · obtain ⟨o2, a, b⟩ := key p hp
    rw [a] at z
    exact Option.some.inj z ▸ b
theorem HpOk.ext (h : HpOk Γ M H s) (e : Ext Γ.sa H H') (t : StOk Γ H' s') : HpOk Γ M H' s' := (Ms0.of h).ok h.dom e t
theorem HpOk.fresh (h : HpOk Γ M H s) {p : Addr} (n : H p = none) : ¬ M p := fun z => h.dom p z n
theorem HpOk.mono (h : HpOk Γ M H s) (e : Ext Γ.sa H H') : ∀ p o, msk M H p = some o → msk M H' p = some o := fun p o q => by
  obtain ⟨a, b⟩ := msk_iff.mp q
  exact msk_iff.mpr ⟨a, e p o b (fun z => a (z ▸ h.ms)) (h.ntm a b)⟩
theorem HpOk.rep (h : HpOk Γ M H s) (e : Ext Γ.sa H H') {v : V} {d : D} (r : Rep Γ (msk M H) v d) : Rep Γ (msk M H') v d := r.mono (h.mono e)
theorem HpOk.reps (h : HpOk Γ M H s) (e : Ext Γ.sa H H') {v : List V} {d : List D} (r : Reps Γ (msk M H) v d) : Reps Γ (msk M H') v d := r.mono (h.mono e)
theorem StOk.upd (h : StOk Γ H s) {p : Addr} {o : HO} (n : H p = none) (t : Nt o) : StOk Γ (upd H p o) s := by
  refine ⟨by rw [upd_ne (ne_of_none h.at_ n)]; exact h.at_, fun x hx => ?_, fun q ps e => ?_⟩
  · obtain ⟨ps, a, b, c⟩ := h.tab x hx
    refine ⟨ps, by rw [upd_ne (ne_of_none a n)]; exact a, b, fun pos cv z => ?_⟩
    obtain ⟨k, z1, z2⟩ := c pos cv z
    exact ⟨k, z1, by rw [upd_ne (ne_of_none z2 n)]; exact z2⟩
  · by_cases w : q = p
    · subst w
      rw [upd_same] at e
      exact absurd (Option.some.inj e) (t ps)
    · rw [upd_ne w] at e
      exact h.oth q ps e
/-- plain things: no table, no tuple, no code -/
def Pl (o : HO) : Prop := Nt o ∧ MkO o
theorem StOk.back (h : StOk Γ H s) (t : StOk Γ H' s') (e : Ext Γ.sa H H') {p : Addr} (np : H' p = none) : H p = none := by
  cases q : H p with
  | none => rfl
  | some o =>
    by_cases hs : p = Γ.sa
    · rw [hs, t.at_] at np; cases np
    · by_cases ht : ∃ ps, o = .tbl ps
      · obtain ⟨ps, rfl⟩ := ht
        obtain ⟨x, a, b⟩ := h.oth p ps q
        obtain ⟨qs, y⟩ := t.isTab a
        rw [← b, y] at np; cases np
      · rw [e p o q hs fun ps z => ht ⟨ps, z⟩] at np; cases np
/-- a plain thing gives way to a plain thing -/
theorem StOk.set (h : StOk Γ H s) {p : Addr} {o o' : HO} (e : H p = some o) (w : Pl o) (w' : Pl o') (n : p ≠ Γ.sa) : StOk Γ (L2.upd H p o') s := by
  refine ⟨by rw [upd_ne n.symm]; exact h.at_, fun x hx => ?_, fun q ps z => ?_⟩
  · obtain ⟨ps, a, b, c⟩ := h.tab x hx
    have ne : x.1 ≠ p := fun z => by rw [z, e] at a; exact w.1 ps (Option.some.inj a)
    refine ⟨ps, by rw [upd_ne ne]; exact a, b, fun pos cv z => ?_⟩
    obtain ⟨k, z1, z2⟩ := c pos cv z
    have nk : k ≠ p := fun y => by rw [y, e] at z2; exact w.2.2 _ _ (Option.some.inj z2)
    exact ⟨k, z1, by rw [upd_ne nk]; exact z2⟩
  · by_cases y : q = p
    · subst y
      rw [upd_same] at z
      exact absurd (Option.some.inj z) (w'.1 ps)
    · rw [upd_ne y] at z
      exact h.oth q ps z
theorem StOk.cast {Γ' : Gx} (h : StOk Γ H s) (a : Γ'.sa = Γ.sa) (b : Γ'.tabs = Γ.tabs) : StOk Γ' H s := ⟨by rw [a]; exact h.at_, by rw [b]; exact h.tab, by rw [b]; exact h.oth⟩
theorem StOk.more (h : StOk Γ H s) (a : ∀ q o, H q = some o → H' q = some o) (b : ∀ q ps, H' q = some (.tbl ps) → H q = some (.tbl ps)) : StOk Γ H' s := by
  refine ⟨a _ _ h.at_, fun x hx => ?_, fun p ps e => h.oth p ps (b p ps e)⟩
  obtain ⟨ps, y1, y2, y3⟩ := h.tab x hx
  refine ⟨ps, a _ _ y1, y2, fun pos cv z => ?_⟩
  obtain ⟨k, z1, z2⟩ := y3 pos cv z
  exact ⟨k, z1, a _ _ z2⟩
theorem StOk.like (h : StOk Γ H s) (n : H' Γ.sa = H Γ.sa) (a : ∀ p o, H p = some o → ¬ Pl o → H' p = some o) (b : ∀ p o, H' p = some o → ¬ Pl o → H p = some o) : StOk Γ H' s := by
  refine ⟨n.trans h.at_, fun x hx => ?_, fun q ps z => h.oth q ps (b q _ z fun w => w.1 ps rfl)⟩
  obtain ⟨ps, y1, y2, y3⟩ := h.tab x hx
  refine ⟨ps, a _ _ y1 fun w => w.1 ps rfl, y2, fun pos cv z => ?_⟩
  obtain ⟨k, z1, z2⟩ := y3 pos cv z
  exact ⟨k, z1, a _ _ z2 fun w => w.2.2 _ _ rfl⟩
theorem HpOk.setM (h : HpOk Γ M H s) {p : Addr} {o o' : HO} (e : H p = some o) (n : p ≠ Γ.sa) (w : Pl o := by exact ⟨nofun, nofun, fun _ _ z => HO.noConfusion z⟩) (w' : Pl o' := by exact ⟨nofun, nofun, fun _ _ z => HO.noConfusion z⟩) : HpOk Γ M (L2.upd H p o') s := by
  refine ⟨h.st.set e w w' n, h.ms, fun q hq => ?_, h.mt, fun q hq x z => ?_⟩
  · by_cases y : q = p
    · rw [y, upd_same]; exact fun z => by cases z
    · rw [upd_ne y]; exact h.dom q hq
  · by_cases y : q = p
    · rw [y, upd_same] at z; exact Option.some.inj z ▸ w'.2
    · rw [upd_ne y] at z; exact h.nt q hq x z
theorem HpOk.addM (h : HpOk Γ M H s) {p : Addr} {o : HO} (n : H p = none) (w : Pl o := by exact ⟨nofun, nofun, fun _ _ z => HO.noConfusion z⟩) : HpOk Γ (fun a => M a ∨ a = p) (L2.upd H p o) s := by
  have out : ∀ q, M q → q ≠ p := fun q hq z => h.dom q hq (z ▸ n)
  refine ⟨h.st.upd n w.1, .inl h.ms, fun q hq => ?_, fun t m => .inl (h.mt t m), fun q hq x z => ?_⟩
  · rcases hq with hq | hq
    · rw [upd_ne (out q hq)]; exact h.dom q hq
    · rw [hq, upd_same]; exact fun z => by cases z
  · rcases hq with hq | hq
    · rw [upd_ne (out q hq)] at z; exact h.nt q hq x z
    · rw [hq, upd_same] at z; exact Option.some.inj z ▸ w.2
theorem HpOk.newSt (h : HpOk Γ M H s) {p : Addr} {o : HO} (n : H p = none) (t : Nt o := by exact nofun) : StOk Γ (upd H p o) s := h.st.upd n t
theorem HpOk.newAt (h : HpOk Γ M H s) {p : Addr} {o : HO} (n : H p = none) : msk M (upd H p o) p = some o := msk_iff.mpr ⟨h.fresh n, upd_same⟩
theorem HpOk.new (h : HpOk Γ M H s) {p : Addr} {o : HO} (n : H p = none) (t : Nt o := by exact nofun) : HpOk Γ M (upd H p o) s := h.ext (Ext.new n) (h.newSt n t)
/-- a new tuple, a new list -/
theorem HpOk.tupNew (h : HpOk Γ M H s) {p : Addr} {vs : List V} {ds : List D} (n : H p = none) (l : vs.length ≤ sizeLine) (r : Reps Γ (msk M H) vs ds) : Rep Γ (msk M (upd H p (.tup vs))) (.ref p) (.tup ds) :=
  .tup (h.newAt n) l (h.reps (Ext.new n) r)
theorem HpOk.lstNew (h : HpOk Γ M H s) {p : Addr} {vs : List V} {ds : List D} (n : H p = none) (l : vs.length ≤ sizeLine) (r : Reps Γ (msk M H) vs ds) : Rep Γ (msk M (upd H p (.lst vs))) (.ref p) (.lst ds) :=
  .lst (h.newAt n) l (h.reps (Ext.new n) r)
end

/-! ### an exception as it lies -/
def XRep (Γ : Gx) (H : Hp) (x : Xn) (cls : Value) (dx : Option Addr) : Prop :=
  cls = .ref (Γ.xc x.c) ∧ match xfs x.c with
    | none => dx = none
    | some f => ∃ d v, dx = some d ∧ H d = some (.xd [(f, v)]) ∧ Rep Γ H v x.arg

/-! ### what follows an outcome -/
def PostR {α β : Type} (Γ : Gx) (E : XK) (M : Addr → Prop) (R : β → Hp → α → Prop) (H : Hp) (o : Out α) (Q : β → Hp → Prop) : Prop := match o with
  | .bad => False
  | .ok a s => ∀ v H', Ext Γ.sa H H' → StOk Γ H' s → R v H' a → Q v H'
  | .exc x s => ∀ cls dx H', Ext Γ.sa H H' → StOk Γ H' s → XRep Γ (msk M H') x cls dx → E cls dx H'
abbrev RD (Γ : Gx) (M : Addr → Prop) : V → Hp → D → Prop := fun v H d => Rep Γ (msk M H) v d
abbrev RDs (Γ : Gx) (M : Addr → Prop) : List V → Hp → List D → Prop := fun v H d => Reps Γ (msk M H) v d
abbrev RB : Bool → Hp → Bool → Prop := fun b _ c => b = c
theorem PostR.bnd {α β α' β' : Type} {Γ : Gx} {E : XK} {M : Addr → Prop} {R : β → Hp → α → Prop} {R' : β' → Hp → α' → Prop} {H : Hp} {m : Mo α} {k : α → Mo α'} {s : S} {Q : β' → Hp → Prop} {P : β → Hp → Prop}
    (h : PostR Γ E M R' H (bnd m k s) Q) (n : ∀ a s1 v H1, Ext Γ.sa H H1 → StOk Γ H1 s1 → R v H1 a → PostR Γ E M R' H1 (k a s1) Q → P v H1) : PostR Γ E M R H (m s) P := by
  unfold G.bnd at h
  cases e : m s with
  | bad => rw [e] at h; exact h
  | exc x s1 => rw [e] at h; exact h
  | ok a s1 =>
    rw [e] at h
    intro v H1 ex st r
    refine n a s1 v H1 ex st r ?_
    show PostR Γ E M R' H1 (k a s1) Q
    have h : PostR Γ E M R' H (k a s1) Q := h
    cases e2 : k a s1 with
    | bad => rw [e2] at h; exact h
    | exc x s2 => rw [e2] at h; exact fun cls dx H' x1 x2 x3 => h cls dx H' (ex.trans x1) x2 x3
    | ok b s2 => rw [e2] at h; exact fun v H' x1 x2 x3 => h v H' (ex.trans x1) x2 x3
theorem PostR.here {α β : Type} {Γ : Gx} {E : XK} {M : Addr → Prop} {R : β → Hp → α → Prop} {H : Hp} {a : α} {s : S} {Q : β → Hp → Prop} (h : PostR Γ E M R H (ret a s) Q) {v : β} (st : StOk Γ H s) (r : R v H a) : Q v H := h v H (.refl _ _) st r

/-! ### slots -/
inductive Sl where
  | no | me | val (d : D) | own (ds : List D) | own2 (rows : List (List D)) | ownd (ks : List Key) (ds : List D) | ownl (ks : List Key) (rows : List (List D)) | owne (ks : List (List Key)) (ds : List D) | ownm (ks : List (List Key)) (rows : List (List D))
abbrev Ev := List Sl
abbrev Ow := Nat → List Addr
/-- the list at p, its items under the mask -/
def LstAt (Γ : Gx) (M : Addr → Prop) (H : Hp) (p : Addr) (ds : List D) : Prop := ∃ vs, H p = some (.lst vs) ∧ vs.length ≤ sizeLine ∧ Reps Γ (msk M H) vs ds
/-- the dict at p -/
def DctAt (Γ : Gx) (M : Addr → Prop) (H : Hp) (p : Addr) (ks : List Key) (ds : List D) : Prop := ∃ vs, H p = some (.dK (ks.zip vs)) ∧ ks.length = vs.length ∧ vs.length ≤ sizeLine ∧ Reps Γ (msk M H) vs ds
/-- the dict at p, its keys tuples -/
def DctAt2 (Γ : Gx) (M : Addr → Prop) (H : Hp) (p : Addr) (ks : List (List Key)) (ds : List D) : Prop := ∃ vs, H p = some (.dT (ks.zip vs)) ∧ ks.length = vs.length ∧ vs.length ≤ sizeLine ∧ Reps Γ (msk M H) vs ds
/-- what a def owns in a slot, at the addresses as -/
def OwnS (Γ : Gx) (M : Addr → Prop) (H : Hp) (v : V) (as : List Addr) : Sl → Prop
  | .own ds => ∃ a, v = .ref a ∧ as = [a] ∧ LstAt Γ M H a ds
  | .own2 rows => ∃ a bs, v = .ref a ∧ as = a :: bs ∧ H a = some (.lst (bs.map V.ref)) ∧ bs.length ≤ sizeLine ∧ Paired (LstAt Γ M H) bs rows
  | .ownd ks ds => ∃ a, v = .ref a ∧ as = [a] ∧ DctAt Γ M H a ks ds
  | .ownl ks rows => ∃ a bs, v = .ref a ∧ as = a :: bs ∧ H a = some (.dK (ks.zip (bs.map V.ref))) ∧ ks.length = bs.length ∧ bs.length ≤ sizeLine ∧ Paired (LstAt Γ M H) bs rows
  | .owne ks ds => ∃ a, v = .ref a ∧ as = [a] ∧ DctAt2 Γ M H a ks ds
  | .ownm ks rows => ∃ a bs, v = .ref a ∧ as = a :: bs ∧ H a = some (.dT (ks.zip (bs.map V.ref))) ∧ ks.length = bs.length ∧ bs.length ≤ sizeLine ∧ Paired (LstAt Γ M H) bs rows
  | _ => False
def isOwn : Sl → Bool
  | .own _ => true
  | .own2 _ => true
  | .ownd _ _ => true
  | .ownl _ _ => true
  | .owne _ _ => true
  | .ownm _ _ => true
  | _ => false
structure RepX (Γ : Gx) (M : Addr → Prop) (O : Ow) (σ : L2.St) (env : Ev) (H : Hp) (s : S) : Prop where
  val : ∀ (i : Nat) (d : D), env[i]? = some (Sl.val d) → ∃ v, σ[i]? = some (some v) ∧ Rep Γ (msk M H) v d
  own : ∀ (i : Nat) (sl : Sl), env[i]? = some sl → isOwn sl = true → ∃ v, σ[i]? = some (some v) ∧ OwnS Γ M H v (O i) sl
  non : ∀ (i : Nat), (∀ sl, env[i]? = some sl → isOwn sl = false) → O i = []
  inM : ∀ (i : Nat) (a : Addr), a ∈ O i → M a ∧ a ≠ Γ.sa
  nod : ∀ (i : Nat), (O i).Nodup
  dis : ∀ (i j : Nat) (a : Addr), a ∈ O i → a ∈ O j → i = j
  ok : HpOk Γ M H s
  len : env.length = σ.length
  mee : ∀ (i : Nat), env[i]? = some Sl.me → σ[i]? = some (some (V.ref Γ.me))
theorem Paired.imp {α β : Type} {F G : α → β → Prop} : ∀ {l₁ : List α} {l₂ : List β}, Paired F l₁ l₂ → (∀ a b, a ∈ l₁ → F a b → G a b) → Paired G l₁ l₂
  | _, _, .nil, _ => .nil
  | _, _, .cons a t, h => .cons (h _ _ List.mem_cons_self a) (Paired.imp t fun x y m => h x y (List.mem_cons_of_mem _ m))
/-- what is owned stays, where its addresses keep their lists and the items stay -/
theorem OwnS.keep {Γ : Gx} {M N : Addr → Prop} {H H' : Hp} {v : V} {as : List Addr} {sl : Sl} (o : OwnS Γ M H v as sl) (h1 : ∀ a ∈ as, ∀ u, H a = some u → H' a = some u) (h2 : ∀ p u, msk M H p = some u → msk N H' p = some u) : OwnS Γ N H' v as sl := by
  have hL : ∀ {p : Addr} {ds : List D}, p ∈ as → LstAt Γ M H p ds → LstAt Γ N H' p ds := fun hp ⟨vs, a, b, c⟩ => ⟨vs, h1 _ hp _ a, b, c.mono h2⟩
  cases sl with
  | no => exact o
  | me => exact o
  | val _ => exact o
  | own ds =>
    obtain ⟨a, e1, e2, l⟩ := o
    exact ⟨a, e1, e2, hL (by rw [e2]; exact List.mem_cons_self) l⟩
  | own2 rows =>
    obtain ⟨a, bs, e1, e2, e3, e4, e5⟩ := o
    exact ⟨a, bs, e1, e2, h1 a (by rw [e2]; exact List.mem_cons_self) _ e3, e4, Paired.imp e5 fun b r hb l => hL (by rw [e2]; exact List.mem_cons_of_mem _ hb) l⟩
  | ownd ks ds =>
    obtain ⟨a, e1, e2, vs, d1, d2, d3, d4⟩ := o
    exact ⟨a, e1, e2, vs, h1 a (by rw [e2]; exact List.mem_cons_self) _ d1, d2, d3, d4.mono h2⟩
  | ownl ks rows =>
    obtain ⟨a, bs, e1, e2, e3, e4, e5, e6⟩ := o
    exact ⟨a, bs, e1, e2, h1 a (by rw [e2]; exact List.mem_cons_self) _ e3, e4, e5, Paired.imp e6 fun b r hb l => hL (by rw [e2]; exact List.mem_cons_of_mem _ hb) l⟩
  | owne ks ds =>
    obtain ⟨a, e1, e2, vs, d1, d2, d3, d4⟩ := o
    exact ⟨a, e1, e2, vs, h1 a (by rw [e2]; exact List.mem_cons_self) _ d1, d2, d3, d4.mono h2⟩
  | ownm ks rows =>
    obtain ⟨a, bs, e1, e2, e3, e4, e5, e6⟩ := o
    exact ⟨a, bs, e1, e2, h1 a (by rw [e2]; exact List.mem_cons_self) _ e3, e4, e5, Paired.imp e6 fun b r hb l => hL (by rw [e2]; exact List.mem_cons_of_mem _ hb) l⟩
theorem paired_there {Γ : Gx} {M : Addr → Prop} {H : Hp} {b : Addr} : ∀ {bs : List Addr} {rows : List (List D)}, Paired (LstAt Γ M H) bs rows → b ∈ bs → ∃ xs, H b = some (.lst xs)
  | _, _, .cons x t, hb => by
    rcases List.mem_cons.mp hb with hb | hb
    · rw [hb]
      obtain ⟨vs, q, _⟩ := x
      exact ⟨_, q⟩
    · exact paired_there t hb
theorem OwnS.there {Γ : Gx} {M : Addr → Prop} {H : Hp} {v : V} {as : List Addr} {sl : Sl} (o : OwnS Γ M H v as sl) : ∀ a ∈ as, ∃ u, H a = some u := by
  cases sl with
  | no => exact o.elim
  | me => exact o.elim
  | val _ => exact o.elim
  | own ds =>
    obtain ⟨a, e1, e2, vs, l, _⟩ := o
    intro b hb
    rw [e2] at hb
    rw [List.mem_singleton.mp hb]
    exact ⟨_, l⟩
  | own2 rows =>
    obtain ⟨a, bs, e1, e2, e3, e4, e5⟩ := o
    intro b hb
    rw [e2] at hb
    rcases List.mem_cons.mp hb with hb | hb
    · rw [hb]; exact ⟨_, e3⟩
    · have : ∀ {bs : List Addr} {rows : List (List D)}, Paired (LstAt Γ M H) bs rows → b ∈ bs → ∃ u, H b = some u := fun p => by
        induction p with
        | nil => exact fun z => by cases z
        | cons x _ ih =>
          intro hb
          rcases List.mem_cons.mp hb with hb | hb
          · rw [hb]
            obtain ⟨vs, q, _⟩ := x
            exact ⟨_, q⟩
          · exact ih hb
      exact this e5 hb
  | ownd ks ds =>
    obtain ⟨a, e1, e2, vs, l, _⟩ := o
    intro b hb
    rw [e2] at hb
    rw [List.mem_singleton.mp hb]
    exact ⟨_, l⟩
  | ownl ks rows =>
    obtain ⟨a, bs, e1, e2, e3, e4, e5, e6⟩ := o
    intro b hb
    rw [e2] at hb
    rcases List.mem_cons.mp hb with hb | hb
    · rw [hb]; exact ⟨_, e3⟩
    · obtain ⟨xs, q⟩ := paired_there e6 hb
      exact ⟨_, q⟩
  | owne ks ds =>
    obtain ⟨a, e1, e2, vs, l, _⟩ := o
    intro b hb
    rw [e2] at hb
    rw [List.mem_singleton.mp hb]
    exact ⟨_, l⟩
  | ownm ks rows =>
    obtain ⟨a, bs, e1, e2, e3, e4, e5, e6⟩ := o
    intro b hb
    rw [e2] at hb
    rcases List.mem_cons.mp hb with hb | hb
    · rw [hb]; exact ⟨_, e3⟩
    · obtain ⟨xs, q⟩ := paired_there e6 hb
      exact ⟨_, q⟩
theorem OwnS.thereN {Γ : Gx} {M : Addr → Prop} {H : Hp} {v : V} {as : List Addr} {sl : Sl} (o : OwnS Γ M H v as sl) : ∀ a ∈ as, ∀ u, H a = some u → Pl u := by
  have two : ∀ {a : Addr} {x : HO}, H a = some x → Pl x → ∀ u, H a = some u → Pl u := fun {a x} e n u h => by
    rw [e] at h
    cases Option.some.inj h
    exact n
  cases sl with
  | no => exact o.elim
  | me => exact o.elim
  | val _ => exact o.elim
  | own ds =>
    obtain ⟨a, e1, e2, vs, l, _⟩ := o
    intro b hb
    rw [e2] at hb
    rw [List.mem_singleton.mp hb]
    exact two l ⟨nofun, nofun, fun _ _ z => HO.noConfusion z⟩
  | own2 rows =>
    obtain ⟨a, bs, e1, e2, e3, e4, e5⟩ := o
    intro b hb
    rw [e2] at hb
    rcases List.mem_cons.mp hb with hb | hb
    · rw [hb]; exact two e3 ⟨nofun, nofun, fun _ _ z => HO.noConfusion z⟩
    · obtain ⟨xs, q⟩ := paired_there e5 hb
      exact two q ⟨nofun, nofun, fun _ _ z => HO.noConfusion z⟩
  | ownd ks ds =>
    obtain ⟨a, e1, e2, vs, l, _⟩ := o
    intro b hb
    rw [e2] at hb
    rw [List.mem_singleton.mp hb]
    exact two l ⟨nofun, nofun, fun _ _ z => HO.noConfusion z⟩
  | ownl ks rows =>
    obtain ⟨a, bs, e1, e2, e3, e4, e5, e6⟩ := o
    intro b hb
    rw [e2] at hb
    rcases List.mem_cons.mp hb with hb | hb
    · rw [hb]; exact two e3 ⟨nofun, nofun, fun _ _ z => HO.noConfusion z⟩
    · obtain ⟨xs, q⟩ := paired_there e6 hb
      exact two q ⟨nofun, nofun, fun _ _ z => HO.noConfusion z⟩
  | owne ks ds =>
    obtain ⟨a, e1, e2, vs, l, _⟩ := o
    intro b hb
    rw [e2] at hb
    rw [List.mem_singleton.mp hb]
    exact two l ⟨nofun, nofun, fun _ _ z => HO.noConfusion z⟩
  | ownm ks rows =>
    obtain ⟨a, bs, e1, e2, e3, e4, e5, e6⟩ := o
    intro b hb
    rw [e2] at hb
    rcases List.mem_cons.mp hb with hb | hb
    · rw [hb]; exact two e3 ⟨nofun, nofun, fun _ _ z => HO.noConfusion z⟩
    · obtain ⟨xs, q⟩ := paired_there e6 hb
      exact two q ⟨nofun, nofun, fun _ _ z => HO.noConfusion z⟩
theorem RepX.notab {Γ : Gx} {M : Addr → Prop} {O : Ow} {σ : L2.St} {env : Ev} {H : Hp} {s : S} (x : RepX Γ M O σ env H s) {i : Nat} {t : NdefX.NTab} (m : t ∈ Γ.tabs) : t.1 ∉ O i := fun z => by
  by_cases h : ∃ sl, env[i]? = some sl ∧ isOwn sl = true
  · obtain ⟨sl, h1, h2⟩ := h
    obtain ⟨v, _, o⟩ := x.own i sl h1 h2
    obtain ⟨ps, q⟩ := x.ok.st.isTab m
    exact (o.thereN _ z _ q).1 ps rfl
  · rw [x.non i fun sl e => by cases q : isOwn sl with | false => rfl | true => exact absurd ⟨sl, e, q⟩ h] at z
    cases z
theorem RepX.ext {Γ : Gx} {M : Addr → Prop} {O : Ow} {σ : L2.St} {env : Ev} {H H' : Hp} {s s' : S} (x : RepX Γ M O σ env H s) (e : Ext Γ.sa H H') (t : StOk Γ H' s') : RepX Γ M O σ env H' s' where
  val i d h := by
    obtain ⟨v, a, b⟩ := x.val i d h
    exact ⟨v, a, x.ok.rep e b⟩
  own i sl h ho := by
    obtain ⟨v, h1, h2⟩ := x.own i sl h ho
    exact ⟨v, h1, h2.keep (fun a ha u hu => e a u hu (x.inM i a ha).2 (h2.thereN a ha u hu).1) (x.ok.mono e)⟩
  non := x.non
  inM := x.inM
  nod := x.nod
  dis := x.dis
  ok := x.ok.ext e t
  len := x.len
  mee := x.mee

/-! ### readings that give data -/
def DE (Γ : Gx) (E : XK) (t : TE) (f : Ev → Mo D) : Prop := ∀ M O σ env H s, RepX Γ M O σ env H s → ∀ Q, PostR Γ E M (RD Γ M) H (f env s) Q → t σ H Q
def DA (Γ : Gx) (E : XK) (t : TA) (f : Ev → Mo (List D)) : Prop := ∀ M O σ env H s, RepX Γ M O σ env H s → ∀ Q, PostR Γ E M (RDs Γ M) H (f env s) Q → t σ H Q
def DT (Γ : Gx) (E : XK) (t : TT) (f : Ev → Mo Bool) : Prop := ∀ M O σ env H s, RepX Γ M O σ env H s → ∀ Q, PostR Γ E M RB H (f env s) Q → t σ H Q
def Op1 (Γ : Gx) (E : XK) (r : V → Hp → VK → Prop) (op : D → Mo D) : Prop := ∀ M H s x a, HpOk Γ M H s → Rep Γ (msk M H) x a → ∀ Q, PostR Γ E M (RD Γ M) H (op a s) Q → r x H Q
def Op2 (Γ : Gx) (E : XK) (r : R2) (op : D → D → Mo D) : Prop := ∀ M H s x y a b, HpOk Γ M H s → Rep Γ (msk M H) x a → Rep Γ (msk M H) y b → ∀ Q, PostR Γ E M (RD Γ M) H (op a b s) Q → r x y H Q
def OpL (Γ : Gx) (E : XK) (r : List V → Hp → VK → Prop) (op : List D → Mo D) : Prop := ∀ M H s xs as, HpOk Γ M H s → Reps Γ (msk M H) xs as → ∀ Q, PostR Γ E M (RD Γ M) H (op as s) Q → r xs H Q

section
variable {Γ : Gx} {E : XK}
def getD (i : Nat) (env : Ev) : Mo D := match env[i]? with
  | some (.val d) => ret d
  | _ => bad
theorem de_var (i : Nat) : DE Γ E (tVar i) (getD i) := fun M O σ env H s x Q h => by
  unfold getD at h
  cases e : env[i]? with
  | none => rw [e] at h; exact h.elim
  | some sl =>
    rw [e] at h
    cases sl with
    | no => exact h.elim
    | me => exact h.elim
    | own ds => exact h.elim
    | own2 ds => exact h.elim
    | ownd ks ds => exact h.elim
    | ownl ks ds => exact h.elim
    | owne ks ds => exact h.elim
    | ownm ks ds => exact h.elim
    | val d =>
      obtain ⟨v, h1, h2⟩ := x.val i d e
      exact ⟨v, h1, h.here x.ok.st h2⟩
def cD (d : D) : Ev → Mo D := fun _ => ret d
theorem de_int {i : Int} : DE Γ E (tC (.int i)) (cD (.int i)) := fun M O σ env H s x Q h => h.here x.ok.st (.int i)
theorem de_bl {i : Bool} : DE Γ E (tC (.bl i)) (cD (.bl i)) := fun M O σ env H s x Q h => h.here x.ok.st (.bl i)
theorem de_str {i : Str} : DE Γ E (tC (.str i)) (cD (.str i)) := fun M O σ env H s x Q h => h.here x.ok.st (.str i)
theorem de_non : DE Γ E (tC .non) (cD .non) := fun M O σ env H s x Q h => h.here x.ok.st .non

def op2D (op : D → D → Mo D) (fa fb : Ev → Mo D) : Ev → Mo D := fun env => bnd (fa env) fun a => bnd (fb env) fun b => op a b
theorem de_op2 {r : R2} {op : D → D → Mo D} {ta tb : TE} {fa fb : Ev → Mo D} (o : Op2 Γ E r op) (ha : DE Γ E ta fa) (hb : DE Γ E tb fb) : DE Γ E (tOp r ta tb) (op2D op fa fb) := fun M O σ env H s x Q h => by
  refine ha M O σ env H s x _ (PostR.bnd h fun a s1 v H1 e1 t1 r1 h1 => ?_)
  refine hb M O σ env H1 s1 (x.ext e1 t1) _ (PostR.bnd h1 fun b s2 u H2 e2 t2 r2 h2 => ?_)
  exact o M H2 s2 v u a b ((x.ok.ext e1 t1).ext e2 t2) ((x.ok.ext e1 t1).rep e2 r1) r2 Q h2
def op1D (op : D → Mo D) (fa : Ev → Mo D) : Ev → Mo D := fun env => bnd (fa env) op
theorem de_op1 {r : V → Hp → VK → Prop} {op : D → Mo D} {ta : TE} {fa : Ev → Mo D} (o : Op1 Γ E r op) (ha : DE Γ E ta fa) : DE Γ E (tUn r ta) (op1D op fa) := fun M O σ env H s x Q h => by
  refine ha M O σ env H s x _ (PostR.bnd h fun a s1 v H1 e1 t1 r1 h1 => ?_)
  exact o M H1 s1 v a (x.ok.ext e1 t1) r1 Q h1

def nilA : Ev → Mo (List D) := fun _ => ret []
def consA (f : Ev → Mo D) (g : Ev → Mo (List D)) : Ev → Mo (List D) := fun env => bnd (f env) fun a => bnd (g env) fun as => ret (a :: as)
theorem da_nil : DA Γ E tNil nilA := fun M O σ env H s x Q h => h.here x.ok.st .nil
theorem da_cons {te : TE} {t : TA} {f : Ev → Mo D} {g : Ev → Mo (List D)} (he : DE Γ E te f) (ht : DA Γ E t g) : DA Γ E (tCons te t) (consA f g) := fun M O σ env H s x Q h => by
  refine he M O σ env H s x _ (PostR.bnd h fun a s1 v H1 e1 t1 r1 h1 => ?_)
  refine ht M O σ env H1 s1 (x.ext e1 t1) _ (PostR.bnd h1 fun b s2 u H2 e2 t2 r2 h2 => ?_)
  exact h2.here t2 (.cons ((x.ok.ext e1 t1).rep e2 r1) r2)
def opLD (op : List D → Mo D) (fa : Ev → Mo (List D)) : Ev → Mo D := fun env => bnd (fa env) op
theorem de_call {r : List V → Hp → VK → Prop} {op : List D → Mo D} {ta : TA} {fa : Ev → Mo (List D)} (o : OpL Γ E r op) (ha : DA Γ E ta fa) : DE Γ E (tCB r ta) (opLD op fa) := fun M O σ env H s x Q h => by
  refine ha M O σ env H s x _ (PostR.bnd h fun a s1 v H1 e1 t1 r1 h1 => ?_)
  exact o M H1 s1 v a (x.ok.ext e1 t1) r1 Q h1

/-! displays -/
def tupD (as : List D) : Mo D := if as.length ≤ 1000 then ret (.tup as) else bad
def lstD (as : List D) : Mo D := if as.length ≤ 1000 then ret (.lst as) else bad
theorem le_line {n : Nat} (h : n ≤ 1000) : n ≤ sizeLine := Nat.le_of_lt (small1000 h)
theorem de_tup {ta : TA} {fa : Ev → Mo (List D)} (ha : DA Γ E ta fa) : DE Γ E (tTup ta) (opLD tupD fa) := fun M O σ env H s x Q h => by
  refine ha M O σ env H s x _ (PostR.bnd h fun a s1 v H1 e1 t1 r1 h1 => ?_)
  unfold tupD at h1
  split at h1
  · rename_i hl
    have l : v.length ≤ sizeLine := le_line (by rw [r1.length]; exact hl)
    exact ⟨l, fun p np => h1 (.ref p) _ (Ext.new np) ((x.ok.ext e1 t1).newSt np) ((x.ok.ext e1 t1).tupNew np l r1)⟩
  · exact h1.elim
theorem de_lst {ta : TA} {fa : Ev → Mo (List D)} (ha : DA Γ E ta fa) : DE Γ E (tLst ta) (opLD lstD fa) := fun M O σ env H s x Q h => by
  refine ha M O σ env H s x _ (PostR.bnd h fun a s1 v H1 e1 t1 r1 h1 => ?_)
  unfold lstD at h1
  split at h1
  · rename_i hl
    have l : v.length ≤ sizeLine := le_line (by rw [r1.length]; exact hl)
    exact ⟨l, fun p np => h1 (.ref p) _ (Ext.new np) ((x.ok.ext e1 t1).newSt np) ((x.ok.ext e1 t1).lstNew np l r1)⟩
  · exact h1.elim

/-! tests -/
def asB : D → Mo Bool
  | .bl b => ret b
  | _ => bad
def testD (f : Ev → Mo D) : Ev → Mo Bool := fun env => bnd (f env) asB
theorem dt_val {te : TE} {f : Ev → Mo D} (h : DE Γ E te f) : DT Γ E (tB te) (testD f) := fun M O σ env H s x Q q => by
  refine h M O σ env H s x _ (PostR.bnd q fun a s1 v H1 e1 t1 r1 h1 => ?_)
  cases r1 <;> first | exact h1.elim | exact ⟨_, rfl, h1.here t1 rfl⟩
theorem dt_test {te : TE} {f : Ev → Mo D} (h : DE Γ E te f) : DT Γ E (tTest te) (testD f) := dt_val h
def andT (f g : Ev → Mo Bool) : Ev → Mo Bool := fun env => bnd (f env) fun c => if c then g env else ret false
def orT (f g : Ev → Mo Bool) : Ev → Mo Bool := fun env => bnd (f env) fun c => if c then ret true else g env
def notT (f : Ev → Mo Bool) : Ev → Mo Bool := fun env => bnd (f env) fun c => ret (!c)
theorem dt_and {t u : TT} {f g : Ev → Mo Bool} (h : DT Γ E t f) (k : DT Γ E u g) : DT Γ E (tAnd t u) (andT f g) := fun M O σ env H s x Q q => by
  refine h M O σ env H s x _ (PostR.bnd q fun a s1 v H1 e1 t1 r1 h1 => ?_)
  subst r1
  cases v with
  | true => exact iteT (k M O σ env H1 s1 (x.ext e1 t1) Q h1)
  | false => exact iteF (h1.here t1 rfl)
theorem dt_or {t u : TT} {f g : Ev → Mo Bool} (h : DT Γ E t f) (k : DT Γ E u g) : DT Γ E (tOr t u) (orT f g) := fun M O σ env H s x Q q => by
  refine h M O σ env H s x _ (PostR.bnd q fun a s1 v H1 e1 t1 r1 h1 => ?_)
  subst r1
  cases v with
  | true => exact iteT (h1.here t1 rfl)
  | false => exact iteF (k M O σ env H1 s1 (x.ext e1 t1) Q h1)
theorem dt_not {t : TT} {f : Ev → Mo Bool} (h : DT Γ E t f) : DT Γ E (tNot t) (notT f) := fun M O σ env H s x Q q => by
  refine h M O σ env H s x _ (PostR.bnd q fun a s1 v H1 e1 t1 r1 h1 => ?_)
  subst r1
  exact h1.here t1 rfl
def andV (f g : Ev → Mo D) : Ev → Mo D := fun env => bnd (f env) fun d => bnd (asB d) fun c => if c then g env else ret (.bl false)
def orV (f g : Ev → Mo D) : Ev → Mo D := fun env => bnd (f env) fun d => bnd (asB d) fun c => if c then ret (.bl true) else g env
def notV (f : Ev → Mo D) : Ev → Mo D := fun env => bnd (f env) fun d => bnd (asB d) fun c => ret (.bl (!c))
theorem de_and {t u : TE} {f g : Ev → Mo D} (h : DE Γ E t f) (k : DE Γ E u g) : DE Γ E (tAndV t u) (andV f g) := fun M O σ env H s x Q q => by
  refine h M O σ env H s x _ (PostR.bnd q fun a s1 v H1 e1 t1 r1 h1 => ?_)
  cases r1 with
  | bl b =>
    refine ⟨b, rfl, ?_⟩
    cases b with
    | true => exact iteT (k M O σ env H1 s1 (x.ext e1 t1) Q h1)
    | false => exact iteF (h1.here t1 (.bl false))
  | _ => exact h1.elim
theorem de_or {t u : TE} {f g : Ev → Mo D} (h : DE Γ E t f) (k : DE Γ E u g) : DE Γ E (tOrV t u) (orV f g) := fun M O σ env H s x Q q => by
  refine h M O σ env H s x _ (PostR.bnd q fun a s1 v H1 e1 t1 r1 h1 => ?_)
  cases r1 with
  | bl b =>
    refine ⟨b, rfl, ?_⟩
    cases b with
    | true => exact iteT (h1.here t1 (.bl true))
    | false => exact iteF (k M O σ env H1 s1 (x.ext e1 t1) Q h1)
  | _ => exact h1.elim
theorem de_not {t : TE} {f : Ev → Mo D} (h : DE Γ E t f) : DE Γ E (tNotV t) (notV f) := fun M O σ env H s x Q q => by
  refine h M O σ env H s x _ (PostR.bnd q fun a s1 v H1 e1 t1 r1 h1 => ?_)
  cases r1 with
  | bl b => exact ⟨b, rfl, h1.here t1 (.bl _)⟩
  | _ => exact h1.elim
def ifD (c : Ev → Mo Bool) (f g : Ev → Mo D) : Ev → Mo D := fun env => bnd (c env) fun b => if b then f env else g env
theorem de_if {t : TT} {ta tb : TE} {c : Ev → Mo Bool} {f g : Ev → Mo D} (h : DT Γ E t c) (ha : DE Γ E ta f) (hb : DE Γ E tb g) : DE Γ E (tIf t ta tb) (ifD c f g) := fun M O σ env H s x Q q => by
  refine h M O σ env H s x _ (PostR.bnd q fun a s1 v H1 e1 t1 r1 h1 => ?_)
  subst r1
  cases v with
  | true => exact iteT (ha M O σ env H1 s1 (x.ext e1 t1) Q h1)
  | false => exact iteF (hb M O σ env H1 s1 (x.ext e1 t1) Q h1)
/-- a op b op' c -/
def chainD (op op' : D → D → Mo D) (fa fb fc : Ev → Mo D) : Ev → Mo D := fun env => bnd (fa env) fun a => bnd (fb env) fun b => bnd (op a b) fun z => bnd (asB z) fun k => if k then bnd (fc env) fun c => op' b c else ret (.bl false)
end
end G

namespace G
open PySem PySem.Spec PyProof.Rows L2

/-! ### arithmetic -/
def cap : Nat := 100000
theorem cap_line {n : Nat} (h : n ≤ cap) : n ≤ sizeLine := by rw [sizeLine_eq]; unfold cap at h; omega
def rAddAll (K : PySem.W.Frag) : R2 := fun x y H Q => rI0 (fun i j => .int (i + j)) x y H Q ∨ (∃ i j, x = .str i ∧ y = .str j ∧ i.length + j.length ≤ sizeLine ∧ Q (.str (i ++ j)) H) ∨ rCat x y H Q ∨ rCatA K x y H Q
theorem opAdd {X : Cx} : OpR X (binaryOp .Add) (rAddAll X.K) := op_add.or (op_add_str.or (op_cat.or op_catA))
def addD : D → D → Mo D
  | .int i, .int j => ret (.int (i + j))
  | .str i, .str j => if i.length + j.length ≤ cap then ret (.str (i ++ j)) else bad
  | .lst a, .lst b => if a.length + b.length ≤ cap then ret (.lst (a ++ b)) else bad
  | .tup a, .tup b => if a.length + b.length ≤ cap then ret (.tup (a ++ b)) else bad
  | _, _ => bad
section
variable {Γ : Gx} {E : XK}
theorem msk_get {M : Addr → Prop} {H : Hp} {p : Addr} {o : HO} (h : msk M H p = some o) : H p = some o := (msk_iff.mp h).2
theorem o2_add : Op2 Γ E (rAddAll Γ.K) addD := fun M H s x y a b ok ra rb Q h => by
  cases ra with
  | int i =>
    cases rb with
    | int j => exact .inl ⟨i, j, rfl, rfl, h.here ok.st (.int _)⟩
    | _ => exact h.elim
  | str i =>
    cases rb with
    | str j =>
      simp only [addD] at h
      split at h
      · rename_i hl
        exact .inr (.inl ⟨i, j, rfl, rfl, cap_line hl, h.here ok.st (.str _)⟩)
      · exact h.elim
    | _ => exact h.elim
  | lst e l r =>
    cases rb with
    | lst e2 l2 r2 =>
      simp only [addD] at h
      split at h
      · rename_i vs ds _ ws es hl
        have hl' : vs.length + ws.length ≤ sizeLine := cap_line (by rw [r.length, r2.length]; exact hl)
        refine .inr (.inr (.inl ⟨_, _, vs, ws, rfl, rfl, msk_get e, msk_get e2, hl', fun p np => ?_⟩))
        exact h _ _ (Ext.new np) (ok.newSt np) (ok.lstNew np (by rw [List.length_append]; exact hl') (r.append r2))
      · exact h.elim
    | _ => exact h.elim
  | tup e l r =>
    cases rb with
    | tup e2 l2 r2 =>
      simp only [addD] at h
      split at h
      · rename_i vs ds _ ws es hl
        have hl' : vs.length + ws.length ≤ sizeLine := cap_line (by rw [r.length, r2.length]; exact hl)
        refine .inr (.inr (.inr ⟨_, _, vs, ws, rfl, rfl, .of (msk_get e), .of (msk_get e2), hl', fun z => ?_, fun z z2 => ?_, fun z z2 p np => ?_⟩))
        · subst z
          cases r
          exact h.here ok.st (.tup e2 l2 r2)
        · subst z2
          cases r2
          rw [List.append_nil] at h
          exact h.here ok.st (.tup e l r)
        · exact h _ _ (Ext.new np) (ok.newSt np) (ok.tupNew np (by rw [List.length_append]; exact hl') (r.append r2))
      · exact h.elim
    | _ => exact h.elim
  | _ => exact h.elim
def intD2 (C : Int → Int → Bool) (f : Int → Int → D) : D → D → Mo D
  | .int i, .int j => if C i j then ret (f i j) else bad
  | _, _ => bad
/-- an operator of two ints -/
theorem o2_int {C : Int → Int → Prop} {B : Int → Int → Bool} {g : Int → Int → V} {f : Int → Int → D} (hC : ∀ i j, B i j = true → C i j) (hf : ∀ i j H, Rep Γ H (g i j) (f i j)) : Op2 Γ E (rI C g) (intD2 B f) := fun M H s x y a b ok ra rb Q h => by
  cases ra with
  | int i =>
    cases rb with
    | int j =>
      simp only [intD2] at h
      split at h
      · rename_i hB
        exact ⟨i, j, rfl, rfl, hC _ _ hB, h.here ok.st (hf i j _)⟩
      · exact h.elim
    | _ => exact h.elim
  | _ => exact h.elim
def intD0 (f : Int → Int → D) : D → D → Mo D
  | .int i, .int j => ret (f i j)
  | _, _ => bad
theorem o2_int0 {g : Int → Int → V} {f : Int → Int → D} (hf : ∀ i j H, Rep Γ H (g i j) (f i j)) : Op2 Γ E (rI0 g) (intD0 f) := fun M H s x y a b ok ra rb Q h => by
  cases ra with
  | int i =>
    cases rb with
    | int j => exact ⟨i, j, rfl, rfl, h.here ok.st (hf i j _)⟩
    | _ => exact h.elim
  | _ => exact h.elim
def subD : D → D → Mo D := intD0 fun i j => .int (i - j)
theorem o2_sub : Op2 Γ E (rI0 fun i j => .int (i - j)) subD := o2_int0 fun i j _ => .int _
def small64 (i : Int) : Bool := decide (-18446744073709551616 < i) && decide (i < 18446744073709551616)
def mulD : D → D → Mo D := intD2 (fun i j => small64 i || small64 j) fun i j => .int (i * j)
theorem o2_mul : Op2 Γ E (rI CMul fun i j => .int (i * j)) mulD := o2_int (fun i j h => by
  simp only [small64, Bool.or_eq_true, Bool.and_eq_true, decide_eq_true_eq] at h
  unfold CMul
  rcases h with h | h
  · exact .inl ⟨by omega, by omega⟩
  · exact .inr ⟨by omega, by omega⟩) fun i j _ => .int _
def modD : D → D → Mo D := intD2 (fun _ j => decide (0 < j)) fun i j => .int (i % j)
theorem o2_mod : Op2 Γ E (rI (fun _ j => 0 < j) fun i j => .int (i % j)) modD := o2_int (fun i j h => of_decide_eq_true h) fun i j _ => .int _
def divD : D → D → Mo D := intD2 (fun _ j => decide (0 < j) && decide (j < 1073741824)) fun i j => .int (i / j)
theorem o2_div : Op2 Γ E (rI CDiv fun i j => .int (i / j)) divD := o2_int (fun i j h => by
  simp only [Bool.and_eq_true, decide_eq_true_eq] at h; exact h) fun i j _ => .int _
def ltD : D → D → Mo D := intD0 fun i j => .bl (decide (i < j))
def leD : D → D → Mo D := intD0 fun i j => .bl (decide (i ≤ j))
def gtD : D → D → Mo D := intD0 fun i j => .bl (decide (j < i))
def geD : D → D → Mo D := intD0 fun i j => .bl (decide (j ≤ i))
theorem o2_lt : Op2 Γ E (rI0 fun i j => .bl (decide (i < j))) ltD := o2_int0 fun i j _ => .bl _
theorem o2_le : Op2 Γ E (rI0 fun i j => .bl (decide (i ≤ j))) leD := o2_int0 fun i j _ => .bl _
theorem o2_gt : Op2 Γ E (rI0 fun i j => .bl (decide (j < i))) gtD := o2_int0 fun i j _ => .bl _
theorem o2_ge : Op2 Γ E (rI0 fun i j => .bl (decide (j ≤ i))) geD := o2_int0 fun i j _ => .bl _
def negD : D → Mo D
  | .int i => ret (.int (-i))
  | _ => bad
theorem o1_neg : Op1 Γ E (rU fun i => .int (-i)) negD := fun M H s x a ok ra Q h => by
  cases ra with
  | int i => exact ⟨i, rfl, h.here ok.st (.int _)⟩
  | _ => exact h.elim

/-! ### data as a whole: ==, in -/
mutual
def plain : D → Bool
  | .non => true
  | .bl _ => true
  | .int _ => true
  | .str _ => true
  | .lst xs => plains xs
  | .tup xs => plains xs
  | .obj _ _ => false
  | .dct _ _ => false
  | .rng _ _ => false
  | .dc2 _ _ => false
  | .clo _ _ => false
  | .st => false
def plains : List D → Bool
  | [] => true
  | d :: ds => plain d && plains ds
end
mutual
def toPy : D → PyData
  | .non => .none
  | .bl b => .bool b
  | .int i => .int i
  | .str x => .str x
  | .lst xs => .list (toPys xs)
  | .tup xs => .tuple (toPys xs)
  | .obj _ _ => .none
  | .dct _ _ => .none
  | .rng _ _ => .none
  | .dc2 _ _ => .none
  | .clo _ _ => .none
  | .st => .none
def toPys : List D → List PyData
  | [] => []
  | d :: ds => toPy d :: toPys ds
end
mutual
theorem Rep.dp {H : Hp} : ∀ {v : V} {d : D}, Rep Γ H v d → plain d = true → Dp Γ.K H v (toPy d)
  | _, _, .non, _ => .non
  | _, _, .bl b, _ => .bl b
  | _, _, .int i, _ => .int i
  | _, _, .str x, _ => .str x
  | _, _, .lst e _ r, h => .lst (.of e) (Reps.dp r h)
  | _, _, .tup e _ r, h => .tup (.of e) (Reps.dp r h)
  | _, _, .obj _ _ _, h => by cases h
  | _, _, .dct _ _ _ _, h => by cases h
  | _, _, .rng _, h => by cases h
  | _, _, .dc2 _ _ _ _, h => by cases h
  | _, _, .clo _ _ _ _ _ _ _, h => by cases h
  | _, _, .st, h => by cases h
theorem Reps.dp {H : Hp} : ∀ {v : List V} {d : List D}, Reps Γ H v d → plains d = true → DpAll Γ.K H v (toPys d)
  | _, _, .nil, _ => .nil
  | _, _, .cons a b, h => by
    have h := h
    unfold plains at h
    rw [Bool.and_eq_true] at h
    exact .cons (Rep.dp a h.1) (Reps.dp b h.2)
end
theorem Rep.unmask {M : Addr → Prop} {H : Hp} {v : V} {d : D} (r : Rep Γ (msk M H) v d) : Rep Γ H v d := r.mono fun _ _ q => msk_get q
theorem Reps.unmask {M : Addr → Prop} {H : Hp} {v : List V} {d : List D} (r : Reps Γ (msk M H) v d) : Reps Γ H v d := r.mono fun _ _ q => msk_get q
def okD (d : D) : Bool := plain d && SeqAt.shaped (toPy d)
def eqB (a b : D) : Bool := PyData.eqv (toPy a) (toPy b)
def eqD (a b : D) : Mo D := if okD a && okD b then ret (.bl (eqB a b)) else bad
def neD (a b : D) : Mo D := if okD a && okD b then ret (.bl (!eqB a b)) else bad
theorem o2_eq : Op2 Γ E (rEqD Γ.K) eqD := fun M H s x y a b ok ra rb Q h => by
  unfold eqD at h
  split at h
  · rename_i hk
    simp only [okD, Bool.and_eq_true] at hk
    obtain ⟨⟨p1, s1⟩, p2, s2⟩ := hk
    exact ⟨toPy a, toPy b, ra.unmask.dp p1, rb.unmask.dp p2, s1, s2, h.here ok.st (.bl _)⟩
  · exact h.elim
theorem o2_ne : Op2 Γ E (rNeD Γ.K) neD := fun M H s x y a b ok ra rb Q h => by
  unfold neD at h
  split at h
  · rename_i hk
    simp only [okD, Bool.and_eq_true] at hk
    obtain ⟨⟨p1, s1⟩, p2, s2⟩ := hk
    exact ⟨toPy a, toPy b, ra.unmask.dp p1, rb.unmask.dp p2, s1, s2, h.here ok.st (.bl _)⟩
  · exact h.elim
/-- x in a list (anything), x in a tuple of flat things -/
def flat : D → Bool
  | .non => true
  | .bl _ => true
  | .int _ => true
  | .str _ => true
  | _ => false
def flV : D → V
  | .non => .non
  | .bl b => .bl b
  | .int i => .int i
  | .str x => .str x
  | _ => .non
theorem flat_rep {H : Hp} {v : V} {d : D} (r : Rep Γ H v d) (f : flat d = true) : v = flV d ∧ flatV v = true := by
  cases r <;> first | exact ⟨rfl, rfl⟩ | cases f
theorem flat_reps {H : Hp} : ∀ {vs : List V} {ds : List D}, Reps Γ H vs ds → ds.all flat = true → vs = ds.map flV ∧ vs.all flatV = true
  | _, _, .nil, _ => ⟨rfl, rfl⟩
  | _, _, .cons a b, h => by
    rw [List.all_cons, Bool.and_eq_true] at h
    obtain ⟨e1, f1⟩ := flat_rep a h.1
    obtain ⟨e2, f2⟩ := flat_reps b h.2
    exact ⟨by rw [e1, e2, List.map_cons], by rw [List.all_cons, f1, f2]; rfl⟩
def inB (x : D) (ds : List D) : Bool := ds.any fun z => eqB z x
def inD (neg : Bool) : D → D → Mo D
  | x, .lst ds => if okD x && okD (.lst ds) then ret (.bl (if neg then !inB x ds else inB x ds)) else bad
  | x, .tup ds => if flat x && ds.all flat then ret (.bl (if neg then !inB x ds else inB x ds)) else
      if okD x && okD (.tup ds) && (toPys ds).all (fun y => SeqAt.noMix y (toPy x)) then ret (.bl (if neg then !decide (countIn (toPy x) (toPys ds) ≠ 0) else decide (countIn (toPy x) (toPys ds) ≠ 0))) else bad
  | _, _ => bad
theorem toPys_map : ∀ ds : List D, toPys ds = ds.map toPy
  | [] => rfl
  | d :: ds => by unfold toPys; rw [toPys_map ds, List.map_cons]
theorem inB_py (x : D) (ds : List D) : inB x ds = (toPys ds).any fun z => PyData.eqv z (toPy x) := by
  rw [toPys_map, List.any_map]; rfl
theorem eqB_flat {x y : D} (fx : flat x = true) (fy : flat y = true) : eqB y x = eqV (flV y) (flV x) := by
  cases x <;> cases y <;> first | exact absurd fx Bool.false_ne_true | exact absurd fy Bool.false_ne_true | simp [eqB, toPy, PyData.eqv, flV, eqV]
theorem inB_flat {x : D} (fx : flat x = true) : ∀ {ds : List D}, ds.all flat = true → inB x ds = inV (flV x) (ds.map flV)
  | [], _ => rfl
  | d :: ds, h => by
    rw [List.all_cons, Bool.and_eq_true] at h
    unfold inB inV
    rw [List.any_cons, List.map_cons, List.any_cons, eqB_flat fx h.1]
    have := inB_flat fx h.2
    unfold inB inV at this
    rw [this]
/-- in of a tuple of data -/
def rInT (K : PySem.W.Frag) (neg : Bool) : R2 := fun x y H Q => ∃ d ds, Dp K H x d ∧ Dp K H y (PyData.tuple ds) ∧ SeqAt.shaped (PyData.tuple ds) = true ∧ SeqAt.shaped d = true ∧ (∀ z ∈ ds, SeqAt.noMix z d = true) ∧ Q (.bl (if neg then !decide (countIn d ds ≠ 0) else decide (countIn d ds ≠ 0))) H
theorem op_inT {X : Cx} (hu : X.A.units + 65 < cLine) : OpR X (compareOp .In) (rInT X.K false) := fun pins s σ H x y v u Q I rv ru h => by
  obtain ⟨d, ds, d1, d2, s1, s2, nm, q⟩ := h
  obtain ⟨as, ra⟩ := Dp.reads I d x v d1 rv
  obtain ⟨bs, rb⟩ := Dp.reads I _ y u d2 ru
  exact in_tuple_dataH rb ra s1 s2 hu nm ⟨.bl _, H, I, rfl, q⟩
theorem op_notInT {X : Cx} (hu : X.A.units + 65 < cLine) : OpR X (compareOp .NotIn) (rInT X.K true) := fun pins s σ H x y v u Q I rv ru h => by
  obtain ⟨d, ds, d1, d2, s1, s2, nm, q⟩ := h
  obtain ⟨as, ra⟩ := Dp.reads I d x v d1 rv
  obtain ⟨bs, rb⟩ := Dp.reads I _ y u d2 ru
  exact notIn_tuple_dataH rb ra s1 s2 hu nm ⟨.bl _, H, I, rfl, q⟩
def rInAll (K : PySem.W.Frag) (neg : Bool) : R2 := fun x y H Q => ((if neg then rNotInD K x y H Q else rInD K x y H Q) ∨ rIn K neg x y H Q) ∨ rInT K neg x y H Q
theorem opIn {X : Cx} (hu : X.A.units + 65 < cLine) : OpR X (compareOp .In) (rInAll X.K false) := ((op_inD hu).or op_in_seq).or (op_inT hu)
theorem opNotIn {X : Cx} (hu : X.A.units + 65 < cLine) : OpR X (compareOp .NotIn) (rInAll X.K true) := ((op_notInD hu).or op_notIn_seq).or (op_notInT hu)
theorem o2_in (neg : Bool) : Op2 Γ E (rInAll Γ.K neg) (inD neg) := fun M H s x y a b ok ra rb Q h => by
  cases rb with
  | lst e l r =>
    simp only [inD] at h
    split at h
    · rename_i ds hk
      simp only [okD, Bool.and_eq_true] at hk
      obtain ⟨⟨p1, s1⟩, p2, s2⟩ := hk
      have q := h.here ok.st (Rep.bl _)
      have dl : Dp Γ.K H _ (toPy (.lst ds)) := (Rep.lst (msk_get e) l (Reps.unmask r)).dp p2
      refine .inl (.inl ?_)
      cases neg with
      | true =>
        rw [if_pos rfl, inB_py] at q
        exact ⟨toPy a, toPys ds, ra.unmask.dp p1, dl, s1, s2, q⟩
      | false =>
        rw [if_neg Bool.false_ne_true, inB_py] at q
        exact ⟨toPy a, toPys ds, ra.unmask.dp p1, dl, s1, s2, q⟩
    · exact h.elim
  | tup e l r =>
    simp only [inD] at h
    split at h
    · rename_i ds hk
      rw [Bool.and_eq_true] at hk
      have q := h.here ok.st (Rep.bl _)
      obtain ⟨e1, f1⟩ := flat_rep ra hk.1
      obtain ⟨e2, f2⟩ := flat_reps r hk.2
      rw [inB_flat hk.1 hk.2, ← e1, ← e2] at q
      exact .inl (.inr ⟨_, _, rfl, .inr (.of (msk_get e)), f1, f2, q⟩)
    · rename_i ds _
      split at h
      · rename_i hk
        simp only [okD, Bool.and_eq_true, List.all_eq_true] at hk
        obtain ⟨⟨⟨p1, s1⟩, p2, s2⟩, nm⟩ := hk
        exact .inr ⟨toPy a, toPys ds, ra.unmask.dp p1, (Rep.tup (msk_get e) l (Reps.unmask r)).dp p2, s2, s1, nm, h.here ok.st (Rep.bl _)⟩
      · exact h.elim
  | _ => exact h.elim

/-! ### is -/
theorem non_iff {H : Hp} {v : V} {d : D} (r : Rep Γ H v d) : decide (v = .non) = (match d with | .non => true | _ => false) := by
  cases r <;> rfl
def isN : D → Bool
  | .non => true
  | _ => false
def isND (f : Ev → Mo D) : Ev → Mo D := fun env => bnd (f env) fun d => ret (.bl (isN d))
def notND (f : Ev → Mo D) : Ev → Mo D := fun env => bnd (f env) fun d => ret (.bl (!isN d))
theorem de_isN {t : TE} {f : Ev → Mo D} (h : DE Γ E t f) : DE Γ E (tIsN t) (isND f) := fun M O σ env H s x Q q => by
  refine h M O σ env H s x _ (PostR.bnd q fun a s1 v H1 e1 t1 r1 h1 => ?_)
  rw [non_iff r1]
  refine h1.here t1 ?_
  cases r1 <;> exact .bl _
theorem de_notN {t : TE} {f : Ev → Mo D} (h : DE Γ E t f) : DE Γ E (tNotN t) (notND f) := fun M O σ env H s x Q q => by
  refine h M O σ env H s x _ (PostR.bnd q fun a s1 v H1 e1 t1 r1 h1 => ?_)
  rw [non_iff r1]
  refine h1.here t1 ?_
  cases r1 <;> exact .bl _
def isBD : D → D → Mo D
  | .bl a, .bl b => ret (.bl (decide (a = b)))
  | _, _ => bad
def notBD : D → D → Mo D
  | .bl a, .bl b => ret (.bl (!decide (a = b)))
  | _, _ => bad
theorem o2_isB : Op2 Γ E rIsB isBD := fun M H s x y a b ok ra rb Q h => by
  cases ra with
  | bl i =>
    cases rb with
    | bl j => exact ⟨i, j, rfl, rfl, h.here ok.st (.bl _)⟩
    | _ => exact h.elim
  | _ => exact h.elim
theorem o2_notB : Op2 Γ E rNotB notBD := fun M H s x y a b ok ra rb Q h => by
  cases ra with
  | bl i =>
    cases rb with
    | bl j => exact ⟨i, j, rfl, rfl, h.here ok.st (.bl _)⟩
    | _ => exact h.elim
  | _ => exact h.elim

/-! ### items, slices -/
def optM {α : Type} (o : Option α) : Mo α := match o with
  | some a => ret a
  | none => bad
theorem optM_post {α β : Type} {M : Addr → Prop} {R : β → Hp → α → Prop} {H : Hp} {o : Option α} {s : S} {Q : β → Hp → Prop} (h : PostR Γ E M R H (optM o s) Q) : ∃ a, o = some a ∧ PostR Γ E M R H (ret a s) Q := by
  cases o with
  | none => exact h.elim
  | some a => exact ⟨a, rfl, h⟩
def ixD : D → D → Mo D
  | .lst ds, .int i => optM (atI ds i)
  | .tup ds, .int i => optM (atI ds i)
  | .str x, .int i => if x.length ≤ cap then optM ((atI x.cps.toList i).map fun c => D.str ⟨#[c]⟩) else bad
  | _, _ => bad
theorem atI_rep {H : Hp} {vs : List V} {ds : List D} {i : Int} {d : D} (r : Reps Γ H vs ds) (h : atI ds i = some d) : ∃ v, atI vs i = some v ∧ Rep Γ H v d := by
  unfold atI at h ⊢
  rw [r.length]
  cases e : ixN ds.length i with
  | none => rw [e] at h; cases h
  | some j =>
    rw [e] at h
    exact r.get h
theorem o2_ix : Op2 Γ E (rIx Γ.K) ixD := fun M H s x y a b ok ra rb Q h => by
  cases rb with
  | int i =>
    cases ra with
    | lst e l r =>
      obtain ⟨d, hd, h⟩ := optM_post h
      obtain ⟨v, hv, rv⟩ := atI_rep r hd
      exact .inl ⟨_, _, i, v, rfl, rfl, .of (msk_get e), hv, h.here ok.st rv⟩
    | tup e l r =>
      obtain ⟨d, hd, h⟩ := optM_post h
      obtain ⟨v, hv, rv⟩ := atI_rep r hd
      exact .inr (.inl ⟨_, _, i, v, rfl, rfl, .of (msk_get e), hv, h.here ok.st rv⟩)
    | str x =>
      simp only [ixD] at h
      split at h
      · rename_i hl
        obtain ⟨d, hd, h⟩ := optM_post h
        cases hc : atI x.cps.toList i with
        | none => rw [hc] at hd; cases hd
        | some c =>
          rw [hc] at hd
          cases hd
          exact .inr (.inr ⟨x, i, c, rfl, rfl, cap_line hl, hc, h.here ok.st (.str _)⟩)
      · exact h.elim
    | _ => exact h.elim
  | _ => cases ra <;> exact h.elim

/-! ### built-ins by name -/
def lenD : List D → Mo D
  | [.lst ds] => ret (.int ds.length)
  | [.tup ds] => ret (.int ds.length)
  | [.str x] => if x.length ≤ cap then ret (.int x.length) else bad
  | _ => bad
theorem ol_len : OpL Γ E (fun xs H Q => ∃ x n, xs = [x] ∧ LenV Γ.K x H n ∧ Q (.int n) H) lenD := fun M H s xs as ok r Q h => by
  cases r with
  | nil => exact h.elim
  | cons ra rt =>
    cases rt with
    | cons _ _ => cases ra <;> exact h.elim
    | nil =>
      cases ra with
      | lst e l r =>
        refine ⟨_, _, rfl, .inl ⟨_, .of (msk_get e), rfl⟩, ?_⟩
        rw [r.length]; exact h.here ok.st (.int _)
      | tup e l r =>
        refine ⟨_, _, rfl, .inr ⟨_, .of (msk_get e), rfl⟩, ?_⟩
        rw [r.length]; exact h.here ok.st (.int _)
      | str x =>
        simp only [lenD] at h
        split at h
        · rename_i hl
          exact ⟨_, _, rfl, ⟨cap_line hl, rfl⟩, h.here ok.st (.int _)⟩
        · exact h.elim
      | _ => exact h.elim
def listD : List D → Mo D
  | [.lst ds] => ret (.lst ds)
  | [.tup ds] => ret (.lst ds)
  | _ => bad
def tupleD : List D → Mo D
  | [.lst ds] => ret (.tup ds)
  | [.tup ds] => ret (.tup ds)
  | _ => bad
theorem ol_list : OpL Γ E (fun xs H Q => ∃ p ys, xs = [.ref p] ∧ (SqL Γ.K H p ys ∨ SqT Γ.K H p ys) ∧ ∀ l, H l = none → Q (.ref l) (upd H l (.lst ys))) listD := fun M H s xs as ok r Q h => by
  cases r with
  | nil => exact h.elim
  | cons ra rt =>
    cases rt with
    | cons _ _ => cases ra <;> exact h.elim
    | nil =>
      cases ra with
      | lst e l r => exact ⟨_, _, rfl, .inl (.of (msk_get e)), fun p np => h _ _ (Ext.new np) (ok.newSt np) (ok.lstNew np l r)⟩
      | tup e l r => exact ⟨_, _, rfl, .inr (.of (msk_get e)), fun p np => h _ _ (Ext.new np) (ok.newSt np) (ok.lstNew np l r)⟩
      | _ => exact h.elim
theorem ol_tuple : OpL Γ E (fun xs H Q => ∃ p ys, xs = [.ref p] ∧ ((SqL Γ.K H p ys ∧ ∀ l, H l = none → Q (.ref l) (upd H l (.tup ys))) ∨ (SqT Γ.K H p ys ∧ Q (.ref p) H))) tupleD := fun M H s xs as ok r Q h => by
  cases r with
  | nil => exact h.elim
  | cons ra rt =>
    cases rt with
    | cons _ _ => cases ra <;> exact h.elim
    | nil =>
      cases ra with
      | lst e l r => exact ⟨_, _, rfl, .inl ⟨.of (msk_get e), fun p np => h _ _ (Ext.new np) (ok.newSt np) (ok.tupNew np l r)⟩⟩
      | tup e l r => exact ⟨_, _, rfl, .inr ⟨.of (msk_get e), h.here ok.st (.tup e l r)⟩⟩
      | _ => exact h.elim
def int1D : List D → Mo D
  | [.int i] => ret (.int i)
  | [.bl b] => ret (.int (if b then 1 else 0))
  | _ => bad
theorem ol_int : OpL Γ E (fun xs H Q => (∃ i, xs = [.int i] ∧ Q (.int i) H) ∨ ∃ k, xs = [.bl k] ∧ Q (.int (if k then 1 else 0)) H) int1D := fun M H s xs as ok r Q h => by
  cases r with
  | nil => exact h.elim
  | cons ra rt =>
    cases rt with
    | cons _ _ => cases ra <;> exact h.elim
    | nil =>
      cases ra with
      | int i => exact .inl ⟨i, rfl, h.here ok.st (.int _)⟩
      | bl b => exact .inr ⟨b, rfl, h.here ok.st (.int _)⟩
      | _ => exact h.elim
def absD : List D → Mo D
  | [.int i] => ret (.int (if i < 0 then -i else i))
  | _ => bad
theorem ol_abs : OpL Γ E (fun xs H Q => ∃ i, xs = [.int i] ∧ Q (.int (if i < 0 then -i else i)) H) absD := fun M H s xs as ok r Q h => by
  cases r with
  | nil => exact h.elim
  | cons ra rt =>
    cases rt with
    | cons _ _ => cases ra <;> exact h.elim
    | nil =>
      cases ra with
      | int i => exact ⟨i, rfl, h.here ok.st (.int _)⟩
      | _ => exact h.elim
def min2D : List D → Mo D
  | [.int i, .int j] => ret (.int (if j < i then j else i))
  | _ => bad
theorem ol_min2 : OpL Γ E (fun xs H Q => ∃ i j, xs = [.int i, .int j] ∧ Q (.int (if j < i then j else i)) H) min2D := fun M H s xs as ok r Q h => by
  cases r with
  | nil => exact h.elim
  | cons ra rt =>
    cases rt with
    | nil => cases ra <;> exact h.elim
    | cons rb rt2 =>
      cases rt2 with
      | cons _ _ => cases ra <;> first | exact h.elim | (cases rb <;> exact h.elim)
      | nil =>
        cases ra with
        | int i =>
          cases rb with
          | int j => exact ⟨i, j, rfl, h.here ok.st (.int _)⟩
          | _ => exact h.elim
        | _ => exact h.elim
def max2D : List D → Mo D
  | [.int i, .int j] => ret (.int (if j > i then j else i))
  | _ => bad
theorem ol_max2 : OpL Γ E (fun xs H Q => ∃ i j, xs = [.int i, .int j] ∧ Q (.int (if j > i then j else i)) H) max2D := fun M H s xs as ok r Q h => by
  cases r with
  | nil => exact h.elim
  | cons ra rt =>
    cases rt with
    | nil => cases ra <;> exact h.elim
    | cons rb rt2 =>
      cases rt2 with
      | cons _ _ => cases ra <;> first | exact h.elim | (cases rb <;> exact h.elim)
      | nil =>
        cases ra with
        | int i =>
          cases rb with
          | int j => exact ⟨i, j, rfl, h.here ok.st (.int _)⟩
          | _ => exact h.elim
        | _ => exact h.elim
/-- lists of ints, of truth values -/
def asInts : List D → Option (List Int)
  | [] => some []
  | .int i :: r => (asInts r).map (i :: ·)
  | _ => none
def asBls : List D → Option (List Bool)
  | [] => some []
  | .bl i :: r => (asBls r).map (i :: ·)
  | _ => none
theorem asInts_reps {H : Hp} : ∀ {vs : List V} {ds : List D} {ns : List Int}, Reps Γ H vs ds → asInts ds = some ns → vs = ns.map V.int
  | _, _, _, .nil, h => by cases h; rfl
  | _, _, ns, .cons ra rt, h => by
    cases ra with
    | int i =>
      unfold asInts at h
      cases e : asInts _ with
      | none => rw [e] at h; cases h
      | some ms =>
        rw [e] at h
        cases h
        rw [List.map_cons, ← asInts_reps rt e]
    | _ => cases h
theorem asBls_reps {H : Hp} : ∀ {vs : List V} {ds : List D} {ns : List Bool}, Reps Γ H vs ds → asBls ds = some ns → vs = ns.map V.bl
  | _, _, _, .nil, h => by cases h; rfl
  | _, _, ns, .cons ra rt, h => by
    cases ra with
    | bl i =>
      unfold asBls at h
      cases e : asBls _ with
      | none => rw [e] at h; cases h
      | some ms =>
        rw [e] at h
        cases h
        rw [List.map_cons, ← asBls_reps rt e]
    | _ => cases h
theorem reps_ints {H : Hp} : ∀ ns : List Int, Reps Γ H (ns.map V.int) (ns.map D.int)
  | [] => .nil
  | i :: r => .cons (.int i) (reps_ints r)
def allD : List D → Mo D
  | [.lst ds] => optM ((asBls ds).map fun bs => D.bl (bs.all id))
  | _ => bad
def anyD : List D → Mo D
  | [.lst ds] => optM ((asBls ds).map fun bs => D.bl (bs.any id))
  | _ => bad
theorem ol_all : OpL Γ E (rAll Γ.K) allD := fun M H s xs as ok r Q h => by
  cases r with
  | nil => exact h.elim
  | cons ra rt =>
    cases rt with
    | cons _ _ => cases ra <;> exact h.elim
    | nil =>
      cases ra with
      | lst e l r =>
        obtain ⟨d, hd, h⟩ := optM_post h
        cases hb : asBls _ with
        | none => rw [hb] at hd; cases hd
        | some bs =>
          rw [hb] at hd
          cases hd
          have ev := asBls_reps r hb
          subst ev
          exact ⟨_, bs, rfl, .of (msk_get e), h.here ok.st (.bl _)⟩
      | _ => exact h.elim
theorem ol_any : OpL Γ E (rAny Γ.K) anyD := fun M H s xs as ok r Q h => by
  cases r with
  | nil => exact h.elim
  | cons ra rt =>
    cases rt with
    | cons _ _ => cases ra <;> exact h.elim
    | nil =>
      cases ra with
      | lst e l r =>
        obtain ⟨d, hd, h⟩ := optM_post h
        cases hb : asBls _ with
        | none => rw [hb] at hd; cases hd
        | some bs =>
          rw [hb] at hd
          cases hd
          have ev := asBls_reps r hb
          subst ev
          exact ⟨_, bs, rfl, .of (msk_get e), h.here ok.st (.bl _)⟩
      | _ => exact h.elim
/-- the sorted list of ints -/
def insI (x : Int) : List Int → List Int
  | [] => [x]
  | y :: r => if x ≤ y then x :: y :: r else y :: insI x r
def sortI : List Int → List Int
  | [] => []
  | x :: r => insI x (sortI r)
theorem insI_perm (x : Int) : ∀ l, (insI x l).Perm (x :: l)
  | [] => .refl _
  | y :: r => by
    unfold insI
    split
    · exact .refl _
    · exact ((insI_perm x r).cons y).trans (.swap x y r)
theorem sortI_perm : ∀ l, (sortI l).Perm l
  | [] => .refl _
  | x :: r => (insI_perm x (sortI r)).trans ((sortI_perm r).cons x)
theorem insI_sorted (x : Int) : ∀ l : List Int, l.Pairwise (· ≤ ·) → (insI x l).Pairwise (· ≤ ·)
  | [], _ => by simp [insI]
  | y :: r, h => by
    unfold insI
    rw [List.pairwise_cons] at h
    split
    · rename_i hxy
      rw [List.pairwise_cons, List.pairwise_cons]
      refine ⟨fun z hz => ?_, h⟩
      rcases List.mem_cons.mp hz with rfl | hz
      · exact hxy
      · exact Int.le_trans hxy (h.1 z hz)
    · rename_i hxy
      rw [List.pairwise_cons]
      refine ⟨fun z hz => ?_, insI_sorted x r h.2⟩
      rcases List.mem_cons.mp ((insI_perm x r).mem_iff.mp hz) with rfl | hz
      · omega
      · exact h.1 z hz
theorem sortI_sorted : ∀ l, (sortI l).Pairwise (· ≤ ·)
  | [] => .nil
  | x :: r => insI_sorted x _ (sortI_sorted r)
theorem sorted_unique {l l' : List Int} (p : l.Perm l') (h : l.Pairwise (· ≤ ·)) (h' : l'.Pairwise (· ≤ ·)) : l = l' :=
  p.eq_of_pairwise (fun a b _ _ h1 h2 => Int.le_antisymm h1 h2) h h'
def sortedD : List D → Mo D
  | [.lst ds] => optM ((asInts ds).map fun ns => D.lst ((sortI ns).map D.int))
  | _ => bad
theorem ol_sorted : OpL Γ E (rSortedI Γ.K) sortedD := fun M H s xs as ok r Q h => by
  cases r with
  | nil => exact h.elim
  | cons ra rt =>
    cases rt with
    | cons _ _ => cases ra <;> exact h.elim
    | nil =>
      cases ra with
      | lst e l r =>
        obtain ⟨d, hd, h⟩ := optM_post h
        cases hb : asInts _ with
        | none => rw [hb] at hd; cases hd
        | some ns =>
          rw [hb] at hd
          cases hd
          have ev := asInts_reps r hb
          subst ev
          refine ⟨_, ns, rfl, .of (msk_get e), fun ms p pm sd np => ?_⟩
          have em : ms = sortI ns := sorted_unique (pm.trans (sortI_perm ns).symm) sd (sortI_sorted ns)
          subst em
          exact h _ _ (Ext.new np) (ok.newSt np) (ok.lstNew np (by rw [List.length_map, (sortI_perm ns).length_eq]; rw [List.length_map] at l; exact l) (reps_ints _))
      | _ => exact h.elim
end
end G

namespace G
open PySem PySem.Spec PyProof.Rows L2

/-! ### targets -/
def setsE : List Nat → List D → Ev → Ev
  | j :: js, d :: ds, env => setsE js ds (env.set j (.val d))
  | _, _, env => env
def setsS : List Nat → List V → L2.St → L2.St
  | j :: js, v :: vs, σ => setsS js vs (σ.set j (some v))
  | _, _, σ => σ
theorem setsS_app : ∀ (js ks : List Nat) (vs ws : List V) (σ : L2.St), js.length = vs.length → setsS (js ++ ks) (vs ++ ws) σ = setsS ks ws (setsS js vs σ)
  | [], _, [], _, _, _ => rfl
  | j :: js, ks, v :: vs, ws, σ, h => by
    show setsS (js ++ ks) (vs ++ ws) _ = _
    exact setsS_app js ks vs ws _ (by simpa using h)
/-- g stores the parts of a value in the slots js -/
def DG (Γ : Gx) (g : TG) (h : D → Option (List D)) (js : List Nat) : Prop := ∀ M H s v d ds, HpOk Γ M H s → Rep Γ (msk M H) v d → h d = some ds → ds.length = js.length ∧ ∀ σ Q, (∀ vs, Reps Γ (msk M H) vs ds → Q (setsS js vs σ) H) → g v σ H Q
def DGs (Γ : Gx) (g : TGs) (h : List D → Option (List D)) (js : List Nat) : Prop := ∀ M H s v d ds, HpOk Γ M H s → Reps Γ (msk M H) v d → h d = some ds → ds.length = js.length ∧ ∀ σ Q, (∀ vs, Reps Γ (msk M H) vs ds → Q (setsS js vs σ) H) → g v σ H Q
section
variable {Γ : Gx} {E : XK}
def hName (d : D) : Option (List D) := some [d]
def hTup (n : Nat) (h : List D → Option (List D)) : D → Option (List D)
  | .tup ds => if ds.length = n then h ds else none
  | _ => none
def hNil : List D → Option (List D)
  | [] => some []
  | _ => none
def hCons (h : D → Option (List D)) (k : List D → Option (List D)) : List D → Option (List D)
  | d :: ds => match h d with
    | some as => match k ds with
      | some bs => some (as ++ bs)
      | none => none
    | none => none
  | _ => none
theorem dg_name (i : Nat) : DG Γ (gName i) hName [i] := fun M H s v d ds ok r e => by
  cases e
  exact ⟨rfl, fun σ Q q => q [v] (.cons r .nil)⟩
theorem dgs_nil : DGs Γ gNil hNil [] := fun M H s v d ds ok r e => by
  cases r with
  | nil => cases e; exact ⟨rfl, fun σ Q q => ⟨rfl, q [] .nil⟩⟩
  | cons _ _ => cases e
theorem dgs_cons {g : TG} {k : TGs} {h : D → Option (List D)} {l : List D → Option (List D)} {is js : List Nat} (a : DG Γ g h is) (b : DGs Γ k l js) : DGs Γ (gCons g k) (hCons h l) (is ++ js) := fun M H s v d ds ok r e => by
  cases r with
  | nil => cases e
  | cons r1 r2 =>
    simp only [hCons] at e
    split at e
    · rename_i as ea
      split at e
      · rename_i bs eb
        cases e
        obtain ⟨l1, p1⟩ := a M H s _ _ _ ok r1 ea
        obtain ⟨l2, p2⟩ := b M H s _ _ _ ok r2 eb
        refine ⟨by rw [List.length_append, List.length_append, l1, l2], fun σ Q q => ⟨_, _, rfl, p1 σ _ fun vs rv => p2 _ _ fun ws rw' => ?_⟩⟩
        have := q (vs ++ ws) (rv.append rw')
        rw [setsS_app is js vs ws σ (by rw [rv.length, l1])] at this
        exact this
      · cases e
    · cases e
theorem dg_tup {n : Nat} {k : TGs} {l : List D → Option (List D)} {js : List Nat} (b : DGs Γ k l js) : DG Γ (gTup Γ.K n k) (hTup n l) js := fun M H s v d ds ok r e => by
  cases r with
  | tup e1 l1 r1 =>
    simp only [hTup] at e
    split at e
    · rename_i hl
      obtain ⟨l2, p2⟩ := b M H s _ _ _ ok r1 e
      exact ⟨l2, fun σ Q q => ⟨_, _, rfl, .of (msk_get e1), by rw [r1.length]; exact hl, p2 σ Q q⟩⟩
    · cases e
  | _ => cases e

/-! ### what is walked -/
def ItOk (Γ : Gx) (J : It) (gv : V) (gd : D) (ds : List D) : Prop := ds.length ≤ sizeLine ∧ ∀ M H s, HpOk Γ M H s → Rep Γ (msk M H) gv gd → ∀ i, (∀ d, ds[i]? = some d → J.go i H ∧ ∀ x H', J.yld i H x H' → Ext Γ.sa H H' ∧ StOk Γ H' s ∧ Rep Γ (msk M H') x d) ∧ (ds.length ≤ i → J.stop i H)
def RI (Γ : Gx) (M : Addr → Prop) : It → Hp → List D → Prop := fun J H ds => ∃ gv gd, Rep Γ (msk M H) gv gd ∧ ItOk Γ J gv gd ds
def DI (Γ : Gx) (E : XK) (wi : TI) (f : Ev → Mo (List D)) : Prop := ∀ M O σ env H s, RepX Γ M O σ env H s → ∀ R, PostR Γ E M (RI Γ M) H (f env s) R → wi σ H R
def asLst : D → Mo (List D)
  | .lst ds => ret ds
  | _ => bad
def asTup : D → Mo (List D)
  | .tup ds => ret ds
  | _ => bad
def overL (f : Ev → Mo D) : Ev → Mo (List D) := fun env => bnd (f env) asLst
def overT (f : Ev → Mo D) : Ev → Mo (List D) := fun env => bnd (f env) asTup
theorem it_list {a : Addr} {ds : List D} (l : ds.length ≤ sizeLine) : ItOk Γ (Itl Γ.K a) (.ref a) (.lst ds) ds := ⟨l, fun M H s ok r i => by
  cases r with
  | lst e l2 r =>
    refine ⟨fun d hd => ?_, fun hi => ⟨_, .of (msk_get e), by rw [r.length]; exact hi⟩⟩
    obtain ⟨v, hv, rv⟩ := r.get hd
    refine ⟨⟨_, v, .of (msk_get e), hv⟩, fun x H' y => ?_⟩
    obtain ⟨rfl, y⟩ := y
    have ex : x = v := Option.some.inj ((y _ (.of (msk_get e))).symm.trans hv)
    subst ex
    exact ⟨.refl _ _, ok.st, rv⟩⟩
theorem it_tup {a : Addr} {ds : List D} (l : ds.length ≤ sizeLine) : ItOk Γ (Itt Γ.K a) (.ref a) (.tup ds) ds := ⟨l, fun M H s ok r i => by
  cases r with
  | tup e l2 r =>
    refine ⟨fun d hd => ?_, fun hi => ⟨_, .of (msk_get e), by rw [r.length]; exact hi⟩⟩
    obtain ⟨v, hv, rv⟩ := r.get hd
    refine ⟨⟨_, v, .of (msk_get e), hv⟩, fun x H' y => ?_⟩
    obtain ⟨rfl, y⟩ := y
    have ex : x = v := Option.some.inj ((y _ (.of (msk_get e))).symm.trans hv)
    subst ex
    exact ⟨.refl _ _, ok.st, rv⟩⟩
theorem di_list {t : TE} {f : Ev → Mo D} (h : DE Γ E t f) : DI Γ E (iList Γ.K t) (overL f) := fun M O σ env H s x R q => by
  refine h M O σ env H s x _ (PostR.bnd q fun a s1 v H1 e1 t1 r1 h1 => ?_)
  cases id r1 with
  | lst e l r => exact ⟨_, rfl, ⟨_, .of (msk_get e)⟩, h1.here t1 ⟨_, _, r1, it_list (by rw [← r.length]; exact l)⟩⟩
  | _ => exact h1.elim
theorem di_tup {t : TE} {f : Ev → Mo D} (h : DE Γ E t f) : DI Γ E (iTup Γ.K t) (overT f) := fun M O σ env H s x R q => by
  refine h M O σ env H s x _ (PostR.bnd q fun a s1 v H1 e1 t1 r1 h1 => ?_)
  cases id r1 with
  | tup e l r => exact ⟨_, rfl, ⟨_, .of (msk_get e)⟩, h1.here t1 ⟨_, _, r1, it_tup (by rw [← r.length]; exact l)⟩⟩
  | _ => exact h1.elim
def rangeL (lo : Int) (n : Nat) : List D := (List.range n).map fun i => .int (lo + (i : Nat))
theorem it_range {lo : Int} {n : Nat} (l : n ≤ sizeLine) : ItOk Γ (Itr lo n) .non .non (rangeL lo n) := by
  have el : (rangeL lo n).length = n := by unfold rangeL; rw [List.length_map, List.length_range]
  refine ⟨by rw [el]; exact l, fun M H s ok r i => ⟨fun d hd => ?_, fun hi => by rw [el] at hi; exact hi⟩⟩
  have hi : i < n := by rw [← el]; exact (List.getElem?_eq_some_iff.mp hd).1
  unfold rangeL at hd
  rw [List.getElem?_map, List.getElem?_range hi] at hd
  cases hd
  refine ⟨hi, fun x H' y => ?_⟩
  obtain ⟨rfl, rfl⟩ := y
  exact ⟨.refl _ _, ok.st, .int _⟩
def range1 : List D → Mo (List D)
  | [.int j] => if -100000 ≤ j ∧ j ≤ 100000 then ret (rangeL 0 j.toNat) else bad
  | _ => bad
def range2 : List D → Mo (List D)
  | [.int i, .int j] => if (-100000 ≤ i ∧ i ≤ 100000) ∧ (-100000 ≤ j ∧ j ≤ 100000) then ret (rangeL i (j - i).toNat) else bad
  | _ => bad
def overR (r : List D → Mo (List D)) (f : Ev → Mo (List D)) : Ev → Mo (List D) := fun env => bnd (f env) r
theorem toNat_line {j : Int} (h : j ≤ 400000) : j.toNat ≤ sizeLine := by rw [sizeLine_eq]; omega
theorem di_range1 {t : TA} {f : Ev → Mo (List D)} (h : DA Γ E t f) : DI Γ E (iRng1 t) (overR range1 f) := fun M O σ env H s x R q => by
  refine h M O σ env H s x _ (PostR.bnd q fun a s1 v H1 e1 t1 r1 h1 => ?_)
  cases r1 with
  | nil => exact h1.elim
  | cons ra rt =>
    cases rt with
    | cons _ _ => cases ra <;> exact h1.elim
    | nil =>
      cases ra with
      | int j =>
        simp only [range1] at h1
        split at h1
        · rename_i hj
          exact ⟨j, rfl, by omega, by omega, h1.here t1 ⟨.non, .non, .non, it_range (toNat_line (by omega))⟩⟩
        · exact h1.elim
      | _ => exact h1.elim
theorem di_range2 {t : TA} {f : Ev → Mo (List D)} (h : DA Γ E t f) : DI Γ E (iRng2 t) (overR range2 f) := fun M O σ env H s x R q => by
  refine h M O σ env H s x _ (PostR.bnd q fun a s1 v H1 e1 t1 r1 h1 => ?_)
  cases r1 with
  | nil => exact h1.elim
  | cons ra rt =>
    cases rt with
    | nil => cases ra <;> exact h1.elim
    | cons rb rt2 =>
      cases rt2 with
      | cons _ _ => cases ra <;> first | exact h1.elim | (cases rb <;> exact h1.elim)
      | nil =>
        cases ra with
        | int i =>
          cases rb with
          | int j =>
            simp only [range2] at h1
            split at h1
            · rename_i hj
              exact ⟨i, j, rfl, ⟨by omega, by omega, by omega, by omega⟩, h1.here t1 ⟨.non, .non, .non, it_range (toNat_line (by omega))⟩⟩
            · exact h1.elim
          | _ => exact h1.elim
        | _ => exact h1.elim
/-- enumerate of a list -/
def enumL (k : Nat) : List D → List D
  | [] => []
  | d :: ds => .tup [.int k, d] :: enumL (k + 1) ds
theorem enumL_length : ∀ (k : Nat) (ds : List D), (enumL k ds).length = ds.length
  | _, [] => rfl
  | k, d :: ds => by unfold enumL; rw [List.length_cons, List.length_cons, enumL_length]
theorem enumL_get : ∀ (k : Nat) (ds : List D) (i : Nat), (enumL k ds)[i]? = ds[i]?.map fun d => .tup [.int ((k + i : Nat) : Int), d]
  | _, [], i => by simp [enumL]
  | k, d :: ds, 0 => by simp [enumL]
  | k, d :: ds, i + 1 => by
    unfold enumL
    rw [List.getElem?_cons_succ, List.getElem?_cons_succ, enumL_get (k + 1) ds i]
    congr 1
    funext d
    rw [show k + 1 + i = k + (i + 1) by omega]
def enum1 : List D → Mo (List D)
  | [.lst ds] => ret (enumL 0 ds)
  | _ => bad
theorem it_enum {a : Addr} {ds : List D} (l : ds.length ≤ sizeLine) : ItOk Γ (Ite Γ.K a) (.ref a) (.lst ds) (enumL 0 ds) := ⟨by rw [enumL_length]; exact l, fun M H s ok r i => by
  cases r with
  | lst e l2 r =>
    refine ⟨fun d hd => ?_, fun hi => ⟨_, .of (msk_get e), by rw [enumL_length] at hi; rw [r.length]; exact hi⟩⟩
    rw [enumL_get] at hd
    cases hdi : ds[i]? with
    | none => rw [hdi] at hd; cases hd
    | some d0 =>
      rw [hdi] at hd
      cases hd
      obtain ⟨v, hv, rv⟩ := r.get hdi
      refine ⟨⟨_, v, .of (msk_get e), hv⟩, fun x H' y => ?_⟩
      obtain ⟨T, x0, rfl, nT, rfl, y⟩ := y
      have ex : x0 = v := Option.some.inj ((y _ (.of (msk_get e))).symm.trans hv)
      subst ex
      refine ⟨Ext.new nT, ok.newSt nT, ?_⟩
      have := ok.tupNew (vs := [.int (i : Nat), x0]) (ds := [.int ((0 + i : Nat) : Int), d0]) nT (by show 2 ≤ sizeLine; decide) (.cons (by rw [Nat.zero_add]; exact .int _) (.cons rv .nil))
      exact this⟩
theorem di_enum {t : TA} {f : Ev → Mo (List D)} (h : DA Γ E t f) : DI Γ E (iEnum Γ.K t) (overR enum1 f) := fun M O σ env H s x R q => by
  refine h M O σ env H s x _ (PostR.bnd q fun a s1 v H1 e1 t1 r1 h1 => ?_)
  cases r1 with
  | nil => exact h1.elim
  | cons ra rt =>
    cases rt with
    | cons _ _ => cases ra <;> exact h1.elim
    | nil =>
      cases id ra with
      | lst e l r => exact ⟨_, _, rfl, .of (msk_get e), h1.here t1 ⟨_, _, ra, it_enum (by rw [← r.length]; exact l)⟩⟩
      | _ => exact h1.elim

/-! ### new lists -/
def RF (Γ : Gx) (M : Addr → Prop) (Hs : Hp) : V → Hp → List D → Prop := fun v H ds => ∃ p vs, v = .ref p ∧ Hs p = none ∧ H p = some (.lst vs) ∧ vs.length ≤ sizeLine ∧ Reps Γ (msk (fun a => M a ∨ a = p) H) vs ds
/-- a reading that gives a new list -/
def DF (Γ : Gx) (E : XK) (t : TE) (f : Ev → Mo (List D)) : Prop := ∀ M O σ env H s, RepX Γ M O σ env H s → ∀ Q, PostR Γ E M (RF Γ M H) H (f env s) Q → t σ H Q

/-! ### list comprehensions -/
def nox {α : Type} (m : Mo α) : Mo α := fun s => match m s with
  | .exc _ _ => .bad
  | o => o
def wipeE (env : Ev) : List Nat → Ev
  | [] => env
  | v :: vs => (wipeE env vs).set v .no
def lcD (h : D → Option (List D)) (js : List Nat) (ft : Ev → Mo Bool) (fe : Ev → Mo D) (env : Ev) : List D → Mo (List D)
  | [] => ret []
  | d :: r => bnd (optM (h d)) fun ds => bnd (nox (ft (setsE js ds env))) fun b => if b then bnd (nox (fe (setsE js ds env))) fun y => bnd (lcD h js ft fe env r) fun ys => ret (y :: ys) else lcD h js ft fe env r
def compD (fi : Ev → Mo (List D)) (h : D → Option (List D)) (js : List Nat) (ft : Ev → Mo Bool) (fe : Ev → Mo D) (vs : List Nat) : Ev → Mo (List D) := fun env => bnd (fi env) fun ds => lcD h js ft fe (wipeE env vs) ds
def asL (f : Ev → Mo (List D)) : Ev → Mo D := fun env => bnd (f env) fun ds => ret (.lst ds)

theorem wipe_at {σ : L2.St} {i j : Nat} : ∀ {vs : List Nat}, i ∈ vs → i < σ.length → (wipe σ vs)[i]? = some none
  | [], h, _ => by cases h
  | v :: vs, h, hl => by
    unfold wipe
    by_cases hv : v = i
    · subst hv
      rw [List.getElem?_set_self (by rw [wipe_length]; exact hl)]
    · rw [List.getElem?_set_ne hv]
      exact wipe_at (j := j) ((List.mem_cons.mp h).resolve_left fun e => hv e.symm) hl
theorem wipe_get {σ : L2.St} {i : Nat} : ∀ {vs : List Nat}, (wipe σ vs)[i]? = if i ∈ vs ∧ i < σ.length then some none else σ[i]?
  | [] => by simp [wipe]
  | v :: vs => by
    unfold wipe
    by_cases hv : v = i
    · subst hv
      by_cases hl : v < σ.length
      · rw [List.getElem?_set_self (by rw [wipe_length]; exact hl), if_pos ⟨List.mem_cons_self, hl⟩]
      · rw [if_neg (fun z => hl z.2), List.getElem?_eq_none (by rw [List.length_set, wipe_length]; omega), List.getElem?_eq_none (by omega)]
    · rw [List.getElem?_set_ne hv, wipe_get]
      by_cases hi : i ∈ vs ∧ i < σ.length
      · rw [if_pos hi, if_pos ⟨List.mem_cons_of_mem _ hi.1, hi.2⟩]
      · rw [if_neg hi, if_neg fun z => hi ⟨(List.mem_cons.mp z.1).resolve_left fun e => hv e.symm, z.2⟩]
theorem wipe_congr {σ τ : L2.St} {vs : List Nat} (hl : σ.length = τ.length) (h : ∀ i, i ∉ vs → σ[i]? = τ[i]?) : wipe σ vs = wipe τ vs := by
  refine List.ext_getElem? fun i => ?_
  rw [wipe_get, wipe_get, hl]
  by_cases hi : i ∈ vs
  · by_cases h2 : i < τ.length
    · rw [if_pos ⟨hi, h2⟩, if_pos ⟨hi, h2⟩]
    · rw [if_neg (fun z => h2 z.2), if_neg (fun z => h2 z.2), List.getElem?_eq_none (by omega), List.getElem?_eq_none (by omega)]
  · rw [if_neg (fun z => hi z.1), if_neg (fun z => hi z.1), h i hi]
theorem setsS_get {i : Nat} : ∀ {js : List Nat} {vs : List V} {σ : L2.St}, i ∉ js → (setsS js vs σ)[i]? = σ[i]?
  | [], _, _, _ => by unfold setsS; rfl
  | _ :: _, [], _, _ => by unfold setsS; rfl
  | j :: js, v :: vs, σ, h => by
    show (setsS js vs (σ.set j (some v)))[i]? = _
    rw [setsS_get (fun z => h (List.mem_cons_of_mem _ z)), List.getElem?_set_ne (fun z => h (by rw [z]; exact List.mem_cons_self))]
theorem setsS_length : ∀ {js : List Nat} {vs : List V} {σ : L2.St}, (setsS js vs σ).length = σ.length
  | [], _, _ => by unfold setsS; rfl
  | _ :: _, [], _ => by unfold setsS; rfl
  | j :: js, v :: vs, σ => by
    show (setsS js vs (σ.set j (some v))).length = _
    rw [setsS_length, List.length_set]
theorem wipe_sets {σ : L2.St} {vs js : List Nat} {ws : List V} (h : ∀ j ∈ js, j ∈ vs) : wipe (setsS js ws (wipe σ vs)) vs = wipe σ vs := by
  refine wipe_congr (by rw [setsS_length, wipe_length]) fun i hi => ?_
  rw [setsS_get (fun z => hi (h i z)), wipe_get, if_neg (fun z => hi z.1)]
theorem wipeE_length {env : Ev} : ∀ {vs : List Nat}, (wipeE env vs).length = env.length
  | [] => rfl
  | v :: vs => by unfold wipeE; rw [List.length_set, wipeE_length]
theorem wipeE_val {env : Ev} {i : Nat} {sl : Sl} : ∀ {vs : List Nat}, (wipeE env vs)[i]? = some sl → sl ≠ .no → env[i]? = some sl ∧ i ∉ vs
  | [], h, _ => ⟨h, by simp⟩
  | v :: vs, h, hn => by
    unfold wipeE at h
    by_cases hv : v = i
    · subst hv
      rw [List.getElem?_set] at h
      simp only [if_true] at h
      split at h
      · exact absurd (Option.some.inj h).symm hn
      · cases h
    · rw [List.getElem?_set_ne hv] at h
      obtain ⟨a, b⟩ := wipeE_val h hn
      exact ⟨a, by simp only [List.mem_cons, not_or]; exact ⟨fun e => hv e.symm, b⟩⟩
def Ow.clr (O : Ow) (vs : List Nat) : Ow := fun i => if i ∈ vs then [] else O i
theorem Ow.mem_clr {O : Ow} {vs : List Nat} {i : Nat} {a : Addr} (h : a ∈ O.clr vs i) : a ∈ O i ∧ i ∉ vs := by
  unfold Ow.clr at h
  split at h
  · cases h
  · exact ⟨h, by assumption⟩
theorem Ow.clr_of {O : Ow} {vs : List Nat} {i : Nat} (h : i ∉ vs) : O.clr vs i = O i := if_neg h
theorem RepX.wipe {M : Addr → Prop} {O : Ow} {σ : L2.St} {env : Ev} {H : Hp} {s : S} (x : RepX Γ M O σ env H s) (vs : List Nat) : RepX Γ M (O.clr vs) (wipe σ vs) (wipeE env vs) H s where
  val i d h := by
    obtain ⟨h1, h2⟩ := wipeE_val h (fun z => by cases z)
    obtain ⟨v, a, b⟩ := x.val i d h1
    exact ⟨v, by rw [wipe_get, if_neg (fun z => h2 z.1)]; exact a, b⟩
  own i sl h ho := by
    obtain ⟨h1, h2⟩ := wipeE_val h (fun z => by rw [z] at ho; cases ho)
    obtain ⟨v, q, r⟩ := x.own i sl h1 ho
    exact ⟨v, by rw [wipe_get, if_neg (fun z => h2 z.1)]; exact q, by rw [Ow.clr_of h2]; exact r⟩
  non i h := by
    unfold Ow.clr
    split
    · rfl
    · rename_i hi
      refine x.non i fun sl hs => ?_
      cases sl with
      | no => rfl
      | _ =>
        refine h _ ?_
        have : ∀ vs : List Nat, i ∉ vs → (wipeE env vs)[i]? = env[i]? := fun vs => by
          induction vs with
          | nil => exact fun _ => rfl
          | cons v vs ih =>
            intro hv
            unfold wipeE
            rw [List.getElem?_set_ne (fun e => hv (by rw [e]; exact List.mem_cons_self))]
            exact ih fun z => hv (List.mem_cons_of_mem _ z)
        rw [this vs hi]; exact hs
  inM i a h := x.inM i a (Ow.mem_clr h).1
  nod i := by
    unfold Ow.clr
    split
    · exact List.nodup_nil
    · exact x.nod i
  dis i j a h1 h2 := x.dis i j a (Ow.mem_clr h1).1 (Ow.mem_clr h2).1
  ok := x.ok
  len := by rw [wipeE_length, wipe_length]; exact x.len
  mee i h := by
    obtain ⟨h1, h2⟩ := wipeE_val h (fun z => by cases z)
    rw [wipe_get, if_neg (fun z => h2 z.1)]; exact x.mee i h1
theorem set_cases {α : Type} {l : List α} {i j : Nat} {x y : α} (h : (l.set i x)[j]? = some y) : (i = j ∧ x = y) ∨ (i ≠ j ∧ l[j]? = some y) := by
  by_cases hj : i = j
  · subst hj
    rw [List.getElem?_set] at h
    simp only [if_true] at h
    split at h
    · exact .inl ⟨rfl, Option.some.inj h⟩
    · cases h
  · rw [List.getElem?_set_ne hj] at h
    exact .inr ⟨hj, h⟩
theorem RepX.set {M : Addr → Prop} {O : Ow} {σ : L2.St} {env : Ev} {H : Hp} {s : S} (x : RepX Γ M O σ env H s) {i : Nat} {v : V} {d : D} (r : Rep Γ (msk M H) v d) : RepX Γ M (O.clr [i]) (σ.set i (some v)) (env.set i (.val d)) H s where
  val j e h := by
    have h0 := h
    rcases set_cases h with ⟨hj, he⟩ | ⟨hj, he⟩
    · subst hj
      cases he
      have hl := (List.getElem?_eq_some_iff.mp h0).1
      rw [List.length_set, x.len] at hl
      exact ⟨v, by rw [List.getElem?_set_self hl], r⟩
    · rw [List.getElem?_set_ne hj]
      exact x.val j e he
  own j sl h ho := by
    rcases set_cases h with ⟨hj, he⟩ | ⟨hj, he⟩
    · rw [← he] at ho; cases ho
    · obtain ⟨w, q, r⟩ := x.own j sl he ho
      exact ⟨w, by rw [List.getElem?_set_ne hj]; exact q, by rw [Ow.clr_of (fun z => hj (List.mem_singleton.mp z).symm)]; exact r⟩
  non j h := by
    unfold Ow.clr
    split
    · rfl
    · rename_i hj
      refine x.non j fun sl hs => h sl ?_
      rw [List.getElem?_set_ne (fun e => hj (List.mem_singleton.mpr e.symm))]; exact hs
  inM j a h := x.inM j a (Ow.mem_clr h).1
  nod j := by
    unfold Ow.clr
    split
    · exact List.nodup_nil
    · exact x.nod j
  dis j k a h1 h2 := x.dis j k a (Ow.mem_clr h1).1 (Ow.mem_clr h2).1
  ok := x.ok
  len := by rw [List.length_set, List.length_set]; exact x.len
  mee j h := by
    rcases set_cases h with ⟨_, he⟩ | ⟨hj, he⟩
    · cases he
    · rw [List.getElem?_set_ne hj]; exact x.mee j he
def Ow.clrs : List Nat → List D → Ow → Ow
  | j :: js, _ :: ds, O => Ow.clrs js ds (O.clr [j])
  | _, _, O => O
theorem setsE_length : ∀ {js : List Nat} {ds : List D} {env : Ev}, (setsE js ds env).length = env.length
  | [], _, _ => by unfold setsE; rfl
  | _ :: _, [], _ => by unfold setsE; rfl
  | j :: js, v :: vs, σ => by
    show (setsE js vs (σ.set j (.val v))).length = _
    rw [setsE_length, List.length_set]
theorem RepX.sets {M : Addr → Prop} {H : Hp} {s : S} : ∀ {js : List Nat} {vs : List V} {ds : List D} {O : Ow} {σ : L2.St} {env : Ev}, RepX Γ M O σ env H s → Reps Γ (msk M H) vs ds → RepX Γ M (Ow.clrs js ds O) (setsS js vs σ) (setsE js ds env) H s
  | [], _, _, _, _, _, x, _ => by unfold setsS setsE Ow.clrs; exact x
  | _ :: _, _, _, _, _, _, x, .nil => by unfold setsS setsE Ow.clrs; exact x
  | j :: js, _, _, O, σ, env, x, .cons r t => by
    show RepX Γ M (Ow.clrs js _ (O.clr [j])) (setsS js _ (σ.set j _)) (setsE js _ (env.set j _)) H s
    exact RepX.sets (x.set r) t
theorem msk_upd {M : Addr → Prop} {H : Hp} {p : Addr} {o : HO} (h : M p) : msk M (upd H p o) = msk M H := by
  funext b
  unfold msk
  by_cases hb : M b
  · rw [if_pos hb, if_pos hb]
  · rw [if_neg hb, if_neg hb, upd_ne (fun e => hb (by rw [e]; exact h))]
/-- what stands under a smaller mask stands under a larger one, where the larger part is new -/
theorem msk_more {M N : Addr → Prop} {H H' : Hp} (h : ∀ p, N p → ¬ M p → H p = none) (k : ∀ p o, msk M H p = some o → H' p = some o) : ∀ p o, msk M H p = some o → msk N H' p = some o := fun p o q => by
  obtain ⟨a, b⟩ := msk_iff.mp q
  exact msk_iff.mpr ⟨fun n => (by rw [h p n a] at b; cases b), k p o q⟩
theorem msk_less {M N : Addr → Prop} {H : Hp} (h : ∀ p, N p → M p) : ∀ p o, msk M H p = some o → msk N H p = some o := fun p o q => by
  obtain ⟨a, b⟩ := msk_iff.mp q
  exact msk_iff.mpr ⟨fun n => a (h p n), b⟩
theorem nox_post {α β : Type} {M : Addr → Prop} {R : β → Hp → α → Prop} {γ δ : Type} {R' : δ → Hp → γ → Prop} {E' : XK} {H Hb : Hp} {m : Mo α} {k : α → Mo γ} {s : S} {Q : δ → Hp → Prop} {P : β → Hp → Prop} {M' : Addr → Prop}
    (h : PostR Γ E M R' Hb (bnd (nox m) k s) Q) (n : ∀ a s1 v H1, Ext Γ.sa H H1 → StOk Γ H1 s1 → R v H1 a → PostR Γ E M R' Hb (k a s1) Q → P v H1) : PostR Γ E' M' R H (m s) P := by
  cases e : m s with
  | bad =>
    have e2 : nox m s = .bad := by unfold nox; rw [e]
    unfold G.bnd at h; rw [e2] at h; exact h
  | exc x s1 =>
    have e2 : nox m s = .bad := by unfold nox; rw [e]
    unfold G.bnd at h; rw [e2] at h; exact h.elim
  | ok a s1 =>
    have e2 : nox m s = .ok a s1 := by unfold nox; rw [e]
    unfold G.bnd at h
    rw [e2] at h
    exact fun v H1 ex st r => n a s1 v H1 ex st r h
theorem PostR.later {α β : Type} {M : Addr → Prop} {R : β → Hp → α → Prop} {H H1 : Hp} {o : Out α} {Q : β → Hp → Prop} (h : PostR Γ E M R H o Q) (e : Ext Γ.sa H H1) : PostR Γ E M R H1 o Q := by
  cases o with
  | bad => exact h
  | exc x s => exact fun cls dx H' y1 y2 y3 => h cls dx H' (e.trans y1) y2 y3
  | ok a s => exact fun v H' y1 y2 y3 => h v H' (e.trans y1) y2 y3
/-- one element's outcome, then the rest's -/
theorem PostR.step {α γ δ : Type} {M : Addr → Prop} {H : Hp} {o : Option α} {k : α → Mo γ} {s : S} {R' : δ → Hp → γ → Prop} {Q : δ → Hp → Prop} (h : PostR Γ E M R' H (G.bnd (optM o) k s) Q) : ∃ a, o = some a ∧ PostR Γ E M R' H (k a s) Q := by
  cases o with
  | none => exact h.elim
  | some a => exact ⟨a, rfl, h⟩
theorem df_lc {E' : XK} {wi : TI} {g : TG} {tt : TT} {te : TE} {vs : List Nat} {fi : Ev → Mo (List D)} {h : D → Option (List D)} {js : List Nat} {ft : Ev → Mo Bool} {fe : Ev → Mo D}
    (hi : DI Γ E wi fi) (hg : DG Γ g h js) (ht : DT Γ E' tt ft) (he : DE Γ E' te fe) (hv : ∀ j ∈ js, j ∈ vs) : DF Γ E (tLc wi g tt te vs) (compD fi h js ft fe vs) := fun M O σ env H s x Q q => by
  unfold compD at q
  refine hi M O σ env H s x _ (PostR.bnd q fun ds s1 J H1 e1 t1 r1 h1 => ?_)
  obtain ⟨gv, gd, rg, hz, it⟩ := r1
  intro L nL
  have x1 := x.ext e1 t1
  have nM : ¬ M L := x1.ok.fresh nL
  have nS : L ≠ Γ.sa := fun z => nM (by rw [z]; exact x1.ok.ms)
  have nL0 : H L = none := x.ok.st.back t1 e1 nL
  -- the mask with the new list
  have hm : ∀ p, (M p ∨ p = L) → ¬ M p → H1 p = none := fun p a b => by
    rcases a with a | a
    · exact absurd a b
    · rw [a]; exact nL
  have up : ∀ p o, msk M H1 p = some o → msk (fun a => M a ∨ a = L) (upd H1 L (.lst [])) p = some o :=
    msk_more hm fun p o q => by
      have := msk_get q
      rw [upd_ne (ne_of_none this nL)]
      exact this
  have st0 : StOk Γ (upd H1 L (.lst [])) s1 := x1.ok.newSt nL
  have ok0 : HpOk Γ (fun a => M a ∨ a = L) (upd H1 L (.lst [])) s1 := x1.ok.addM nL
  have xw := x1.wipe vs
  have x0 : RepX Γ (fun a => M a ∨ a = L) (O.clr vs) (wipe σ vs) (wipeE env vs) (upd H1 L (.lst [])) s1 :=
    ⟨fun i d hd => by
      obtain ⟨v, a, b⟩ := xw.val i d hd
      exact ⟨v, a, b.mono up⟩, fun i sl hd ho => by
      obtain ⟨v, h1, h2⟩ := xw.own i sl hd ho
      exact ⟨v, h1, h2.keep (fun a ha u hu => by rw [upd_ne (ne_of_none hu nL)]; exact hu) up⟩, xw.non, fun i a ha => ⟨.inl (xw.inM i a ha).1, (xw.inM i a ha).2⟩, xw.nod, xw.dis, ok0, xw.len, xw.mee⟩
  have ownL : ∀ i a, a ∈ (O.clr vs) i → a ≠ L := fun i a ha z => nM (by rw [← z]; exact (xw.inM i a ha).1)
  refine ⟨fun i m H2 => m = ds.length - i ∧ i ≤ ds.length ∧ ∃ acc accd s2, RepX Γ (fun a => M a ∨ a = L) (O.clr vs) (wipe σ vs) (wipeE env vs) H2 s2 ∧ Ext Γ.sa H1 H2 ∧ H2 L = some (.lst acc) ∧ acc.length ≤ i ∧
    Reps Γ (msk (fun a => M a ∨ a = L) H2) acc accd ∧ Rep Γ (msk (fun a => M a ∨ a = L) H2) gv gd ∧ PostR Γ E M (RF Γ M H) H1 (bnd (lcD h js ft fe (wipeE env vs) (ds.drop i)) (fun ys => ret (accd ++ ys)) s2) Q, ⟨ds.length, ?_⟩, ?_⟩
  · exact ⟨by omega, Nat.zero_le _, [], [], s1, x0, Ext.new nL, upd_same, Nat.le_refl _, .nil, rg.mono up, by rw [show bnd (lcD h js ft fe (wipeE env vs) (ds.drop 0)) (fun ys => ret ([] ++ ys)) = lcD h js ft fe (wipeE env vs) ds from bnd_eta _]; exact h1⟩
  · rintro i m H2 ⟨rfl, hi2, acc, accd, s2, x2, e2, hL, hacc, racc, rg2, post⟩
    by_cases hlt : i < ds.length
    · have hd : ds[i]? = some ds[i] := List.getElem?_eq_getElem hlt
      obtain ⟨go, yld⟩ := (it _ H2 s2 x2.ok rg2 i).1 ds[i] hd
      rw [List.drop_eq_getElem_cons hlt] at post
      refine .inr ⟨go, fun H' => ∃ acc accd s2, RepX Γ (fun a => M a ∨ a = L) (O.clr vs) (wipe σ vs) (wipeE env vs) H' s2 ∧ Ext Γ.sa H1 H' ∧ H' L = some (.lst acc) ∧ acc.length ≤ i + 1 ∧
        Reps Γ (msk (fun a => M a ∨ a = L) H') acc accd ∧ Rep Γ (msk (fun a => M a ∨ a = L) H') gv gd ∧ PostR Γ E M (RF Γ M H) H1 (bnd (lcD h js ft fe (wipeE env vs) (ds.drop (i + 1))) (fun ys => ret (accd ++ ys)) s2) Q,
        fun H' n => ⟨ds.length - (i + 1), by omega, rfl, hlt, n⟩, fun v H3 y => ?_⟩
      obtain ⟨e3, t3, rv⟩ := yld v H3 y
      have x3 := x2.ext e3 t3
      unfold lcD at post
      rw [bnd_assoc] at post
      obtain ⟨as, ha, post⟩ := PostR.step post
      obtain ⟨la, ga⟩ := hg _ H3 s2 v ds[i] as x3.ok rv ha
      refine ga _ _ fun ws rw' => ⟨wipe_sets hv, ?_⟩
      have x4 := x3.sets (js := js) rw'
      rw [bnd_assoc] at post
      refine ht _ _ _ _ H3 s2 x4 _ (nox_post post fun b s5 b' H5 e5 t5 rb post => ?_)
      subst rb
      cases b' with
      | false =>
        refine iteF ?_
        have x5 := x3.ext e5 t5
        exact ⟨acc, accd, s5, x5, (e2.trans e3).trans e5, e5 _ _ (e3 _ _ hL nS nofun) nS nofun, by omega, x3.ok.reps e5 (x2.ok.reps e3 racc), x3.ok.rep e5 (x2.ok.rep e3 rg2), post⟩
      | true =>
        refine iteT ?_
        have x5 := x4.ext e5 t5
        simp only [if_true] at post
        rw [bnd_assoc] at post
        refine he _ _ _ _ H5 s5 x5 _ (nox_post post fun yd s6 yv H6 e6 t6 ry post => ?_)
        have hL6 : H6 L = some (.lst acc) := e6 _ _ (e5 _ _ (e3 _ _ hL nS nofun) nS nofun) nS nofun
        have x6 := (x3.ext e5 t5).ext e6 t6
        have mL : (fun a => M a ∨ a = L) L := .inr rfl
        have em : msk (fun a => M a ∨ a = L) (upd H6 L (.lst (acc ++ [yv]))) = msk (fun a => M a ∨ a = L) H6 := msk_upd mL
        have racc6 := x5.ok.reps e6 (x3.ok.reps e5 (x2.ok.reps e3 racc))
        have rg6 := x5.ok.rep e6 (x3.ok.rep e5 (x2.ok.rep e3 rg2))
        refine ⟨acc, hL6, by omega, acc ++ [yv], accd ++ [yd], s6, ?_, ?_, upd_same, by rw [List.length_append, List.length_singleton]; omega, ?_, ?_, ?_⟩
        · refine ⟨fun i d hd => ?_, fun i sl hd hso => ?_, x6.non, x6.inM, x6.nod, x6.dis, x6.ok.setM hL6 nS, x6.len, x6.mee⟩
          · obtain ⟨v, a, b⟩ := x6.val i d hd
            exact ⟨v, a, by rw [em]; exact b⟩
          · obtain ⟨v, h1, h2⟩ := x6.own i sl hd hso
            exact ⟨v, h1, h2.keep (fun a ha u hu => by rw [upd_ne (ownL i a ha)]; exact hu) (by rw [em]; exact fun _ _ q => q)⟩
        · intro p o ho hs ht
          by_cases hpL : p = L
          · rw [hpL, nL] at ho; cases ho
          · rw [upd_ne hpL]
            exact ((e2.trans e3).trans (e5.trans e6)) p o ho hs ht
        · rw [em]; exact racc6.append (.cons ry .nil)
        · rw [em]; exact rg6
        · rw [bnd_assoc] at post
          have ef : (fun a => bnd (ret (yd :: a)) fun ys => ret (accd ++ ys)) = fun ys => ret ((accd ++ [yd]) ++ ys) := by
            funext a
            rw [bnd_ret, List.append_assoc]
            rfl
          rw [ef] at post
          exact post
    · have ei : i = ds.length := by omega
      subst ei
      refine .inl ⟨(it _ H2 s2 x2.ok rg2 _).2 (Nat.le_refl _), ?_⟩
      rw [List.drop_length] at post
      have post : PostR Γ E M (RF Γ M H) H1 (ret (accd ++ []) s2) Q := post
      rw [List.append_nil] at post
      exact (post.later e2).here x2.ok.st ⟨L, acc, rfl, nL0, hL, Nat.le_trans hacc hz, racc⟩
theorem de_new {t : TE} {f : Ev → Mo (List D)} (h : DF Γ E t f) : DE Γ E t (asL f) := fun M O σ env H s x Q q => by
  refine h M O σ env H s x _ (PostR.bnd q fun ds s1 v H1 e1 t1 r1 h1 => ?_)
  obtain ⟨p, vs, rfl, np, hp, l, r⟩ := r1
  exact h1.here t1 (.lst (msk_iff.mpr ⟨x.ok.fresh np, hp⟩) l (r.mono (msk_less fun p hp => .inl hp)))
theorem df_lst {ta : TA} {fa : Ev → Mo (List D)} (ha : DA Γ E ta fa) : DF Γ E (tLst ta) (fun env => bnd (fa env) fun as => if as.length ≤ 1000 then ret as else bad) := fun M O σ env H s x Q h => by
  refine ha M O σ env H s x _ (PostR.bnd h fun a s1 v H1 e1 t1 r1 h1 => ?_)
  split at h1
  · rename_i hl
    have l : v.length ≤ sizeLine := le_line (by rw [r1.length]; exact hl)
    have ok1 := x.ok.ext e1 t1
    refine ⟨l, fun p np => h1 (.ref p) _ (Ext.new np) (ok1.newSt np) ⟨p, v, rfl, ?_, upd_same, l, r1.mono (msk_more (fun q a b => ?_) fun q o e => ?_)⟩⟩
    · exact x.ok.st.back t1 e1 np
    · rcases a with a | a
      · exact absurd a b
      · rw [a]; exact np
    · have := msk_get e
      rw [upd_ne (ne_of_none this np)]; exact this
  · exact h1.elim
theorem new_mask {M : Addr → Prop} {H : Hp} {p : Addr} {o : HO} (np : H p = none) : ∀ q u, msk M H q = some u → msk (fun a => M a ∨ a = p) (upd H p o) q = some u :=
  msk_more (fun q a b => by
    rcases a with a | a
    · exact absurd a b
    · rw [a]; exact np) fun q u e => by
    have := msk_get e
    rw [upd_ne (ne_of_none this np)]; exact this
def listL : List D → Mo (List D)
  | [.lst ds] => ret ds
  | [.tup ds] => ret ds
  | _ => bad
theorem df_list {ta : TA} {fa : Ev → Mo (List D)} (ha : DA Γ E ta fa) : DF Γ E (tCB (fun xs H Q => ∃ p ys, xs = [.ref p] ∧ (SqL Γ.K H p ys ∨ SqT Γ.K H p ys) ∧ ∀ l, H l = none → Q (.ref l) (upd H l (.lst ys))) ta) (fun env => bnd (fa env) listL) := fun M O σ env H s x Q h => by
  refine ha M O σ env H s x _ (PostR.bnd h fun a s1 v H1 e1 t1 r1 h1 => ?_)
  have ok1 := x.ok.ext e1 t1
  have nsa : ∀ {p}, H1 p = none → p ≠ Γ.sa := fun np z => ok1.fresh np (by rw [z]; exact ok1.ms)
  cases r1 with
  | nil => exact h1.elim
  | cons ra rt =>
    cases rt with
    | cons _ _ => cases ra <;> exact h1.elim
    | nil =>
      cases ra with
      | lst e l r => exact ⟨_, _, rfl, .inl (.of (msk_get e)), fun p np => h1 _ _ (Ext.new np) (ok1.newSt np) ⟨p, _, rfl, x.ok.st.back t1 e1 np, upd_same, l, r.mono (new_mask np)⟩⟩
      | tup e l r => exact ⟨_, _, rfl, .inr (.of (msk_get e)), fun p np => h1 _ _ (Ext.new np) (ok1.newSt np) ⟨p, _, rfl, x.ok.st.back t1 e1 np, upd_same, l, r.mono (new_mask np)⟩⟩
      | _ => exact h1.elim
/-- list(range(..)), tuple(range(..)) -/
def DR (Γ : Gx) (E : XK) (t : L2.St → Hp → (Int → Int → Hp → Prop) → Prop) (f : Ev → Mo (Int × Int)) : Prop := ∀ M O σ env H s, RepX Γ M O σ env H s → ∀ (Q : Int → Int → Hp → Prop), PostR Γ E M (fun (v : Int × Int) (_ : Hp) d => v = d) H (f env s) (fun v H => Q v.1 v.2 H) → t σ H Q
def asInt : D → Mo Int
  | .int i => ret i
  | _ => bad
theorem dr_1 {te : TE} {f : Ev → Mo D} (h : DE Γ E te f) : DR Γ E (tRg1 te) (fun env => bnd (f env) fun d => bnd (asInt d) fun n => ret ((0 : Int), n)) := fun M O σ env H s x Q q => by
  refine h M O σ env H s x _ (PostR.bnd q fun a s1 v H1 e1 t1 r1 h1 => ?_)
  cases r1 with
  | int i =>
    have h1 : PostR Γ E M (fun (v : Int × Int) (_ : Hp) d => v = d) H1 (ret ((0 : Int), i) s1) (fun v H => Q v.1 v.2 H) := h1
    exact ⟨i, rfl, h1.here (v := ((0 : Int), i)) t1 rfl⟩
  | _ => exact h1.elim
theorem dr_2 {te tf : TE} {f g : Ev → Mo D} (h : DE Γ E te f) (k : DE Γ E tf g) : DR Γ E (tRg2 te tf) (fun env => bnd (f env) fun d => bnd (asInt d) fun m => bnd (g env) fun e => bnd (asInt e) fun n => ret (m, n)) := fun M O σ env H s x Q q => by
  refine h M O σ env H s x _ (PostR.bnd q fun a s1 v H1 e1 t1 r1 h1 => ?_)
  cases r1 with
  | int i =>
    rw [show asInt (.int i) = ret i from rfl, bnd_ret] at h1
    refine k M O σ env H1 s1 (x.ext e1 t1) _ (PostR.bnd h1 fun b s2 u H2 e2 t2 r2 h2 => ?_)
    cases r2 with
    | int j =>
      have h2 : PostR Γ E M (fun (v : Int × Int) (_ : Hp) d => v = d) H2 (ret (i, j) s2) (fun v H => Q v.1 v.2 H) := h2
      exact ⟨i, j, rfl, rfl, h2.here (v := (i, j)) t2 rfl⟩
    | _ => exact h2.elim
  | _ => exact h1.elim
def rgD (p : Int × Int) : Mo (List D) := if (0 ≤ p.1 ∧ p.1 ≤ 100000) ∧ (0 ≤ p.2 ∧ p.2 ≤ 100000) then ret (rangeL p.1 (p.2 - p.1).toNat) else bad
theorem rep_range {H : Hp} (a b : Int) : Reps Γ H (rgV a b) (rangeL a (b - a).toNat) := by
  have : ∀ l : List Nat, Reps Γ H (l.map fun i => V.int (a + (i : Nat))) (l.map fun i => D.int (a + (i : Nat))) := fun l => by
    induction l with
    | nil => exact .nil
    | cons i r ih => exact .cons (.int _) ih
  exact this _
theorem df_listRg {t : L2.St → Hp → (Int → Int → Hp → Prop) → Prop} {f : Ev → Mo (Int × Int)} (h : DR Γ E t f) : DF Γ E (tLstRg t) (fun env => bnd (f env) rgD) := fun M O σ env H s x Q q => by
  refine h M O σ env H s x _ (PostR.bnd (P := fun v H => _) q fun p s1 v H1 e1 t1 r1 h1 => ?_)
  subst r1
  unfold rgD at h1
  split at h1
  · rename_i hb
    have ok1 := x.ok.ext e1 t1
    have hok : RgOk v.1 v.2 := RgOk.of_le (by omega) (by omega) (by omega) (by omega)
    have l : (rgV v.1 v.2).length ≤ sizeLine := by rw [rgV_length, sizeLine_eq]; omega
    exact ⟨hok, fun p np => h1 _ _ (Ext.new np) (ok1.newSt np) ⟨p, _, rfl, x.ok.st.back t1 e1 np, upd_same, l, rep_range _ _⟩⟩
  · exact h1.elim
theorem de_tupRg {t : L2.St → Hp → (Int → Int → Hp → Prop) → Prop} {f : Ev → Mo (Int × Int)} (h : DR Γ E t f) : DE Γ E (tTupRg t) (fun env => bnd (f env) fun p => bnd (rgD p) fun ds => ret (.tup ds)) := fun M O σ env H s x Q q => by
  refine h M O σ env H s x _ (PostR.bnd (P := fun v H => _) q fun p s1 v H1 e1 t1 r1 h1 => ?_)
  subst r1
  unfold rgD at h1
  split at h1
  · rename_i hb
    have ok1 := x.ok.ext e1 t1
    have hok : RgOk v.1 v.2 := RgOk.of_le (by omega) (by omega) (by omega) (by omega)
    have l : (rgV v.1 v.2).length ≤ sizeLine := by rw [rgV_length, sizeLine_eq]; omega
    exact ⟨hok, fun p np => h1 _ _ (Ext.new np) (ok1.newSt np) (ok1.tupNew np l (rep_range _ _))⟩
  · exact h1.elim
end
end G

namespace G
open PySem PySem.Spec PyProof.Rows L2

/-! ### statements -/
def Mof (M0 : Addr → Prop) (O : Ow) : Addr → Prop := fun a => M0 a ∨ ∃ i, a ∈ O i
structure RepS (Γ : Gx) (H0 : Hp) (M0 : Addr → Prop) (Gs : List (V × D)) (O : Ow) (σ : L2.St) (env : Ev) (H : Hp) (s : S) : Prop where
  x : RepX Γ (Mof M0 O) O σ env H s
  ext : Ext Γ.sa H0 H
  frs : ∀ i a, a ∈ O i → H0 a = none
  gh : ∀ p ∈ Gs, Rep Γ (msk (Mof M0 O) H) p.1 p.2
  dom0 : ∀ p, M0 p → H0 p ≠ none
  ms0 : Ms0 Γ M0 H0
inductive Fl where
  | nx (e : Ev) | rt (d : D) | bk (e : Ev) | ct (e : Ev)
def PostS (Γ : Gx) (E : XK) (H0 : Hp) (M0 : Addr → Prop) (Gs : List (V × D)) (o : Out Fl) (N : Ends) : Prop := match o with
  | .bad => False
  | .ok (.nx env) s => ∀ O σ H, RepS Γ H0 M0 Gs O σ env H s → N.nx σ H
  | .ok (.bk env) s => ∀ O σ H, RepS Γ H0 M0 Gs O σ env H s → N.bk σ H
  | .ok (.ct env) s => ∀ O σ H, RepS Γ H0 M0 Gs O σ env H s → N.ct σ H
  | .ok (.rt d) s => ∀ v H, Ext Γ.sa H0 H → StOk Γ H s → Rep Γ (msk M0 H) v d → N.rt v H
  | .exc x s => ∀ cls dx H, Ext Γ.sa H0 H → StOk Γ H s → XRep Γ (msk M0 H) x cls dx → E cls dx H
def DS (Γ : Gx) (E : XK) (t : TS) (f : Ev → Mo Fl) : Prop := ∀ H0 M0 Gs O σ env H s N, RepS Γ H0 M0 Gs O σ env H s → PostS Γ E H0 M0 Gs (f env s) N → t N σ H
section
variable {Γ : Gx} {E : XK} {H0 H H' : Hp} {M0 : Addr → Prop} {Gs : List (V × D)} {O : Ow} {σ : L2.St} {env : Ev} {s s' : S} {N : Ends}
theorem RepS.later (r : RepS Γ H0 M0 Gs O σ env H s) (e : Ext Γ.sa H H') (t : StOk Γ H' s') : RepS Γ H0 M0 Gs O σ env H' s' :=
  ⟨r.x.ext e t, r.ext.trans e, r.frs, fun p hp => r.x.ok.rep e (r.gh p hp), r.dom0, r.ms0⟩
theorem RepS.back0 (r : RepS Γ H0 M0 Gs O σ env H s) {p : Addr} (np : H p = none) : H0 p = none := by
  cases q : H0 p with
  | none => rfl
  | some o =>
    by_cases hs : p = Γ.sa
    · rw [hs, r.x.ok.st.at_] at np; cases np
    · by_cases ht : ∃ ps, o = .tbl ps
      · obtain ⟨ps, rfl⟩ := ht
        obtain ⟨x, a, b⟩ := r.ms0.oth p ps q
        obtain ⟨qs, y⟩ := r.x.ok.st.isTab a
        rw [← b, y] at np; cases np
      · rw [r.ext p o q hs fun ps z => ht ⟨ps, z⟩] at np; cases np
theorem XRep.mono {x : Xn} {cls : Value} {dx : Option Addr} (h : ∀ p o, H p = some o → H' p = some o) (r : XRep Γ H x cls dx) : XRep Γ H' x cls dx := by
  obtain ⟨a, b⟩ := r
  refine ⟨a, ?_⟩
  cases e : xfs x.c with
  | none => rw [e] at b; exact b
  | some f =>
    rw [e] at b
    obtain ⟨d, v, h1, h2, h3⟩ := b
    exact ⟨d, v, h1, h _ _ h2, h3.mono h⟩
theorem PostS.bnd {α β : Type} {m : Mo α} {k : α → Mo Fl} {R : β → Hp → α → Prop} {P : β → Hp → Prop} (rs : RepS Γ H0 M0 Gs O σ env H s) (h : PostS Γ E H0 M0 Gs (bnd m k s) N)
    (n : ∀ a s1 v H1, Ext Γ.sa H H1 → StOk Γ H1 s1 → R v H1 a → PostS Γ E H0 M0 Gs (k a s1) N → P v H1) : PostR Γ E (Mof M0 O) R H (m s) P := by
  unfold G.bnd at h
  cases e : m s with
  | bad => rw [e] at h; exact h
  | exc x s1 =>
    rw [e] at h
    exact fun cls dx H1 e1 t1 xr => h cls dx H1 (rs.ext.trans e1) t1 (xr.mono (msk_less fun p hp => .inl hp))
  | ok a s1 =>
    rw [e] at h
    exact fun v H1 e1 t1 r1 => n a s1 v H1 e1 t1 r1 h
theorem PostS.opt {α : Type} {o : Option α} {k : α → Mo Fl} (h : PostS Γ E H0 M0 Gs (G.bnd (optM o) k s) N) : ∃ a, o = some a ∧ PostS Γ E H0 M0 Gs (k a s) N := by
  cases o with
  | none => exact h.elim
  | some a => exact ⟨a, rfl, h⟩
theorem RepX.less {M N : Addr → Prop} (x : RepX Γ M O σ env H s) (h : ∀ p, N p → M p) (hs : Ms Γ N) (ho : ∀ i a, a ∈ O i → N a) : RepX Γ N O σ env H s where
  val i d e := by
    obtain ⟨v, a, b⟩ := x.val i d e
    exact ⟨v, a, b.mono (msk_less h)⟩
  own i sl e o := by
    obtain ⟨v, h1, h2⟩ := x.own i sl e o
    exact ⟨v, h1, h2.keep (fun _ _ _ q => q) (msk_less h)⟩
  non := x.non
  inM i a q := ⟨ho i a q, (x.inM i a q).2⟩
  nod := x.nod
  dis := x.dis
  ok := ⟨x.ok.st, hs.sa, fun p hp => x.ok.dom p (h p hp), hs.tab, fun p hp => x.ok.nt p (h p hp)⟩
  len := x.len
  mee := x.mee
theorem mof_clr {vs : List Nat} : ∀ p, Mof M0 (O.clr vs) p → Mof M0 O p := fun p h => h.imp id fun ⟨i, q⟩ => ⟨i, (Ow.mem_clr q).1⟩
theorem RepS.set (r : RepS Γ H0 M0 Gs O σ env H s) {i : Nat} {v : V} {d : D} (q : Rep Γ (msk (Mof M0 O) H) v d) : RepS Γ H0 M0 Gs (O.clr [i]) (σ.set i (some v)) (env.set i (.val d)) H s where
  x := (r.x.set q).less mof_clr (r.ms0.mm.or fun _ => .inl) (fun i a h => .inr ⟨i, h⟩)
  ext := r.ext
  frs i a h := r.frs i a (Ow.mem_clr h).1
  gh p hp := (r.gh p hp).mono (msk_less mof_clr)
  dom0 := r.dom0
  ms0 := r.ms0
theorem RepS.sets : ∀ {js : List Nat} {vs : List V} {ds : List D} {O : Ow} {σ : L2.St} {env : Ev}, RepS Γ H0 M0 Gs O σ env H s → Reps Γ (msk (Mof M0 O) H) vs ds → RepS Γ H0 M0 Gs (Ow.clrs js ds O) (setsS js vs σ) (setsE js ds env) H s
  | [], _, _, _, _, _, r, _ => by unfold setsS setsE Ow.clrs; exact r
  | _ :: _, _, _, _, _, _, r, .nil => by unfold setsS setsE Ow.clrs; exact r
  | j :: js, _, _, O, σ, env, r, .cons q t => by
    show RepS Γ H0 M0 Gs (Ow.clrs js _ (O.clr [j])) (setsS js _ (σ.set j _)) (setsE js _ (env.set j _)) H s
    exact RepS.sets (r.set q) (t.mono (msk_less mof_clr))
theorem RepS.ghost (r : RepS Γ H0 M0 Gs O σ env H s) {v : V} {d : D} (q : Rep Γ (msk (Mof M0 O) H) v d) : RepS Γ H0 M0 ((v, d) :: Gs) O σ env H s :=
  ⟨r.x, r.ext, r.frs, fun p hp => (List.mem_cons.mp hp).elim (fun e => e ▸ q) (r.gh p), r.dom0, r.ms0⟩
theorem RepS.unghost {g : V × D} (r : RepS Γ H0 M0 (g :: Gs) O σ env H s) : RepS Γ H0 M0 Gs O σ env H s :=
  ⟨r.x, r.ext, r.frs, fun p hp => r.gh p (List.mem_cons_of_mem _ hp), r.dom0, r.ms0⟩

/-! the plain statements -/
def nextS : Ev → Mo Fl := fun env => ret (.nx env)
def seqS (f g : Ev → Mo Fl) : Ev → Mo Fl := fun env => bnd (f env) fun o => match o with
  | .nx e => g e
  | .rt d => ret (.rt d)
  | .bk e => ret (.bk e)
  | .ct e => ret (.ct e)
theorem ds_next : DS Γ E tNext nextS := fun H0 M0 Gs O σ env H s N r h => h O σ H r
theorem ds_seq {t u : TS} {f g : Ev → Mo Fl} (a : DS Γ E t f) (b : DS Γ E u g) : DS Γ E (tSeq t u) (seqS f g) := fun H0 M0 Gs O σ env H s N r h => by
  refine a H0 M0 Gs O σ env H s _ r ?_
  unfold seqS G.bnd at h
  cases e : f env s with
  | bad => rw [e] at h; exact h
  | exc x s1 => rw [e] at h; exact h
  | ok o s1 =>
    rw [e] at h
    cases o with
    | nx e1 => exact fun O1 σ1 H1 r1 => b H0 M0 Gs O1 σ1 e1 H1 s1 N r1 h
    | rt d => exact h
    | bk e1 => exact h
    | ct e1 => exact h
def breakS : Ev → Mo Fl := fun env => ret (.bk env)
def contS : Ev → Mo Fl := fun env => ret (.ct env)
theorem ds_break : DS Γ E tBreak breakS := fun H0 M0 Gs O σ env H s N r h => h O σ H r
theorem ds_cont : DS Γ E tCont contS := fun H0 M0 Gs O σ env H s N r h => h O σ H r
def retS (f : Ev → Mo D) : Ev → Mo Fl := fun env => bnd (f env) fun d => ret (.rt d)
theorem ds_ret {t : TE} {f : Ev → Mo D} (a : DE Γ E t f) : DS Γ E (tRet t) (retS f) := fun H0 M0 Gs O σ env H s N r h => by
  refine a _ O σ env H s r.x _ (PostS.bnd r h fun d s1 v H1 e1 t1 r1 h1 => ?_)
  exact h1 v H1 (r.ext.trans e1) t1 (r1.mono (msk_less fun p hp => .inl hp))
def retNS : Ev → Mo Fl := fun env => ret (.rt .non)
theorem ds_retN : DS Γ E tRetN retNS := fun H0 M0 Gs O σ env H s N r h => h .non H r.ext r.x.ok.st .non
def exprS (f : Ev → Mo D) : Ev → Mo Fl := fun env => bnd (f env) fun _ => ret (.nx env)
theorem ds_expr {t : TE} {f : Ev → Mo D} (a : DE Γ E t f) : DS Γ E (tDrop t) (exprS f) := fun H0 M0 Gs O σ env H s N r h => by
  refine a _ O σ env H s r.x _ (PostS.bnd r h fun d s1 v H1 e1 t1 r1 h1 => ?_)
  exact h1 _ σ H1 (r.later e1 t1)
def ifS (c : Ev → Mo Bool) (f g : Ev → Mo Fl) : Ev → Mo Fl := fun env => bnd (c env) fun b => if b then f env else g env
theorem ds_if {tc : TT} {t u : TS} {c : Ev → Mo Bool} {f g : Ev → Mo Fl} (a : DT Γ E tc c) (b : DS Γ E t f) (k : DS Γ E u g) : DS Γ E (tIfS tc t u) (ifS c f g) := fun H0 M0 Gs O σ env H s N r h => by
  refine a _ O σ env H s r.x _ (PostS.bnd r h fun c s1 v H1 e1 t1 r1 h1 => ?_)
  subst r1
  cases v with
  | true => exact iteT (b H0 M0 Gs O σ env H1 s1 N (r.later e1 t1) h1)
  | false => exact iteF (k H0 M0 Gs O σ env H1 s1 N (r.later e1 t1) h1)
def asgS (f : Ev → Mo D) (h : D → Option (List D)) (js : List Nat) : Ev → Mo Fl := fun env => bnd (f env) fun d => bnd (optM (h d)) fun ds => ret (.nx (setsE js ds env))
theorem ds_asg {t : TE} {g : TG} {f : Ev → Mo D} {h : D → Option (List D)} {js : List Nat} (a : DE Γ E t f) (b : DG Γ g h js) : DS Γ E (tAsg t g) (asgS f h js) := fun H0 M0 Gs O σ env H s N r q => by
  refine a _ O σ env H s r.x _ (PostS.bnd r q fun d s1 v H1 e1 t1 r1 h1 => ?_)
  obtain ⟨ds, hd, h1⟩ := PostS.opt h1
  have r2 := r.later e1 t1
  obtain ⟨l, p⟩ := b _ H1 s1 v d ds r2.x.ok r1 hd
  exact p σ _ fun vs rv => h1 _ _ H1 (r2.sets rv)
/-- x = e -/
def setS (i : Nat) (f : Ev → Mo D) : Ev → Mo Fl := fun env => bnd (f env) fun d => ret (.nx (env.set i (.val d)))
theorem ds_set {t : TE} {i : Nat} {f : Ev → Mo D} (a : DE Γ E t f) : DS Γ E (tAsg t (gName i)) (setS i f) := fun H0 M0 Gs O σ env H s N r q => by
  refine a _ O σ env H s r.x _ (PostS.bnd r q fun d s1 v H1 e1 t1 r1 h1 => ?_)
  exact h1 _ _ H1 ((r.later e1 t1).set r1)

/-! loops -/
def loopD (h : D → Option (List D)) (js : List Nat) (body : Ev → Mo Fl) : List D → Ev → Mo Fl
  | [], env => ret (.nx env)
  | d :: r, env => bnd (optM (h d)) fun ds => bnd (body (setsE js ds env)) fun o => match o with
    | .nx e => loopD h js body r e
    | .ct e => loopD h js body r e
    | .bk e => ret (.nx e)
    | .rt d => ret (.rt d)
def forS (fi : Ev → Mo (List D)) (h : D → Option (List D)) (js : List Nat) (body : Ev → Mo Fl) : Ev → Mo Fl := fun env => bnd (fi env) fun ds => loopD h js body ds env
theorem ds_for {wi : TI} {g : TG} {tb : TS} {fi : Ev → Mo (List D)} {h : D → Option (List D)} {js : List Nat} {fb : Ev → Mo Fl} (hi : DI Γ E wi fi) (hg : DG Γ g h js) (hb : DS Γ E tb fb) : DS Γ E (tFor wi g tb) (forS fi h js fb) := fun H0 M0 Gs O σ env H s N r q => by
  refine hi _ O σ env H s r.x _ (PostS.bnd r q fun ds s1 J H1 e1 t1 r1 h1 => ?_)
  obtain ⟨gv, gd, rg, hz, it⟩ := r1
  have rr := (r.later e1 t1).ghost rg
  refine ⟨fun i m σ H => m = ds.length - i ∧ i ≤ ds.length ∧ ∃ O env s, RepS Γ H0 M0 ((gv, gd) :: Gs) O σ env H s ∧ PostS Γ E H0 M0 Gs (loopD h js fb (ds.drop i) env s) N, ⟨ds.length, by omega, Nat.zero_le _, O, env, s1, rr, h1⟩, ?_⟩
  rintro i m σ2 H2 ⟨rfl, hi2, O2, env2, s2, r2, p2⟩
  by_cases hlt : i < ds.length
  · have hd : ds[i]? = some ds[i] := List.getElem?_eq_getElem hlt
    obtain ⟨go, yld⟩ := (it _ H2 s2 r2.x.ok (r2.gh _ List.mem_cons_self) i).1 ds[i] hd
    rw [List.drop_eq_getElem_cons hlt] at p2
    refine .inr ⟨go, fun σ' H' => ∃ O env s, RepS Γ H0 M0 ((gv, gd) :: Gs) O σ' env H' s ∧ PostS Γ E H0 M0 Gs (loopD h js fb (ds.drop (i + 1)) env s) N, fun σ' H' n => ⟨ds.length - (i + 1), by omega, rfl, hlt, n⟩, fun v H3 y => ?_⟩
    obtain ⟨e3, t3, rv⟩ := yld v H3 y
    have r3 := r2.later e3 t3
    unfold loopD at p2
    obtain ⟨as, ha, p2⟩ := PostS.opt p2
    obtain ⟨la, ga⟩ := hg _ H3 s2 v ds[i] as r3.x.ok rv ha
    refine ga _ _ fun ws rw' => ?_
    have r4 := r3.sets (js := js) rw'
    refine hb H0 M0 ((gv, gd) :: Gs) _ _ _ H3 s2 _ r4 ?_
    unfold G.bnd at p2
    cases e : fb (setsE js as env2) s2 with
    | bad => rw [e] at p2; exact p2
    | exc x s5 => rw [e] at p2; exact p2
    | ok o s5 =>
      rw [e] at p2
      cases o with
      | nx e5 => exact fun O5 σ5 H5 r5 => ⟨O5, e5, s5, r5, p2⟩
      | ct e5 => exact fun O5 σ5 H5 r5 => ⟨O5, e5, s5, r5, p2⟩
      | bk e5 => exact fun O5 σ5 H5 r5 => p2 O5 σ5 H5 r5.unghost
      | rt d => exact p2
  · have ei : i = ds.length := by omega
    subst ei
    refine .inl ⟨(it _ H2 s2 r2.x.ok (r2.gh _ List.mem_cons_self) _).2 (Nat.le_refl _), ?_⟩
    rw [List.drop_length] at p2
    exact p2 O2 σ2 H2 r2.unghost
/-- while, at most so many turns -/
def whileD (c : Ev → Mo Bool) (body : Ev → Mo Fl) : Nat → Ev → Mo Fl
  | 0, _ => bad
  | n + 1, env => bnd (c env) fun b => if b then bnd (body env) fun o => match o with
      | .nx e => whileD c body n e
      | .ct e => whileD c body n e
      | .bk e => ret (.nx e)
      | .rt d => ret (.rt d)
    else ret (.nx env)
theorem ds_while {tc : TT} {tb : TS} {c : Ev → Mo Bool} {fb : Ev → Mo Fl} (n : Nat) (hc : DT Γ E tc c) (hb : DS Γ E tb fb) : DS Γ E (tWhile tc tb) (whileD c fb n) := fun H0 M0 Gs O σ env H s N r q => by
  refine ⟨fun m σ H => ∃ O env s, RepS Γ H0 M0 Gs O σ env H s ∧ PostS Γ E H0 M0 Gs (whileD c fb m env s) N, ⟨n, O, env, s, r, q⟩, ?_⟩
  rintro m σ2 H2 ⟨O2, env2, s2, r2, p2⟩
  cases m with
  | zero => exact p2.elim
  | succ m =>
    unfold whileD at p2
    refine hc _ O2 σ2 env2 H2 s2 r2.x _ (PostS.bnd r2 p2 fun b s3 v H3 e3 t3 rb p3 => ?_)
    subst rb
    have r3 := r2.later e3 t3
    cases v with
    | false => exact iteF (p3 O2 σ2 H3 r3)
    | true =>
      refine iteT ⟨fun σ' H' => ∃ O env s, RepS Γ H0 M0 Gs O σ' env H' s ∧ PostS Γ E H0 M0 Gs (whileD c fb m env s) N, fun σ' H' n => ⟨m, Nat.lt_succ_self m, n⟩, ?_⟩
      refine hb H0 M0 Gs O2 σ2 env2 H3 s3 _ r3 ?_
      simp only [if_true] at p3
      unfold G.bnd at p3
      cases e : fb env2 s3 with
      | bad => rw [e] at p3; exact p3
      | exc x s5 => rw [e] at p3; exact p3
      | ok o s5 =>
        rw [e] at p3
        cases o with
        | nx e5 => exact fun O5 σ5 H5 r5 => ⟨O5, e5, s5, r5, p3⟩
        | ct e5 => exact fun O5 σ5 H5 r5 => ⟨O5, e5, s5, r5, p3⟩
        | bk e5 => exact fun O5 σ5 H5 r5 => p3 O5 σ5 H5 r5
        | rt d => exact p3
end
end G

namespace G
open PySem PySem.Spec PyProof.Rows L2

/-! ### lists that a def changes: own slots -/
section
variable {Γ : Gx} {E : XK} {H0 H H' : Hp} {M0 : Addr → Prop} {Gs : List (V × D)} {O : Ow} {σ : L2.St} {env : Ev} {s s' : S} {N : Ends}
def Ow.put (O : Ow) (i : Nat) (as : List Addr) : Ow := fun j => if j = i then as else O j
theorem Ow.put_same {O : Ow} {i : Nat} {as : List Addr} : O.put i as i = as := if_pos rfl
theorem Ow.put_ne {O : Ow} {i j : Nat} {as : List Addr} (h : j ≠ i) : O.put i as j = O j := if_neg h
theorem Ow.mem_put {O : Ow} {i j : Nat} {as : List Addr} {a : Addr} (h : a ∈ O.put i as j) : (j = i ∧ a ∈ as) ∨ (j ≠ i ∧ a ∈ O j) := by
  unfold Ow.put at h
  split at h
  · exact .inl ⟨by assumption, h⟩
  · exact .inr ⟨by assumption, h⟩
theorem OwnS.isOwn {M : Addr → Prop} {v : V} {as : List Addr} {sl : Sl} (o : OwnS Γ M H v as sl) : isOwn sl = true := by
  cases sl with
  | no => exact o.elim
  | me => exact o.elim
  | val _ => exact o.elim
  | own _ => rfl
  | own2 _ => rfl
  | ownd _ _ => rfl
  | ownl _ _ => rfl
  | owne _ _ => rfl
  | ownm _ _ => rfl
/-- a slot gets a new thing of its own -/
theorem RepS.ownNew (r : RepS Γ H0 M0 Gs O σ env H s) {H1 : Hp} {s1 : S} (e : Ext Γ.sa H H1) (t : StOk Γ H1 s1) {i : Nat} (hi : i < env.length) {v : V} {as : List Addr} {sl : Sl} (nd : as.Nodup) (np : ∀ a ∈ as, H a = none)
    (q : OwnS Γ (fun a => Mof M0 O a ∨ a ∈ as) H1 v as sl) : RepS Γ H0 M0 Gs (O.put i as) (σ.set i (some v)) (env.set i sl) H1 s1 := by
  have nps : ∀ a ∈ as, a ≠ Γ.sa := fun a ha z => by
    have := np a ha
    rw [z, r.x.ok.st.at_] at this
    cases this
  have subM : ∀ a, Mof M0 (O.put i as) a → (Mof M0 O a ∨ a ∈ as) := fun a h => by
    rcases h with h | ⟨j, h⟩
    · exact .inl (.inl h)
    · rcases Ow.mem_put h with ⟨_, h⟩ | ⟨_, h⟩
      · exact .inr h
      · exact .inl (.inr ⟨j, h⟩)
  have up : ∀ b o, msk (Mof M0 O) H b = some o → msk (Mof M0 (O.put i as)) H1 b = some o :=
    msk_more (fun b h n => by
      rcases subM b h with h | h
      · exact absurd h n
      · exact np b h) fun b o h => by
      obtain ⟨a, c⟩ := msk_iff.mp h
      exact e b o c (fun z => a (by rw [z]; exact r.x.ok.ms)) (r.x.ok.ntm a c)
  have old : ∀ j a, a ∈ O j → a ∉ as := fun j a h h2 => r.x.ok.dom a (.inr ⟨j, h⟩) (np a h2)
  refine ⟨⟨fun j d h => ?_, fun j sl' h ho => ?_, fun j h => ?_, fun j a h => ?_, fun j => ?_, fun j k a h1 h2 => ?_, ⟨t, .inl r.ms0.mm.sa, fun b hb => ?_, fun t m => .inl (r.ms0.mm.tab t m), fun b hb vs z => ?_⟩, (by rw [List.length_set, List.length_set]; exact r.x.len), fun j h => (by
    rcases set_cases h with ⟨_, he⟩ | ⟨hj, he⟩
    · rw [he] at q; exact absurd q.isOwn (by intro z; cases z)
    · rw [List.getElem?_set_ne hj]; exact r.x.mee j he)⟩, r.ext.trans e, fun j a h => ?_, fun g hg => (r.gh g hg).mono up, r.dom0, r.ms0⟩
  · rcases set_cases h with ⟨_, h⟩ | ⟨hj, h⟩
    · rw [h] at q; exact absurd q.isOwn (by intro z; cases z)
    · obtain ⟨v, a, b⟩ := r.x.val j d h
      exact ⟨v, by rw [List.getElem?_set_ne hj]; exact a, b.mono up⟩
  · rcases set_cases h with ⟨hj, he⟩ | ⟨hj, he⟩
    · subst hj
      subst he
      rw [Ow.put_same]
      exact ⟨v, by rw [List.getElem?_set_self (by rw [← r.x.len]; exact hi)], q.keep (fun _ _ _ z => z) (msk_less subM)⟩
    · obtain ⟨w, h1, h2⟩ := r.x.own j sl' he ho
      rw [Ow.put_ne (Ne.symm hj)]
      exact ⟨w, by rw [List.getElem?_set_ne hj]; exact h1, h2.keep (fun a ha u hu => e a u hu (r.x.inM j a ha).2 (h2.thereN a ha u hu).1) up⟩
  · by_cases hj : j = i
    · subst hj
      exact absurd q.isOwn (by rw [h sl (by rw [List.getElem?_set_self hi])]; exact Bool.false_ne_true)
    · rw [Ow.put_ne hj]
      exact r.x.non j fun sl' hs => h sl' (by rw [List.getElem?_set_ne (Ne.symm hj)]; exact hs)
  · refine ⟨.inr ⟨j, h⟩, ?_⟩
    rcases Ow.mem_put h with ⟨_, h⟩ | ⟨_, h⟩
    · exact nps a h
    · exact (r.x.inM j a h).2
  · by_cases hj : j = i
    · rw [hj, Ow.put_same]; exact nd
    · rw [Ow.put_ne hj]; exact r.x.nod j
  · rcases Ow.mem_put h1 with ⟨e1, h1⟩ | ⟨e1, h1⟩
    · rcases Ow.mem_put h2 with ⟨e2, h2⟩ | ⟨e2, h2⟩
      · rw [e1, e2]
      · exact absurd h1 (old k a h2)
    · rcases Ow.mem_put h2 with ⟨e2, h2⟩ | ⟨e2, h2⟩
      · exact absurd h2 (old j a h1)
      · exact r.x.dis j k a h1 h2
  · rcases subM b hb with hb | hb
    · exact ((r.x.ok.ext e t).dom b hb)
    · obtain ⟨u, hu⟩ := q.there b hb
      rw [hu]; exact fun z => by cases z
  · rcases subM b hb with hb | hb
    · exact (r.x.ok.ext e t).nt b hb vs z
    · exact (q.thereN b hb _ z).2
  · rcases Ow.mem_put h with ⟨_, h⟩ | ⟨_, h⟩
    · exact r.back0 (np a h)
    · exact r.frs j a h
def setOwnS (i : Nat) (f : Ev → Mo (List D)) : Ev → Mo Fl := fun env => if i < env.length then bnd (f env) fun ds => ret (.nx (env.set i (.own ds))) else bad
theorem RF.own {M : Addr → Prop} {Hs : Hp} {v : V} {ds : List D} (h : RF Γ M Hs v H ds) : ∃ a, Hs a = none ∧ OwnS Γ (fun b => M b ∨ b ∈ [a]) H v [a] (.own ds) := by
  obtain ⟨p, vs, rfl, np, hp, l, r⟩ := h
  refine ⟨p, np, p, rfl, rfl, vs, hp, l, ?_⟩
  have : (fun b => M b ∨ b ∈ [p]) = fun b => M b ∨ b = p := by
    funext b
    rw [show (b ∈ [p]) = (b = p) from propext List.mem_singleton]
  rw [this]
  exact r
theorem ds_setOwn {t : TE} {i : Nat} {f : Ev → Mo (List D)} (a : DF Γ E t f) : DS Γ E (tAsg t (gName i)) (setOwnS i f) := fun H0 M0 Gs O σ env H s N r q => by
  unfold setOwnS at q
  split at q
  · rename_i hi
    refine a _ O σ env H s r.x _ (PostS.bnd r q fun ds s1 v H1 e1 t1 r1 h1 => ?_)
    obtain ⟨p, np, o⟩ := r1.own
    exact h1 _ _ H1 (r.ownNew e1 t1 hi (List.nodup_cons.mpr ⟨List.not_mem_nil, List.nodup_nil⟩) (fun a ha => by rw [List.mem_singleton.mp ha]; exact np) o)
  · exact q.elim
/-- what a slot owns changes in place -/
theorem RepS.mut (r : RepS Γ H0 M0 Gs O σ env H s) {i : Nat} {sl sl' : Sl} {v : V} {H1 : Hp} (hi : env[i]? = some sl) (ho : isOwn sl = true) (hv : σ[i]? = some (some v)) (same : ∀ p, p ∉ O i → H1 p = H p) (q : OwnS Γ (Mof M0 O) H1 v (O i) sl') :
    RepS Γ H0 M0 Gs O σ (env.set i sl') H1 s := by
  have hl : i < env.length := (List.getElem?_eq_some_iff.mp hi).1
  have em : msk (Mof M0 O) H1 = msk (Mof M0 O) H := by
    funext b
    unfold msk
    by_cases hb : Mof M0 O b
    · rw [if_pos hb, if_pos hb]
    · rw [if_neg hb, if_neg hb, same b fun z => hb (.inr ⟨i, z⟩)]
  have nsa : Γ.sa ∉ O i := fun z => (r.x.inM i _ z).2 rfl
  refine ⟨⟨fun j d h => ?_, fun j sl2 h ho2 => ?_, fun j h => ?_, r.x.inM, r.x.nod, r.x.dis, ⟨?_, r.x.ok.ms, fun b hb => ?_, r.x.ok.mt, fun b hb vs z => ?_⟩, (by rw [List.length_set]; exact r.x.len), fun j h => (by
    rcases set_cases h with ⟨_, he⟩ | ⟨hj, he⟩
    · rw [he] at q; exact absurd q.isOwn (by intro z; cases z)
    · exact r.x.mee j he)⟩, ?_, r.frs, fun g hg => by rw [em]; exact r.gh g hg, r.dom0, r.ms0⟩
  · rcases set_cases h with ⟨_, h⟩ | ⟨hj, h⟩
    · rw [h] at q; exact absurd q.isOwn (by intro z; cases z)
    · obtain ⟨w, x1, x2⟩ := r.x.val j d h
      exact ⟨w, x1, by rw [em]; exact x2⟩
  · rcases set_cases h with ⟨hj, he⟩ | ⟨hj, he⟩
    · subst hj
      subst he
      exact ⟨v, hv, q⟩
    · obtain ⟨w, x1, x2⟩ := r.x.own j sl2 he ho2
      exact ⟨w, x1, x2.keep (fun a ha u hu => by rw [same a fun z => hj (r.x.dis i j a z ha)]; exact hu) (by rw [em]; exact fun _ _ z => z)⟩
  · by_cases hj : i = j
    · subst hj
      exact absurd q.isOwn (by rw [h sl' (by rw [List.getElem?_set_self hl])]; exact Bool.false_ne_true)
    · exact r.x.non j fun sl2 hs => h sl2 (by rw [List.getElem?_set_ne hj]; exact hs)
  · obtain ⟨w, _, ow⟩ := r.x.own i sl hi ho
    refine r.x.ok.st.like (same _ nsa) (fun p o e n => ?_) fun p o e n => ?_
    · by_cases hp : p ∈ O i
      · exact absurd (ow.thereN p hp o e) n
      · rw [same p hp]; exact e
    · by_cases hp : p ∈ O i
      · exact absurd (q.thereN p hp o e) n
      · rw [← same p hp]; exact e
  · by_cases hb2 : b ∈ O i
    · obtain ⟨u, hu⟩ := q.there b hb2
      rw [hu]; exact fun z => by cases z
    · rw [same b hb2]; exact r.x.ok.dom b hb
  · by_cases hb2 : b ∈ O i
    · exact (q.thereN b hb2 _ z).2
    · rw [same b hb2] at z; exact r.x.ok.nt b hb vs z
  · intro b o hb hs ht
    by_cases hb2 : b ∈ O i
    · rw [r.frs i b hb2] at hb; cases hb
    · rw [same b hb2]
      exact r.ext b o hb hs ht
/-! from here on a slot's list is not changed -/
def slD : Sl → D
  | .val d => d
  | .own ds => .lst ds
  | .own2 rows => .lst (rows.map D.lst)
  | .ownd ks ds => .dct ks ds
  | .ownl ks rows => .dct ks (rows.map D.lst)
  | .owne ks ds => .dc2 ks ds
  | .ownm ks rows => .dc2 ks (rows.map D.lst)
  | .no => .non
  | .me => .non
def frz (i : Nat) (env : Ev) : Ev := match env[i]? with
  | some (.own ds) => env.set i (.val (.lst ds))
  | some (.own2 rows) => env.set i (.val (.lst (rows.map D.lst)))
  | some (.ownd ks ds) => env.set i (.val (.dct ks ds))
  | some (.ownl ks rows) => env.set i (.val (.dct ks (rows.map D.lst)))
  | some (.owne ks ds) => env.set i (.val (.dc2 ks ds))
  | some (.ownm ks rows) => env.set i (.val (.dc2 ks (rows.map D.lst)))
  | _ => env
theorem frz_own {i : Nat} {sl : Sl} (h : env[i]? = some sl) (ho : isOwn sl = true) : frz i env = env.set i (.val (slD sl)) := by
  unfold frz
  cases sl with
  | no => cases ho
  | me => cases ho
  | val _ => cases ho
  | own ds => rw [h]; rfl
  | own2 rows => rw [h]; rfl
  | ownd ks ds => rw [h]; rfl
  | ownl ks ds => rw [h]; rfl
  | owne ks ds => rw [h]; rfl
  | ownm ks ds => rw [h]; rfl
theorem frz_not {i : Nat} (h : ∀ sl, env[i]? = some sl → isOwn sl = false) : frz i env = env := by
  unfold frz
  cases e : env[i]? with
  | none => rfl
  | some sl =>
    have := h sl e
    cases sl with
    | no => rfl
    | me => rfl
    | val _ => rfl
    | own ds => cases this
    | own2 rows => cases this
    | ownd ks ds => cases this
    | ownl ks ds => cases this
    | owne ks ds => cases this
    | ownm ks ds => cases this
theorem own_or (i : Nat) (env : Ev) : (∃ sl, env[i]? = some sl ∧ isOwn sl = true) ∨ ∀ sl, env[i]? = some sl → isOwn sl = false := by
  cases e : env[i]? with
  | none => exact .inr fun sl h => by cases h
  | some sl =>
    cases ho : isOwn sl with
    | true => exact .inl ⟨sl, rfl, ho⟩
    | false => exact .inr fun sl' h => by cases h; exact ho
theorem LstAt.rep {M N : Addr → Prop} {p : Addr} {ds : List D} (l : LstAt Γ M H p ds) (np : ¬ N p) (h : ∀ q, N q → M q) : Rep Γ (msk N H) (.ref p) (.lst ds) := by
  obtain ⟨vs, a, b, c⟩ := l
  exact .lst (msk_iff.mpr ⟨np, a⟩) b (c.mono (msk_less h))
theorem OwnS.rep {M N : Addr → Prop} {v : V} {as : List Addr} {sl : Sl} (o : OwnS Γ M H v as sl) (na : ∀ a ∈ as, ¬ N a) (h : ∀ q, N q → M q) : Rep Γ (msk N H) v (slD sl) := by
  cases sl with
  | no => exact o.elim
  | me => exact o.elim
  | val _ => exact o.elim
  | own ds =>
    obtain ⟨a, rfl, rfl, l⟩ := o
    exact l.rep (na a List.mem_cons_self) h
  | own2 rows =>
    obtain ⟨a, bs, rfl, rfl, e3, e4, e5⟩ := o
    refine .lst (msk_iff.mpr ⟨na a List.mem_cons_self, e3⟩) (by rw [List.length_map]; exact e4) ?_
    have nb : ∀ b ∈ bs, ¬ N b := fun b hb => na b (List.mem_cons_of_mem _ hb)
    clear na e3 e4
    induction e5 with
    | nil => exact .nil
    | cons l _ ih => exact .cons (l.rep (nb _ List.mem_cons_self) h) (ih fun b hb => nb b (List.mem_cons_of_mem _ hb))
  | ownd ks ds =>
    obtain ⟨a, rfl, rfl, vs, d1, d2, d3, d4⟩ := o
    exact .dct (msk_iff.mpr ⟨na a List.mem_cons_self, d1⟩) d2 d3 (d4.mono (msk_less h))
  | ownl ks rows =>
    obtain ⟨a, bs, rfl, rfl, e3, e4, e5, e6⟩ := o
    refine .dct (msk_iff.mpr ⟨na a List.mem_cons_self, e3⟩) (by rw [List.length_map]; exact e4) (by rw [List.length_map]; exact e5) ?_
    have nb : ∀ b ∈ bs, ¬ N b := fun b hb => na b (List.mem_cons_of_mem _ hb)
    clear na e3 e4 e5
    induction e6 with
    | nil => exact .nil
    | cons l _ ih => exact .cons (l.rep (nb _ List.mem_cons_self) h) (ih fun b hb => nb b (List.mem_cons_of_mem _ hb))
  | owne ks ds =>
    obtain ⟨a, rfl, rfl, vs, d1, d2, d3, d4⟩ := o
    exact .dc2 (msk_iff.mpr ⟨na a List.mem_cons_self, d1⟩) d2 d3 (d4.mono (msk_less h))
  | ownm ks rows =>
    obtain ⟨a, bs, rfl, rfl, e3, e4, e5, e6⟩ := o
    refine .dc2 (msk_iff.mpr ⟨na a List.mem_cons_self, e3⟩) (by rw [List.length_map]; exact e4) (by rw [List.length_map]; exact e5) ?_
    have nb : ∀ b ∈ bs, ¬ N b := fun b hb => na b (List.mem_cons_of_mem _ hb)
    clear na e3 e4 e5
    induction e6 with
    | nil => exact .nil
    | cons l _ ih => exact .cons (l.rep (nb _ List.mem_cons_self) h) (ih fun b hb => nb b (List.mem_cons_of_mem _ hb))
theorem RepX.frz {M : Addr → Prop} (x : RepX Γ M O σ env H s) {i : Nat} {sl : Sl} (hi : env[i]? = some sl) (ho : isOwn sl = true) : RepX Γ (fun b => M b ∧ b ∉ O i) (O.clr [i]) σ (env.set i (.val (slD sl))) H s := by
  obtain ⟨v, hv, o⟩ := x.own i sl hi ho
  have less : ∀ p, (M p ∧ p ∉ O i) → M p := fun p h => h.1
  refine ⟨fun j d h => ?_, fun j sl2 h ho2 => ?_, fun j h => ?_, fun j a h => ?_, fun j => ?_, fun j k a h1 h2 => x.dis j k a (Ow.mem_clr h1).1 (Ow.mem_clr h2).1, ⟨x.ok.st, ⟨x.ok.ms, fun z => (x.inM i _ z).2 rfl⟩, fun p hp => x.ok.dom p hp.1, fun t m => ⟨x.ok.mt t m, x.notab m⟩, fun p hp => x.ok.nt p hp.1⟩, (by rw [List.length_set]; exact x.len), fun j h => (by
    rcases set_cases h with ⟨_, he⟩ | ⟨hj, he⟩
    · cases he
    · exact x.mee j he)⟩
  · rcases set_cases h with ⟨hj, he⟩ | ⟨hj, he⟩
    · subst hj
      cases he
      exact ⟨v, hv, o.rep (fun a ha z => z.2 ha) less⟩
    · obtain ⟨w, x1, x2⟩ := x.val j d he
      exact ⟨w, x1, x2.mono (msk_less less)⟩
  · rcases set_cases h with ⟨_, he⟩ | ⟨hj, he⟩
    · rw [← he] at ho2; cases ho2
    · obtain ⟨w, x1, x2⟩ := x.own j sl2 he ho2
      rw [Ow.clr_of (fun z => hj (List.mem_singleton.mp z).symm)]
      exact ⟨w, x1, x2.keep (fun _ _ _ z => z) (msk_less less)⟩
  · unfold Ow.clr
    split
    · rfl
    · rename_i hj
      exact x.non j fun sl2 hs => h sl2 (by rw [List.getElem?_set_ne (fun e => hj (List.mem_singleton.mpr e.symm))]; exact hs)
  · obtain ⟨h1, h2⟩ := Ow.mem_clr h
    exact ⟨⟨(x.inM j a h1).1, fun z => h2 (List.mem_singleton.mpr (x.dis j i a h1 z))⟩, (x.inM j a h1).2⟩
  · unfold Ow.clr
    split
    · exact List.nodup_nil
    · exact x.nod j
theorem RepS.frz (r : RepS Γ H0 M0 Gs O σ env H s) (i : Nat) : ∃ O', RepS Γ H0 M0 Gs O' σ (frz i env) H s := by
  rcases own_or i env with ⟨sl, hi, ho⟩ | h
  · rw [frz_own hi ho]
    have na0 : ∀ a, a ∈ O i → ¬ M0 a := fun a ha z => r.dom0 a z (r.frs i a ha)
    have subM : ∀ b, Mof M0 (O.clr [i]) b → (Mof M0 O b ∧ b ∉ O i) := fun b h => by
      rcases h with h | ⟨j, h⟩
      · exact ⟨.inl h, fun z => na0 b z h⟩
      · obtain ⟨h1, h2⟩ := Ow.mem_clr h
        exact ⟨.inr ⟨j, h1⟩, fun z => h2 (List.mem_singleton.mpr (r.x.dis j i b h1 z))⟩
    exact ⟨O.clr [i], (r.x.frz hi ho).less subM (r.ms0.mm.or fun _ => .inl) (fun j a h => .inr ⟨j, h⟩), r.ext, fun j a h => r.frs j a (Ow.mem_clr h).1, fun p hp => (r.gh p hp).mono (msk_less fun b h => (subM b h).1), r.dom0, r.ms0⟩
  · rw [frz_not h]
    exact ⟨O, r⟩
theorem ds_frz {t : TS} {f : Ev → Mo Fl} (i : Nat) (a : DS Γ E t f) : DS Γ E t (fun env => f (frz i env)) := fun H0 M0 Gs O σ env H s N r q => by
  obtain ⟨O', r'⟩ := r.frz i
  exact a H0 M0 Gs O' σ _ H s N r' q
/-- an own list read for a flat value -/
def flatM (d : D) : Mo D := if flat d then ret d else bad
theorem flat_any {H H' : Hp} {v : V} {d : D} (r : Rep Γ H v d) (f : flat d = true) : Rep Γ H' v d := by
  cases r with
  | non => exact .non
  | bl b => exact .bl b
  | int i => exact .int i
  | str x => exact .str x
  | lst _ _ _ => cases f
  | tup _ _ _ => cases f
  | obj _ _ _ => cases f
  | dct _ _ _ _ => cases f
  | rng _ => cases f
  | dc2 _ _ _ _ => cases f
  | clo _ _ _ _ _ _ _ => cases f
  | st => cases f
theorem de_frz {t : TE} {f : Ev → Mo D} (i : Nat) (h : DE Γ E t f) : DE Γ E t (fun env => bnd (nox (f (frz i env))) flatM) := fun M O σ env H s x Q q => by
  have q : PostR Γ E M (RD Γ M) H (bnd (nox (f (frz i env))) flatM s) Q := q
  rcases own_or i env with ⟨sl, hi, ho⟩ | hn
  · rw [frz_own hi ho] at q
    refine h _ _ σ _ H s (x.frz hi ho) _ (nox_post q fun d s1 v H1 e1 t1 r1 h1 => ?_)
    unfold flatM at h1
    split at h1
    · rename_i hf
      exact (h1.later e1).here t1 (flat_any r1 hf)
    · exact h1.elim
  · rw [frz_not hn] at q
    refine h M O σ env H s x _ (nox_post q fun a s1 v H1 e1 t1 r1 h1 => ?_)
    unfold flatM at h1
    split at h1
    · exact (h1.later e1).here t1 r1
    · exact h1.elim
theorem dt_frz {t : TT} {f : Ev → Mo Bool} (i : Nat) (h : DT Γ E t f) : DT Γ E t (fun env => nox (f (frz i env))) := fun M O σ env H s x Q q => by
  have q' : PostR Γ E M RB H (bnd (nox (f (frz i env))) ret s) Q := by rw [bnd_eta]; exact q
  rcases own_or i env with ⟨sl, hi, ho⟩ | hn
  · rw [frz_own hi ho] at q'
    exact h _ _ σ _ H s (x.frz hi ho) _ (nox_post q' fun d s1 v H1 e1 t1 r1 h1 => (h1.later e1).here t1 r1)
  · rw [frz_not hn] at q'
    exact h M O σ env H s x _ (nox_post q' fun a s1 v H1 e1 t1 r1 h1 => (h1.later e1).here t1 r1)
def ownD (i : Nat) (env : Ev) : Mo (List D) := match env[i]? with
  | some (.own ds) => ret ds
  | _ => bad
theorem ownD_cases (i : Nat) (env : Ev) : (∃ ds, env[i]? = some (Sl.own ds) ∧ ownD i env = ret ds) ∨ ownD i env = bad := by
  unfold ownD
  cases hi : env[i]? with
  | none => exact .inr rfl
  | some sl =>
    cases sl with
    | own ds => exact .inl ⟨ds, rfl, rfl⟩
    | _ => exact .inr rfl
def own2D (i : Nat) (env : Ev) : Mo (List (List D)) := match env[i]? with
  | some (.own2 ds) => ret ds
  | _ => bad
theorem own2D_cases (i : Nat) (env : Ev) : (∃ ds, env[i]? = some (Sl.own2 ds) ∧ own2D i env = ret ds) ∨ own2D i env = bad := by
  unfold own2D
  cases hi : env[i]? with
  | none => exact .inr rfl
  | some sl =>
    cases sl with
    | own2 ds => exact .inl ⟨ds, rfl, rfl⟩
    | _ => exact .inr rfl
theorem RepX.own1 {M : Addr → Prop} (x : RepX Γ M O σ env H s) {i : Nat} {ds : List D} (hi : env[i]? = some (Sl.own ds)) : ∃ a vs, σ[i]? = some (some (V.ref a)) ∧ O i = [a] ∧ M a ∧ a ≠ Γ.sa ∧ H a = some (.lst vs) ∧ vs.length ≤ sizeLine ∧ Reps Γ (msk M H) vs ds := by
  obtain ⟨v, hv, a, e1, e2, vs, h1, h2, h3⟩ := x.own i _ hi rfl
  subst e1
  obtain ⟨m1, m2⟩ := x.inM i a (by rw [e2]; exact List.mem_cons_self)
  exact ⟨a, vs, hv, e2, m1, m2, h1, h2, h3⟩
theorem RepS.mut1 (r : RepS Γ H0 M0 Gs O σ env H s) {i : Nat} {a : Addr} {ds es : List D} {vs : List V} (hi : env[i]? = some (Sl.own ds)) (ha : σ[i]? = some (some (V.ref a))) (hO : O i = [a]) (l : vs.length ≤ sizeLine) (q : Reps Γ (msk (Mof M0 O) H) vs es) :
    RepS Γ H0 M0 Gs O σ (env.set i (.own es)) (upd H a (.lst vs)) s := by
  have mA : Mof M0 O a := .inr ⟨i, by rw [hO]; exact List.mem_cons_self⟩
  refine r.mut (v := .ref a) hi rfl ha (fun p hp => upd_ne (fun z => hp (by rw [hO, z]; exact List.mem_cons_self))) ⟨a, rfl, hO, vs, upd_same, l, ?_⟩
  rw [msk_upd mA]
  exact q
/-- xs.append(e), xs an own slot -/
def appendS (i : Nat) (f : Ev → Mo D) : Ev → Mo Fl := fun env => bnd (ownD i env) fun ds => bnd (f env) fun d => if ds.length ≤ cap then ret (.nx (env.set i (.own (ds ++ [d])))) else bad
theorem cap_lt {n : Nat} (h : n ≤ cap) : n < sizeLine := by rw [sizeLine_eq]; unfold cap at h; omega
theorem ds_append {te : TE} {i : Nat} {f : Ev → Mo D} (a : DE Γ E te f) : DS Γ E (tDrop (tBM Γ.K "list" rAppend (tVar i) (tCons te tNil))) (appendS i f) := fun H0 M0 Gs O σ env H s N r q => by
  unfold appendS at q
  rcases ownD_cases i env with ⟨ds, hi, ho⟩ | ho
  · rw [ho, bnd_ret] at q
    obtain ⟨a', vs, k1, kO, k2, k3, k4, k5, k6⟩ := r.x.own1 hi
    refine ⟨.ref a', k1, .inl ⟨rfl, vs, .of k4⟩, ?_⟩
    refine a _ O σ env H s r.x _ (PostS.bnd r q fun d s1 v H1 e1 t1 r1 h1 => ?_)
    split at h1
    · rename_i hc
      have hv : vs.length ≤ cap := by rw [k6.length]; exact hc
      refine ⟨a', vs, v, rfl, rfl, e1 _ _ k4 k3 nofun, cap_lt hv, ?_⟩
      have r2 := r.later e1 t1
      refine h1 _ σ _ (r2.mut1 hi k1 kO ?_ ((r.x.ok.reps e1 k6).append (.cons r1 .nil)))
      rw [List.length_append, List.length_singleton]
      exact cap_lt hv
    · exact h1.elim
  · rw [ho] at q; exact q.elim
/-- xs[j] = e, xs an own slot -/
def setIxS (i : Nat) (f g : Ev → Mo D) : Ev → Mo Fl := fun env => bnd (f env) fun d => bnd (ownD i env) fun ds => bnd (g env) fun j => bnd (asInt j) fun k => bnd (optM (ixN ds.length k)) fun n => ret (.nx (env.set i (.own (ds.set n d))))
theorem ds_setIx {te tj : TE} {i : Nat} {f g : Ev → Mo D} (a : DE Γ E te f) (b : DE Γ E tj g) : DS Γ E (tAsg te (gSub (tVar i) tj rSetL)) (setIxS i f g) := fun H0 M0 Gs O σ env H s N r q => by
  refine a _ O σ env H s r.x _ (PostS.bnd r q fun d s1 v H1 e1 t1 r1 h1 => ?_)
  have r2 := r.later e1 t1
  rcases ownD_cases i env with ⟨ds, hi, ho⟩ | ho
  · rw [ho, bnd_ret] at h1
    obtain ⟨a', vs, k1, kO, k2, k3, k4, k5, k6⟩ := r2.x.own1 hi
    refine ⟨.ref a', k1, ?_⟩
    refine b _ O σ env H1 s1 r2.x _ (PostS.bnd r2 h1 fun dj s2 w H2 e2 t2 rj h2 => ?_)
    cases rj with
    | int k =>
      rw [show asInt (.int k) = ret k from rfl, bnd_ret] at h2
      obtain ⟨n, hn, h2⟩ := PostS.opt h2
      have r3 := r2.later e2 t2
      refine ⟨a', vs, k, n, rfl, rfl, e2 _ _ k4 k3 nofun, by rw [k6.length]; exact hn, ?_⟩
      exact h2 _ σ _ (r3.mut1 hi k1 kO (by rw [List.length_set]; exact k5) ((r2.x.ok.reps e2 k6).set (r2.x.ok.rep e2 r1) n))
    | _ => exact h2.elim
  · rw [ho] at h1; exact h1.elim
/-- xs.append(ys.pop(e)), xs and ys own slots -/
def appPopS (i j : Nat) (f : Ev → Mo D) : Ev → Mo Fl := fun env => bnd (ownD i env) fun ds => bnd (ownD j env) fun es => bnd (f env) fun d => bnd (asInt d) fun k =>
  if i ≠ j ∧ 0 ≤ k ∧ k < (es.length : Int) ∧ ds.length ≤ cap then bnd (optM es[k.toNat]?) fun y => ret (.nx ((env.set j (.own (es.eraseIdx k.toNat))).set i (.own (ds ++ [y])))) else bad
theorem ds_appPop {te : TE} {i j : Nat} {f : Ev → Mo D} (a : DE Γ E te f) : DS Γ E (tDrop (tBM Γ.K "list" rAppend (tVar i) (tCons (tBM Γ.K "list" rPopAt (tVar j) (tCons te tNil)) tNil))) (appPopS i j f) := fun H0 M0 Gs O σ env H s N r q => by
  unfold appPopS at q
  rcases ownD_cases i env with ⟨ds, hi, ho⟩ | ho
  · rw [ho, bnd_ret] at q
    rcases ownD_cases j env with ⟨es, hj, ho2⟩ | ho2
    · rw [ho2, bnd_ret] at q
      obtain ⟨a', vs, k1, kO, k2, k3, k4, k5, k6⟩ := r.x.own1 hi
      obtain ⟨b', ws, l1, lO, l2, l3, l4, l5, l6⟩ := r.x.own1 hj
      refine ⟨.ref a', k1, .inl ⟨rfl, vs, .of k4⟩, .ref b', l1, .inl ⟨rfl, ws, .of l4⟩, ?_⟩
      refine a _ O σ env H s r.x _ (PostS.bnd r q fun d s1 v H1 e1 t1 r1 h1 => ?_)
      cases r1 with
      | int k =>
        rw [show asInt (.int k) = ret k from rfl, bnd_ret] at h1
        split at h1
        · rename_i hc
          obtain ⟨hij, h0, hk, hc⟩ := hc
          obtain ⟨y, hy, h1⟩ := PostS.opt h1
          have r2 := r.later e1 t1
          have l6' := r.x.ok.reps e1 l6
          obtain ⟨yv, hyv, ry⟩ := l6'.get hy
          have hlen : ws.length = es.length := l6.length
          have hw : ws.length ≤ sizeLine := l5
          have hsl := sizeLine_eq
          refine ⟨b', ws, k, k.toNat, yv, rfl, rfl, e1 _ _ l4 l3 nofun, by omega, by omega, seqIndex_of h0 (by omega), hyv, ?_⟩
          have r3 := r2.mut1 (vs := ws.eraseIdx k.toNat) hj l1 lO (Nat.le_trans (List.length_eraseIdx_le _ _) l5) (l6'.eraseIdx k.toNat)
          have hi3 : (env.set j (.own (es.eraseIdx k.toNat)))[i]? = some (Sl.own ds) := by rw [List.getElem?_set_ne (Ne.symm hij)]; exact hi
          obtain ⟨a2, vs2, m1, mO, m2, m3, m4, m5, m6⟩ := r3.x.own1 hi3
          have ea : a2 = a' := by
            rw [k1] at m1
            cases m1
            rfl
          subst ea
          have hv : vs2.length ≤ cap := by rw [m6.length]; exact hc
          refine ⟨a2, vs2, yv, rfl, rfl, m4, cap_lt hv, ?_⟩
          refine h1 _ σ _ (r3.mut1 hi3 k1 mO ?_ (m6.append (.cons ?_ .nil)))
          · rw [List.length_append, List.length_singleton]
            exact cap_lt hv
          · have mj : Mof M0 O b' := .inr ⟨j, by rw [lO]; exact List.mem_cons_self⟩
            rw [msk_upd mj]
            exact ry
        · exact h1.elim
      | _ => exact h1.elim
    · rw [ho2] at q; exact q.elim
  · rw [ho] at q; exact q.elim
/-- list(xs), tuple(xs) of an own slot -/
theorem df_listOwn (i : Nat) : DF Γ E (tCB (fun xs H Q => ∃ p ys, xs = [.ref p] ∧ (SqL Γ.K H p ys ∨ SqT Γ.K H p ys) ∧ ∀ l, H l = none → Q (.ref l) (upd H l (.lst ys))) (tCons (tVar i) tNil)) (ownD i) := fun M O σ env H s x Q h => by
  rcases ownD_cases i env with ⟨ds, hi, ho⟩ | ho
  · rw [ho] at h
    obtain ⟨a', vs, k1, kO, k2, k3, k4, k5, k6⟩ := x.own1 hi
    exact ⟨.ref a', k1, a', vs, rfl, .inl (.of k4), fun p np => h _ _ (Ext.new np) (x.ok.newSt np) ⟨p, vs, rfl, np, upd_same, k5, k6.mono (new_mask np)⟩⟩
  · rw [ho] at h; exact h.elim
theorem de_tupleOwn (i : Nat) : DE Γ E (tCB (fun xs H Q => ∃ p ys, xs = [.ref p] ∧ ((SqL Γ.K H p ys ∧ ∀ l, H l = none → Q (.ref l) (upd H l (.tup ys))) ∨ (SqT Γ.K H p ys ∧ Q (.ref p) H))) (tCons (tVar i) tNil)) (fun env => bnd (ownD i env) fun ds => ret (.tup ds)) := fun M O σ env H s x Q h => by
  have h : PostR Γ E M (RD Γ M) H (bnd (ownD i env) (fun ds => ret (.tup ds)) s) Q := h
  rcases ownD_cases i env with ⟨ds, hi, ho⟩ | ho
  · rw [ho] at h
    obtain ⟨a', vs, k1, kO, k2, k3, k4, k5, k6⟩ := x.own1 hi
    exact ⟨.ref a', k1, a', vs, rfl, .inl ⟨.of k4, fun p np => h _ _ (Ext.new np) (x.ok.newSt np) (x.ok.tupNew np k5 k6)⟩⟩
  · rw [ho] at h; exact h.elim

/-! ### lists of lists that a def changes -/
/-- a new list of new lists -/
def RF2 (Γ : Gx) (M : Addr → Prop) (Hs : Hp) : V → Hp → List (List D) → Prop := fun v H rows => ∃ as : List Addr, as.Nodup ∧ (∀ a ∈ as, Hs a = none) ∧ OwnS Γ (fun a => M a ∨ a ∈ as) H v as (.own2 rows)
def DF2 (Γ : Gx) (E : XK) (t : TE) (f : Ev → Mo (List (List D))) : Prop := ∀ M O σ env H s, RepX Γ M O σ env H s → ∀ Q, PostR Γ E M (RF2 Γ M H) H (f env s) Q → t σ H Q
def setOwn2S (i : Nat) (f : Ev → Mo (List (List D))) : Ev → Mo Fl := fun env => if i < env.length then bnd (f env) fun ds => ret (.nx (env.set i (.own2 ds))) else bad
theorem ds_setOwn2 {t : TE} {i : Nat} {f : Ev → Mo (List (List D))} (a : DF2 Γ E t f) : DS Γ E (tAsg t (gName i)) (setOwn2S i f) := fun H0 M0 Gs O σ env H s N r q => by
  unfold setOwn2S at q
  split at q
  · rename_i hi
    refine a _ O σ env H s r.x _ (PostS.bnd r q fun ds s1 v H1 e1 t1 r1 h1 => ?_)
    obtain ⟨as, nd, np, o⟩ := r1
    exact h1 _ _ H1 (r.ownNew e1 t1 hi nd np o)
  · exact q.elim
theorem Paired.get {α β : Type} {F : α → β → Prop} : ∀ {l₁ : List α} {l₂ : List β} {n : Nat} {y : β}, Paired F l₁ l₂ → l₂[n]? = some y → ∃ x, l₁[n]? = some x ∧ F x y
  | _, _, _, _, .nil, e => by simp at e
  | _, _, 0, _, .cons a _, e => by simp at e; subst e; exact ⟨_, rfl, a⟩
  | _, _, n + 1, y, .cons _ b, e => by
    obtain ⟨x, h1, h2⟩ := Paired.get (n := n) b (by simpa using e)
    exact ⟨x, by simpa using h1, h2⟩
theorem Paired.setR {α β : Type} {F : α → β → Prop} {x : α} {y : β} (r : F x y) : ∀ {l₁ : List α} {l₂ : List β} (n : Nat), Paired F l₁ l₂ → l₁[n]? = some x → Paired F l₁ (l₂.set n y)
  | _, _, _, .nil, e => by simp at e
  | _, _, 0, .cons _ t, e => by simp at e; subst e; exact .cons r t
  | _, _, n + 1, .cons q t, e => .cons q (Paired.setR r n t (by simpa using e))
theorem Paired.len {α β : Type} {F : α → β → Prop} : ∀ {l₁ : List α} {l₂ : List β}, Paired F l₁ l₂ → l₁.length = l₂.length
  | _, _, .nil => rfl
  | _, _, .cons _ t => by rw [List.length_cons, List.length_cons, Paired.len t]
theorem Paired.upd {α β : Type} {F G : α → β → Prop} {x : α} {y : β} (h : ∀ a b, a ≠ x → F a b → G a b) (hy : G x y) : ∀ {l₁ : List α} {l₂ : List β} (n : Nat), Paired F l₁ l₂ → l₁[n]? = some x → l₁.Nodup → Paired G l₁ (l₂.set n y)
  | _, _, _, .nil, e, _ => by simp at e
  | _, _, 0, .cons (a := a) q t, e, nd => by
    simp at e
    subst e
    rw [List.nodup_cons] at nd
    exact .cons hy (Paired.imp t fun a b ha q => h a b (fun z => nd.1 (z ▸ ha)) q)
  | _, _, n + 1, .cons (a := a) q t, e, nd => by
    rw [List.nodup_cons] at nd
    have e' := e
    rw [List.getElem?_cons_succ] at e'
    exact .cons (h _ _ (fun z => nd.1 (z ▸ List.mem_of_getElem? e')) q) (Paired.upd h hy n t e' nd.2)
/-- xs[i][j] = e -/
def setIx2S (i : Nat) (f g h : Ev → Mo D) : Ev → Mo Fl := fun env => bnd (f env) fun d => bnd (own2D i env) fun rows => bnd (g env) fun a => bnd (asInt a) fun k => bnd (optM (ixN rows.length k)) fun n => bnd (optM rows[n]?) fun row =>
  bnd (h env) fun b => bnd (asInt b) fun l => bnd (optM (ixN row.length l)) fun m => ret (.nx (env.set i (.own2 (rows.set n (row.set m d)))))
theorem atI_map {α β : Type} {xs : List α} {k : Int} {n : Nat} {x : α} (f : α → β) (h : ixN xs.length k = some n) (hx : xs[n]? = some x) : atI (xs.map f) k = some (f x) := by
  unfold atI
  rw [List.length_map, h]
  show (xs.map f)[n]? = _
  rw [List.getElem?_map, hx]
  rfl
theorem ds_setIx2 {te ti tj : TE} {i : Nat} {f g h : Ev → Mo D} (a : DE Γ E te f) (b : DE Γ E ti g) (c : DE Γ E tj h) : DS Γ E (tAsg te (gSub (tOp (rIx Γ.K) (tVar i) ti) tj rSetL)) (setIx2S i f g h) := fun H0 M0 Gs O σ env H s N r q => by
  refine a _ O σ env H s r.x _ (PostS.bnd r q fun d s1 v H1 e1 t1 r1 h1 => ?_)
  have r2 := r.later e1 t1
  rcases own2D_cases i env with ⟨rows, hi, ho⟩ | ho
  · rw [ho, bnd_ret] at h1
    obtain ⟨sv, hsv, o⟩ := r2.x.own i _ hi rfl
    refine ⟨sv, hsv, ?_⟩
    refine b _ O σ env H1 s1 r2.x _ (PostS.bnd r2 h1 fun di s2 w H2 e2 t2 ri h2 => ?_)
    have r3 := r2.later e2 t2
    cases ri with
    | int k =>
      rw [show asInt (.int k) = ret k from rfl, bnd_ret] at h2
      obtain ⟨n, hn, h2⟩ := PostS.opt h2
      obtain ⟨row, hrow, h2⟩ := PostS.opt h2
      obtain ⟨sv', hsv', o2⟩ := r3.x.own i _ hi rfl
      rw [hsv] at hsv'
      cases hsv'
      obtain ⟨p, bs, rfl, eO, hp, lp, pr⟩ := o2
      obtain ⟨bb, hbb, lst⟩ := Paired.get pr hrow
      have hlen := Paired.len pr
      refine .inl ⟨p, _, k, _, rfl, rfl, .of hp, atI_map (x := bb) V.ref (by rw [hlen]; exact hn) hbb, ?_⟩
      refine c _ O σ env H2 s2 r3.x _ (PostS.bnd r3 h2 fun dj s4 w4 H4 e4 t4 rj h4 => ?_)
      have r4 := r3.later e4 t4
      cases rj with
      | int l =>
        rw [show asInt (.int l) = ret l from rfl, bnd_ret] at h4
        obtain ⟨m, hm, h4⟩ := PostS.opt h4
        obtain ⟨sv4, hsv4, o4⟩ := r4.x.own i _ hi rfl
        rw [hsv] at hsv4
        cases hsv4
        obtain ⟨p4, bs4, ep4, eO4, hp4, lp4, pr4⟩ := o4
        cases ep4
        rw [eO] at eO4
        cases eO4
        obtain ⟨bb4, hbb4, vs, hv, lv, rv⟩ := Paired.get pr4 hrow
        rw [hbb] at hbb4
        cases hbb4
        have hbm : bb ∈ O i := by rw [eO]; exact List.mem_cons_of_mem _ (List.mem_of_getElem? hbb)
        have hMb : Mof M0 O bb := .inr ⟨i, hbm⟩
        have nd := r4.x.nod i
        rw [eO, List.nodup_cons] at nd
        have hpb : p ≠ bb := fun z => nd.1 (by rw [z]; exact List.mem_of_getElem? hbb)
        refine ⟨bb, vs, l, m, rfl, rfl, hv, by rw [rv.length]; exact hm, ?_⟩
        refine h4 _ σ _ (r4.mut (v := .ref p) hi rfl hsv (fun q hq => upd_ne (fun z => hq (by rw [z]; exact hbm))) ⟨p, bs, rfl, eO, ?_, lp4, ?_⟩)
        · rw [upd_ne hpb]; exact hp4
        · have em : msk (Mof M0 O) (upd H4 bb (.lst (vs.set m v))) = msk (Mof M0 O) H4 := msk_upd hMb
          refine Paired.upd (x := bb) (fun a b ha q => ?_) ?_ n pr4 hbb nd.2
          · obtain ⟨us, u1, u2, u3⟩ := q
            exact ⟨us, by rw [upd_ne ha]; exact u1, u2, by rw [em]; exact u3⟩
          · refine ⟨_, upd_same, by rw [List.length_set]; exact lv, ?_⟩
            rw [em]
            exact rv.set ((r3.x.ok.rep e4 (r2.x.ok.rep e2 r1))) m
      | _ => exact h4.elim
    | _ => exact h2.elim
  · rw [ho] at h1; exact h1.elim
/-- a new object is hidden from then on -/
theorem RepX.grow {M : Addr → Prop} (x : RepX Γ M O σ env H s) (e : Ext Γ.sa H H') (t : StOk Γ H' s') {p : Addr} (np : H p = none) (hp : H' p ≠ none) (hw : ∀ o, H' p = some o → Pl o := by (intro o z; rw [upd_same] at z; cases z; exact ⟨nofun, nofun, fun _ _ z => HO.noConfusion z⟩)) : RepX Γ (fun a => M a ∨ a = p) O σ env H' s' := by
  have up : ∀ b o, msk M H b = some o → msk (fun a => M a ∨ a = p) H' b = some o :=
    msk_more (fun b h n => by
      rcases h with h | h
      · exact absurd h n
      · rw [h]; exact np) fun b o h => by
      obtain ⟨a, c⟩ := msk_iff.mp h
      exact e b o c (fun z => a (by rw [z]; exact x.ok.ms)) (x.ok.ntm a c)
  refine ⟨fun i d h => ?_, fun i sl h ho => ?_, x.non, fun i a h => ⟨.inl (x.inM i a h).1, (x.inM i a h).2⟩, x.nod, x.dis, ⟨t, .inl x.ok.ms, fun b hb => ?_, fun t m => .inl (x.ok.mt t m), fun b hb vs z => ?_⟩, x.len, x.mee⟩
  · obtain ⟨v, a, b⟩ := x.val i d h
    exact ⟨v, a, b.mono up⟩
  · obtain ⟨v, a, b⟩ := x.own i sl h ho
    exact ⟨v, a, b.keep (fun q hq u hu => e q u hu (x.inM i q hq).2 (b.thereN q hq u hu).1) up⟩
  · rcases hb with hb | hb
    · exact (x.ok.ext e t).dom b hb
    · rw [hb]; exact hp
  · rcases hb with hb | hb
    · exact (x.ok.ext e t).nt b hb vs z
    · exact (hw _ (hb ▸ z)).2
/-- a hidden list that no slot owns changes -/
theorem RepX.hid {M : Addr → Prop} (x : RepX Γ M O σ env H s) {p : Addr} (mp : M p) (np : p ≠ Γ.sa) (no : ∀ i, p ∉ O i) (o : HO) {u : HO} (hu : H p = some u) (w : Pl u := by exact ⟨nofun, nofun, fun _ _ z => HO.noConfusion z⟩) (w' : Pl o := by exact ⟨nofun, nofun, fun _ _ z => HO.noConfusion z⟩) : RepX Γ M O σ env (upd H p o) s := by
  have em : msk M (upd H p o) = msk M H := msk_upd mp
  refine ⟨fun i d h => ?_, fun i sl h ho => ?_, x.non, x.inM, x.nod, x.dis, x.ok.setM hu np w w', x.len, x.mee⟩
  · obtain ⟨v, a, b⟩ := x.val i d h
    exact ⟨v, a, by rw [em]; exact b⟩
  · obtain ⟨v, a, b⟩ := x.own i sl h ho
    exact ⟨v, a, b.keep (fun q hq u hu => by rw [upd_ne (fun z => no i (by rw [← z]; exact hq))]; exact hu) (by rw [em]; exact fun _ _ z => z)⟩
def lcD2 (h : D → Option (List D)) (js : List Nat) (fe : Ev → Mo (List D)) (env : Ev) : List D → Mo (List (List D))
  | [] => ret []
  | d :: r => bnd (optM (h d)) fun ds => bnd (nox (fe (setsE js ds env))) fun y => bnd (lcD2 h js fe env r) fun ys => ret (y :: ys)
def compD2 (fi : Ev → Mo (List D)) (h : D → Option (List D)) (js : List Nat) (fe : Ev → Mo (List D)) (vs : List Nat) : Ev → Mo (List (List D)) := fun env => bnd (fi env) fun ds => lcD2 h js fe (wipeE env vs) ds
/-- [[..] for x in ..]: each turn makes a new list -/
theorem df_lc2 {E' : XK} {wi : TI} {g : TG} {te : TE} {vs : List Nat} {fi : Ev → Mo (List D)} {h : D → Option (List D)} {js : List Nat} {fe : Ev → Mo (List D)}
    (hi : DI Γ E wi fi) (hg : DG Γ g h js) (he : DF Γ E' te fe) (hv : ∀ j ∈ js, j ∈ vs) : DF2 Γ E (tLc wi g tYes te vs) (compD2 fi h js fe vs) := fun M O σ env H s x Q q => by
  unfold compD2 at q
  refine hi M O σ env H s x _ (PostR.bnd q fun ds s1 J H1 e1 t1 r1 h1 => ?_)
  obtain ⟨gv, gd, rg, hz, it⟩ := r1
  intro L nL
  have x1 := x.ext e1 t1
  have nM : ¬ M L := x1.ok.fresh nL
  have nS : L ≠ Γ.sa := fun z => nM (by rw [z]; exact x1.ok.ms)
  have back : ∀ {p : Addr}, H1 p = none → H p = none := fun {p} np => x.ok.st.back t1 e1 np
  have xw := x1.wipe vs
  have x0 : RepX Γ (fun a => M a ∨ a ∈ [L]) (O.clr vs) (wipe σ vs) (wipeE env vs) (upd H1 L (.lst [])) s1 := by
    have : (fun a => M a ∨ a ∈ [L]) = fun a => M a ∨ a = L := by
      funext b
      rw [show (b ∈ [L]) = (b = L) from propext List.mem_singleton]
    rw [this]
    exact xw.grow (Ext.new nL) (x1.ok.newSt nL) nL (by rw [upd_same]; exact fun z => by cases z)
  have ownL : ∀ i a, a ∈ (O.clr vs) i → H1 a ≠ none := fun i a ha => xw.ok.dom a (xw.inM i a ha).1
  refine ⟨fun i m H2 => m = ds.length - i ∧ i ≤ ds.length ∧ ∃ bs accd s2, RepX Γ (fun a => M a ∨ a ∈ L :: bs) (O.clr vs) (wipe σ vs) (wipeE env vs) H2 s2 ∧ Ext Γ.sa H1 H2 ∧ H2 L = some (.lst (bs.map V.ref)) ∧ bs.length ≤ i ∧ (L :: bs).Nodup ∧ (∀ b ∈ bs, H1 b = none) ∧
    Paired (LstAt Γ (fun a => M a ∨ a ∈ L :: bs) H2) bs accd ∧ Rep Γ (msk (fun a => M a ∨ a ∈ L :: bs) H2) gv gd ∧ PostR Γ E M (RF2 Γ M H) H1 (bnd (lcD2 h js fe (wipeE env vs) (ds.drop i)) (fun ys => ret (accd ++ ys)) s2) Q, ⟨ds.length, ?_⟩, ?_⟩
  · refine ⟨by omega, Nat.zero_le _, [], [], s1, x0, Ext.new nL, upd_same, Nat.le_refl _, List.nodup_cons.mpr ⟨List.not_mem_nil, List.nodup_nil⟩, fun b hb => absurd hb List.not_mem_nil, .nil, rg.mono ?_, ?_⟩
    · refine msk_more (fun p a b => ?_) fun p o q => ?_
      · rcases a with a | a
        · exact absurd a b
        · rw [List.mem_singleton.mp a]; exact nL
      · have := msk_get q
        rw [upd_ne (ne_of_none this nL)]; exact this
    · rw [show bnd (lcD2 h js fe (wipeE env vs) (ds.drop 0)) (fun ys => ret ([] ++ ys)) = lcD2 h js fe (wipeE env vs) ds from bnd_eta _]; exact h1
  · rintro i m H2 ⟨rfl, hi2, bs, accd, s2, x2, e2, hL, hacc, nd, nb, racc, rg2, post⟩
    by_cases hlt : i < ds.length
    · have hd : ds[i]? = some ds[i] := List.getElem?_eq_getElem hlt
      obtain ⟨go, yld⟩ := (it _ H2 s2 x2.ok rg2 i).1 ds[i] hd
      rw [List.drop_eq_getElem_cons hlt] at post
      refine .inr ⟨go, fun H' => ∃ bs accd s2, RepX Γ (fun a => M a ∨ a ∈ L :: bs) (O.clr vs) (wipe σ vs) (wipeE env vs) H' s2 ∧ Ext Γ.sa H1 H' ∧ H' L = some (.lst (bs.map V.ref)) ∧ bs.length ≤ i + 1 ∧ (L :: bs).Nodup ∧ (∀ b ∈ bs, H1 b = none) ∧
        Paired (LstAt Γ (fun a => M a ∨ a ∈ L :: bs) H') bs accd ∧ Rep Γ (msk (fun a => M a ∨ a ∈ L :: bs) H') gv gd ∧ PostR Γ E M (RF2 Γ M H) H1 (bnd (lcD2 h js fe (wipeE env vs) (ds.drop (i + 1))) (fun ys => ret (accd ++ ys)) s2) Q,
        fun H' n => ⟨ds.length - (i + 1), by omega, rfl, hlt, n⟩, fun v H3 y => ?_⟩
      obtain ⟨e3, t3, rv⟩ := yld v H3 y
      have x3 := x2.ext e3 t3
      unfold lcD2 at post
      rw [bnd_assoc] at post
      obtain ⟨as, ha, post⟩ := PostR.step post
      obtain ⟨la, ga⟩ := hg _ H3 s2 v ds[i] as x3.ok rv ha
      refine ga _ _ fun ws rw' => ⟨wipe_sets hv, ?_⟩
      unfold tYes
      refine iteT ?_
      have x4 := x3.sets (js := js) rw'
      rw [bnd_assoc] at post
      refine he _ _ _ _ H3 s2 x4 _ (nox_post post fun yd s6 yv H6 e6 t6 ry post => ?_)
      obtain ⟨p, us, rfl, np, hp, lu, ru⟩ := ry
      have hL6 : H6 L = some (.lst (bs.map V.ref)) := e6 _ _ (e3 _ _ hL nS nofun) nS nofun
      have hpL : p ≠ L := fun z => by rw [z, e3 _ _ hL nS nofun] at np; cases np
      have hpb : p ∉ bs := fun z => x3.ok.dom p (.inr (List.mem_cons_of_mem _ z)) np
      have hp1 : H1 p = none := x1.ok.st.back x3.ok.st (e2.trans e3) np
      have eM : (fun a => M a ∨ a ∈ L :: (bs ++ [p])) = fun a => (M a ∨ a ∈ L :: bs) ∨ a = p := by
        funext b
        refine propext ⟨fun z => ?_, fun z => ?_⟩
        · rcases z with z | z
          · exact .inl (.inl z)
          · rcases List.mem_cons.mp z with z | z
            · exact .inl (.inr (z ▸ List.mem_cons_self))
            · rcases List.mem_append.mp z with z | z
              · exact .inl (.inr (List.mem_cons_of_mem _ z))
              · exact .inr (List.mem_singleton.mp z)
        · rcases z with (z | z) | z
          · exact .inl z
          · rcases List.mem_cons.mp z with z | z
            · exact .inr (z ▸ List.mem_cons_self)
            · exact .inr (List.mem_cons_of_mem _ (List.mem_append_left _ z))
          · exact .inr (List.mem_cons_of_mem _ (List.mem_append_right _ (List.mem_singleton.mpr z)))
      have x6 : RepX Γ (fun a => M a ∨ a ∈ L :: (bs ++ [p])) (O.clr vs) (wipe σ vs) (wipeE env vs) H6 s6 := by
        rw [eM]
        exact x3.grow e6 t6 np (by rw [hp]; exact fun z => by cases z) fun o z => by rw [hp] at z; cases z; exact ⟨nofun, nofun, fun _ _ z => HO.noConfusion z⟩
      have mL : (fun a => M a ∨ a ∈ L :: (bs ++ [p])) L := .inr List.mem_cons_self
      have em : msk (fun a => M a ∨ a ∈ L :: (bs ++ [p])) (upd H6 L (.lst ((bs ++ [p]).map V.ref))) = msk (fun a => M a ∨ a ∈ L :: (bs ++ [p])) H6 := msk_upd mL
      have up : ∀ b o, msk (fun a => M a ∨ a ∈ L :: bs) H3 b = some o → msk (fun a => M a ∨ a ∈ L :: (bs ++ [p])) (upd H6 L (.lst ((bs ++ [p]).map V.ref))) b = some o := by
        rw [em, eM]
        exact msk_more (fun b h n => by
          rcases h with h | h
          · exact absurd h n
          · rw [h]; exact np) fun b o h => by
          obtain ⟨a, c⟩ := msk_iff.mp h
          exact e6 b o c (fun z => a (by rw [z]; exact x3.ok.ms)) (x3.ok.ntm a c)
      refine ⟨bs.map V.ref, hL6, by rw [List.length_map]; omega, bs ++ [p], accd ++ [yd], s6, ?_, ?_, ?_, by rw [List.length_append, List.length_singleton]; omega, ?_, ?_, ?_, ?_, ?_⟩
      · rw [show bs.map V.ref ++ [V.ref p] = (bs ++ [p]).map V.ref by rw [List.map_append]; rfl]
        exact x6.hid mL nS (fun j z => ownL j L z nL) _ hL6
      · intro b o ho hs ht
        by_cases hbL : b = L
        · rw [hbL, nL] at ho; cases ho
        · rw [upd_ne hbL]
          exact ((e2.trans e3).trans e6) b o ho hs ht
      · rw [upd_same, List.map_append]; rfl
      · rw [List.nodup_cons] at nd ⊢
        refine ⟨fun z => ?_, ?_⟩
        · rcases List.mem_append.mp z with z | z
          · exact nd.1 z
          · exact hpL (List.mem_singleton.mp z).symm
        · rw [List.nodup_append]
          exact ⟨nd.2, List.nodup_cons.mpr ⟨List.not_mem_nil, List.nodup_nil⟩, fun a ha b hb z => hpb (by rw [← List.mem_singleton.mp hb, ← z]; exact ha)⟩
      · intro b hb
        rcases List.mem_append.mp hb with hb | hb
        · exact nb b hb
        · rw [List.mem_singleton.mp hb]; exact hp1
      · rw [show bs.map V.ref ++ [V.ref p] = (bs ++ [p]).map V.ref by rw [List.map_append]; rfl]
        have e36 := e3.trans e6
        refine Paired.snoc (Paired.imp racc fun b r hb l => ?_) ?_
        · obtain ⟨us, u1, u2, u3⟩ := l
          have hbL : b ≠ L := fun z => (List.nodup_cons.mp nd).1 (z ▸ hb)
          have hbs : b ≠ Γ.sa := fun z => by
            have := nb b hb
            rw [z, t1.at_] at this
            cases this
          exact ⟨us, by rw [upd_ne hbL]; exact e36 b _ u1 hbs nofun, u2, (x2.ok.reps e3 u3).mono up⟩
        · exact ⟨us, by rw [upd_ne hpL]; exact hp, lu, by rw [em, eM]; exact ru⟩
      · rw [show bs.map V.ref ++ [V.ref p] = (bs ++ [p]).map V.ref by rw [List.map_append]; rfl]
        exact (x2.ok.rep e3 rg2).mono up
      · rw [bnd_assoc] at post
        have ef : (fun a => bnd (ret (yd :: a)) fun ys => ret (accd ++ ys)) = fun ys => ret ((accd ++ [yd]) ++ ys) := by
          funext a
          rw [bnd_ret, List.append_assoc]
          rfl
        rw [ef] at post
        exact post
    · have ei : i = ds.length := by omega
      subst ei
      refine .inl ⟨(it _ H2 s2 x2.ok rg2 _).2 (Nat.le_refl _), ?_⟩
      rw [List.drop_length] at post
      have post : PostR Γ E M (RF2 Γ M H) H1 (ret (accd ++ []) s2) Q := post
      rw [List.append_nil] at post
      refine (post.later e2).here x2.ok.st ⟨L :: bs, nd, fun a ha => ?_, L, bs, rfl, rfl, hL, Nat.le_trans hacc hz, racc⟩
      rcases List.mem_cons.mp ha with ha | ha
      · rw [ha]; exact back nL
      · exact back (nb a ha)
end
end G

namespace G
open PySem PySem.Spec PyProof.Rows L2

/-! ### judgements over families of contexts -/
def Gx.at (Γ : Gx) (p : Addr × Addr) : Gx := { Γ with sa := p.1, me := p.2 }
structure GX {ι : Type} (Γ : Gx) (X : ι → Cx) (k : Nat) (E : XK) : Prop where
  K : ∀ i, (X i).K = Γ.K
  calm : ∀ i, (X i).calm = true
  room : ∀ i, Room k (X i).A
  nd : ∀ i, (X i).N.Nodup
  tk : ∀ i, Takes (X i) (fun cls d _ H => E cls d H)
  pass : ∀ i, PassesOwn (model (X i).prog (X i).w) (X i).A (X i).env (X i).xe
structure VE {ι : Type} (Γ : Gx) (X : ι → Cx) (E : XK) (e : Expr) (f : Ev → Mo D) : Prop where
  ex : ∃ t, (∀ i, PE (X i) e t) ∧ ∀ sa, DE (Γ.at sa) E t f
structure VT {ι : Type} (Γ : Gx) (X : ι → Cx) (E : XK) (e : Expr) (f : Ev → Mo Bool) : Prop where
  ex : ∃ t, (∀ i, PT (X i) e t) ∧ ∀ sa, DT (Γ.at sa) E t f
structure VW {ι : Type} (Γ : Gx) (X : ι → Cx) (E : XK) (e : Expr) (f : Ev → Mo Bool) : Prop where
  ex : ∃ t, (∀ i, PW (X i) e t) ∧ ∀ sa, DT (Γ.at sa) E t f
structure VA {ι : Type} (Γ : Gx) (X : ι → Cx) (E : XK) (es : List Expr) (f : Ev → Mo (List D)) : Prop where
  ex : ∃ t, (∀ i, PA (X i) es t) ∧ ∀ sa, DA (Γ.at sa) E t f
structure VF {ι : Type} (Γ : Gx) (X : ι → Cx) (E : XK) (e : Expr) (f : Ev → Mo (List D)) : Prop where
  ex : ∃ t, (∀ i, PE (X i) e t) ∧ ∀ sa, DF (Γ.at sa) E t f
structure VI {ι : Type} (Γ : Gx) (X : ι → Cx) (E : XK) (tg e : Expr) (f : Ev → Mo (List D)) : Prop where
  ex : ∃ t, (∀ i, PI (X i) tg e t) ∧ ∀ sa, DI (Γ.at sa) E t f
structure VG {ι : Type} (Γ : Gx) (X : ι → Cx) (e : Expr) (h : D → Option (List D)) (js : List Nat) : Prop where
  ex : ∃ t, (∀ i, PG (X i) e t) ∧ ∀ sa, DG (Γ.at sa) t h js
structure VGs {ι : Type} (Γ : Gx) (X : ι → Cx) (e : List Expr) (h : List D → Option (List D)) (js : List Nat) : Prop where
  ex : ∃ t, (∀ i, PGs (X i) e t) ∧ ∀ sa, DGs (Γ.at sa) t h js
structure VS {ι : Type} (Γ : Gx) (X : ι → Cx) (E : XK) (s : Stmt) (f : Ev → Mo Fl) : Prop where
  ex : ∃ t, (∀ i, PS (X i) s t) ∧ ∀ sa, DS (Γ.at sa) E t f
structure VB {ι : Type} (Γ : Gx) (X : ι → Cx) (E : XK) (s : List Stmt) (f : Ev → Mo Fl) : Prop where
  ex : ∃ t, (∀ i, PSs (X i) s t) ∧ ∀ sa, DS (Γ.at sa) E t f

section
variable {ι : Type} {Γ : Gx} {X : ι → Cx} {E : XK} {k : Nat}
/-! names, constants -/
theorem ve_var (i : Nat) {x : Str} {pos : Pos} (hN : ∀ j, (X j).N[i]? = some x := by intro _; rfl)
    (hv : ∀ j, Vis (X j).env.scope x := by first | exact fun _ => Or.inl rfl | exact fun _ => Or.inr (Or.inl rfl) | exact fun _ => Or.inr (Or.inr rfl))
    (hd : (x == ("__debug__" : Str)) = false := by decide) (hcd : (x == ("__classdict__" : Str)) = false := by decide) : VE Γ X E (.Name x pos) (getD i) :=
  ⟨_, fun j => pe_var (hN j) (hv j) hd hcd, fun _ => de_var i⟩
theorem ve_int {i j pos} : VE Γ X E (.Constant (.int i) j pos) (cD (.int i)) := ⟨_, fun _ => pe_int, fun _ => de_int⟩
theorem ve_bl {i j pos} : VE Γ X E (.Constant (.bool i) j pos) (cD (.bl i)) := ⟨_, fun _ => pe_bl, fun _ => de_bl⟩
theorem ve_str {i j pos} : VE Γ X E (.Constant (.str i) j pos) (cD (.str i)) := ⟨_, fun _ => pe_str, fun _ => de_str⟩
theorem ve_non {j pos} : VE Γ X E (.Constant .none j pos) (cD .non) := ⟨_, fun _ => pe_non, fun _ => de_non⟩
theorem ve_globI {x : Str} {n : Int} {u : Tok} {pos : Pos} (hm : ∀ j, (X j).mg x = some (.int n u)) (hg : ∀ j, Gl (X j) x := by intro _; rfl) (hd : (x == ("__debug__" : Str)) = false := by decide) : VE Γ X E (.Name x pos) (cD (.int n)) :=
  ⟨_, fun j => pe_glob (v := .int n) (hg j) (hm j) ⟨_, rfl⟩ hd, fun _ => de_int⟩
/-! operators -/
theorem ve_op {op : Operator} {r : R2} {o : D → D → Mo D} {a b : Expr} {fa fb : Ev → Mo D} {pos : Pos} (h : ∀ j, OpR (X j) (binaryOp op) r) (q : ∀ sa, Op2 (Γ.at sa) E r o) (ha : VE Γ X E a fa) (hb : VE Γ X E b fb) : VE Γ X E (.BinOp a op b pos) (op2D o fa fb) := by
  obtain ⟨ta, pa, da⟩ := ha.ex
  obtain ⟨tb, pb, db⟩ := hb.ex
  exact ⟨_, fun j => pe_op (h j) (pa j) (pb j), fun sa => de_op2 (q sa) (da sa) (db sa)⟩
theorem ve_add {a b : Expr} {fa fb : Ev → Mo D} {pos : Pos} (g : GX Γ X k E) (ha : VE Γ X E a fa) (hb : VE Γ X E b fb) : VE Γ X E (.BinOp a .Add b pos) (op2D addD fa fb) :=
  ve_op (r := rAddAll Γ.K) (fun j => g.K j ▸ opAdd) (fun sa => o2_add (Γ := Γ.at sa)) ha hb
theorem ve_sub {a b : Expr} {fa fb : Ev → Mo D} {pos : Pos} (ha : VE Γ X E a fa) (hb : VE Γ X E b fb) : VE Γ X E (.BinOp a .Sub b pos) (op2D subD fa fb) := ve_op (fun _ => op_sub) (fun _ => o2_sub) ha hb
theorem ve_mul {a b : Expr} {fa fb : Ev → Mo D} {pos : Pos} (ha : VE Γ X E a fa) (hb : VE Γ X E b fb) : VE Γ X E (.BinOp a .Mult b pos) (op2D mulD fa fb) := ve_op (fun _ => op_mul) (fun _ => o2_mul) ha hb
theorem ve_mod {a b : Expr} {fa fb : Ev → Mo D} {pos : Pos} (ha : VE Γ X E a fa) (hb : VE Γ X E b fb) : VE Γ X E (.BinOp a .Mod b pos) (op2D modD fa fb) := ve_op (fun _ => op_mod) (fun _ => o2_mod) ha hb
theorem ve_div {a b : Expr} {fa fb : Ev → Mo D} {pos : Pos} (ha : VE Γ X E a fa) (hb : VE Γ X E b fb) : VE Γ X E (.BinOp a .FloorDiv b pos) (op2D divD fa fb) := ve_op (fun _ => op_fdiv) (fun _ => o2_div) ha hb
theorem ve_neg {a : Expr} {fa : Ev → Mo D} {pos : Pos} (ha : VE Γ X E a fa) : VE Γ X E (.UnaryOp .USub a pos) (op1D negD fa) := by
  obtain ⟨ta, pa, da⟩ := ha.ex
  exact ⟨_, fun j => pe_un un_neg (pa j), fun sa => de_op1 o1_neg (da sa)⟩
/-! comparisons: a rule by values, as a value and as a test -/
structure VC (Γ : Gx) (X : ι → Cx) (E : XK) (op : CmpOp) (o : D → D → Mo D) : Prop where
  ex : ∃ r, (∀ j, OpR (X j) (compareOp op) r) ∧ ∀ sa, Op2 (Γ.at sa) E r o
theorem vc_eq (g : GX Γ X k E) : VC Γ X E .Eq eqD := ⟨rEqD Γ.K, fun j => g.K j ▸ op_eqD (g.room j).units, fun sa => o2_eq (Γ := Γ.at sa)⟩
theorem vc_ne (g : GX Γ X k E) : VC Γ X E .NotEq neD := ⟨rNeD Γ.K, fun j => g.K j ▸ op_neD (g.room j).units, fun sa => o2_ne (Γ := Γ.at sa)⟩
theorem vc_lt : VC Γ X E .Lt ltD := ⟨_, fun _ => op_lt, fun _ => o2_lt⟩
theorem vc_le : VC Γ X E .LtE leD := ⟨_, fun _ => op_le, fun _ => o2_le⟩
theorem vc_gt : VC Γ X E .Gt gtD := ⟨_, fun _ => op_gt, fun _ => o2_gt⟩
theorem vc_ge : VC Γ X E .GtE geD := ⟨_, fun _ => op_ge, fun _ => o2_ge⟩
theorem units65 {A : Around} (r : Room k A) : A.units + 65 < cLine := by have := r.un; omega
theorem vc_in (g : GX Γ X k E) : VC Γ X E .In (inD false) := ⟨rInAll Γ.K false, fun j => g.K j ▸ opIn (units65 (g.room j)), fun sa => o2_in (Γ := Γ.at sa) false⟩
theorem vc_notin (g : GX Γ X k E) : VC Γ X E .NotIn (inD true) := ⟨rInAll Γ.K true, fun j => g.K j ▸ opNotIn (units65 (g.room j)), fun sa => o2_in (Γ := Γ.at sa) true⟩
theorem vc_isB : VC Γ X E .Is isBD := ⟨_, fun _ => op_isBl, fun _ => o2_isB⟩
theorem vc_notB : VC Γ X E .IsNot notBD := ⟨_, fun _ => op_notBl, fun _ => o2_notB⟩
theorem ve_cmp {op : CmpOp} {o : D → D → Mo D} {a b : Expr} {fa fb : Ev → Mo D} {pos : Pos} (c : VC Γ X E op o) (ha : VE Γ X E a fa) (hb : VE Γ X E b fb) (hm : behindInMarks op b = false := by first | exact nomark _ | rfl) :
    VE Γ X E (.Compare a [op] [b] pos) (op2D o fa fb) := by
  obtain ⟨r, h, q⟩ := c.ex
  obtain ⟨ta, pa, da⟩ := ha.ex
  obtain ⟨tb, pb, db⟩ := hb.ex
  exact ⟨_, fun j => pe_cmpR (h j) (pa j) (pb j) hm, fun sa => de_op2 (q sa) (da sa) (db sa)⟩
theorem vt_cmp {op : CmpOp} {o : D → D → Mo D} {a b : Expr} {fa fb : Ev → Mo D} {pos : Pos} (c : VC Γ X E op o) (ha : VE Γ X E a fa) (hb : VE Γ X E b fb) (hm : behindInMarks op b = false := by first | exact nomark _ | rfl) :
    VT Γ X E (.Compare a [op] [b] pos) (testD (op2D o fa fb)) := by
  obtain ⟨r, h, q⟩ := c.ex
  obtain ⟨ta, pa, da⟩ := ha.ex
  obtain ⟨tb, pb, db⟩ := hb.ex
  exact ⟨_, fun j => pt_cmpR (h j) (pa j) (pb j) hm, fun sa => dt_test (de_op2 (q sa) (da sa) (db sa))⟩
theorem de_chain {sa : Addr × Addr} {r r' : R2} {o o' : D → D → Mo D} {ta tb tc : TE} {fa fb fc : Ev → Mo D} (q : Op2 (Γ.at sa) E r o) (q' : Op2 (Γ.at sa) E r' o') (da : DE (Γ.at sa) E ta fa) (db : DE (Γ.at sa) E tb fb) (dc : DE (Γ.at sa) E tc fc) :
    DE (Γ.at sa) E (tChain r r' ta tb tc) (chainD o o' fa fb fc) := fun M O σ env H s x Q h => by
  refine da M O σ env H s x _ (PostR.bnd h fun a s1 v H1 e1 t1 r1 h1 => ?_)
  have x1 := x.ext e1 t1
  refine db M O σ env H1 s1 x1 _ (PostR.bnd h1 fun b s2 u H2 e2 t2 r2 h2 => ?_)
  have x2 := x1.ext e2 t2
  have r1' := x1.ok.rep e2 r1
  refine q M H2 s2 v u a b x2.ok r1' r2 _ (PostR.bnd h2 fun z s3 w H3 e3 t3 r3 h3 => ?_)
  have x3 := x2.ext e3 t3
  cases r3 with
  | bl c =>
    refine ⟨c, rfl, ?_⟩
    rw [show asB (.bl c) = ret c from rfl, bnd_ret] at h3
    cases c with
    | true =>
      refine iteT ?_
      refine dc M O σ env H3 s3 x3 _ (PostR.bnd h3 fun c s4 w4 H4 e4 t4 r4 h4 => ?_)
      exact q' M H4 _ u w4 _ _ (x3.ok.ext e4 t4) (x3.ok.rep e4 (x2.ok.rep e3 r2)) r4 Q h4
    | false => exact iteF (h3.here t3 (.bl false))
  | _ => exact h3.elim
theorem ve_chain {op op' : CmpOp} {o o' : D → D → Mo D} {a b c : Expr} {fa fb fc : Ev → Mo D} {pos : Pos} (h : VC Γ X E op o) (h' : VC Γ X E op' o') (ha : VE Γ X E a fa) (hb : VE Γ X E b fb) (hc : VE Γ X E c fc)
    (hm : lastMarks [op, op'] [b, c] = false := by with_unfolding_all rfl) : VE Γ X E (.Compare a [op, op'] [b, c] pos) (chainD o o' fa fb fc) := by
  obtain ⟨r, p, q⟩ := h.ex
  obtain ⟨r', p', q'⟩ := h'.ex
  obtain ⟨ta, pa, da⟩ := ha.ex
  obtain ⟨tb, pb, db⟩ := hb.ex
  obtain ⟨tc, pc, dc⟩ := hc.ex
  exact ⟨_, fun j => pe_chain (p j) (p' j) (pa j) (pb j) (pc j) hm, fun sa => de_chain (q sa) (q' sa) (da sa) (db sa) (dc sa)⟩
theorem vt_chain {op op' : CmpOp} {o o' : D → D → Mo D} {a b c : Expr} {fa fb fc : Ev → Mo D} {pos : Pos} (h : VC Γ X E op o) (h' : VC Γ X E op' o') (ha : VE Γ X E a fa) (hb : VE Γ X E b fb) (hc : VE Γ X E c fc)
    (hm : lastMarks [op, op'] [b, c] = false := by with_unfolding_all rfl) : VT Γ X E (.Compare a [op, op'] [b, c] pos) (testD (chainD o o' fa fb fc)) := by
  obtain ⟨r, p, q⟩ := h.ex
  obtain ⟨r', p', q'⟩ := h'.ex
  obtain ⟨ta, pa, da⟩ := ha.ex
  obtain ⟨tb, pb, db⟩ := hb.ex
  obtain ⟨tc, pc, dc⟩ := hc.ex
  exact ⟨_, fun j => pt_chain (p j) (p' j) (pa j) (pb j) (pc j) hm, fun sa => dt_test (de_chain (q sa) (q' sa) (da sa) (db sa) (dc sa))⟩
theorem ve_isN {a : Expr} {fa : Ev → Mo D} {j pos' pos} (ha : VE Γ X E a fa) : VE Γ X E (.Compare a [.Is] [.Constant .none j pos'] pos) (isND fa) := by
  obtain ⟨ta, pa, da⟩ := ha.ex
  exact ⟨_, fun j => pe_cmp (pc_isN (pa j)), fun sa => de_isN (da sa)⟩
theorem ve_notN {a : Expr} {fa : Ev → Mo D} {j pos' pos} (ha : VE Γ X E a fa) : VE Γ X E (.Compare a [.IsNot] [.Constant .none j pos'] pos) (notND fa) := by
  obtain ⟨ta, pa, da⟩ := ha.ex
  exact ⟨_, fun j => pe_cmp (pc_notN (pa j)), fun sa => de_notN (da sa)⟩
theorem vt_isN {a : Expr} {fa : Ev → Mo D} {j pos' pos} (ha : VE Γ X E a fa) : VT Γ X E (.Compare a [.Is] [.Constant .none j pos'] pos) (testD (isND fa)) := by
  obtain ⟨ta, pa, da⟩ := ha.ex
  exact ⟨_, fun j => pt_cmp (pc_isN (pa j)), fun sa => dt_val (de_isN (da sa))⟩
theorem vt_notN {a : Expr} {fa : Ev → Mo D} {j pos' pos} (ha : VE Γ X E a fa) : VT Γ X E (.Compare a [.IsNot] [.Constant .none j pos'] pos) (testD (notND fa)) := by
  obtain ⟨ta, pa, da⟩ := ha.ex
  exact ⟨_, fun j => pt_cmp (pc_notN (pa j)), fun sa => dt_val (de_notN (da sa))⟩
/-! and, or, not -/
theorem vt_val {e : Expr} {f : Ev → Mo D} (h : VE Γ X E e f) (he : ∀ j whole, isTrue e (X j).env whole = (do let v ← whole; standAt e.pos; holding [v] (truthy v)) := by intro _ _; rfl) : VT Γ X E e (testD f) := by
  obtain ⟨t, p, d⟩ := h.ex
  exact ⟨_, fun j => pt_val (p j) (he j), fun sa => dt_val (d sa)⟩
theorem vw_and1 {a : Expr} {f : Ev → Mo Bool} {pos : Pos} (h : VT Γ X E a f) : VW Γ X E (.BoolOp .And [a] pos) f := by
  obtain ⟨t, p, d⟩ := h.ex
  exact ⟨t, fun j => pw_and1 (p j), d⟩
theorem vw_or1 {a : Expr} {f : Ev → Mo Bool} {pos : Pos} (h : VT Γ X E a f) : VW Γ X E (.BoolOp .Or [a] pos) f := by
  obtain ⟨t, p, d⟩ := h.ex
  exact ⟨t, fun j => pw_or1 (p j), d⟩
theorem vw_and {a b : Expr} {rest : List Expr} {f g : Ev → Mo Bool} {pos : Pos} (h : VT Γ X E a f) (q : VW Γ X E (.BoolOp .And (b :: rest) pos) g) : VW Γ X E (.BoolOp .And (a :: b :: rest) pos) (andT f g) := by
  obtain ⟨t, p, d⟩ := h.ex
  obtain ⟨u, p2, d2⟩ := q.ex
  exact ⟨_, fun j => pw_and (p j) (p2 j), fun sa => dt_and (d sa) (d2 sa)⟩
theorem vw_or {a b : Expr} {rest : List Expr} {f g : Ev → Mo Bool} {pos : Pos} (h : VT Γ X E a f) (q : VW Γ X E (.BoolOp .Or (b :: rest) pos) g) : VW Γ X E (.BoolOp .Or (a :: b :: rest) pos) (orT f g) := by
  obtain ⟨t, p, d⟩ := h.ex
  obtain ⟨u, p2, d2⟩ := q.ex
  exact ⟨_, fun j => pw_or (p j) (p2 j), fun sa => dt_or (d sa) (d2 sa)⟩
theorem vt_w {e : Expr} {f : Ev → Mo Bool} (h : VW Γ X E e f) : VT Γ X E e f := by
  obtain ⟨t, p, d⟩ := h.ex
  exact ⟨t, fun j => (p j).pt, d⟩
theorem vt_not {a : Expr} {f : Ev → Mo Bool} {pos : Pos} (h : VT Γ X E a f) : VT Γ X E (.UnaryOp .Not a pos) (notT f) := by
  obtain ⟨t, p, d⟩ := h.ex
  exact ⟨_, fun j => pt_not (p j), fun sa => dt_not (d sa)⟩
theorem ve_one {op} {a : Expr} {f : Ev → Mo D} {pos : Pos} (h : VE Γ X E a f) : VE Γ X E (.BoolOp op [a] pos) f := by
  obtain ⟨t, p, d⟩ := h.ex
  exact ⟨t, fun j => pe_one (p j), d⟩
theorem ve_and {a b : Expr} {rest : List Expr} {f g : Ev → Mo D} {pos : Pos} (h : VE Γ X E a f) (q : VE Γ X E (.BoolOp .And (b :: rest) pos) g) : VE Γ X E (.BoolOp .And (a :: b :: rest) pos) (andV f g) := by
  obtain ⟨t, p, d⟩ := h.ex
  obtain ⟨u, p2, d2⟩ := q.ex
  exact ⟨_, fun j => pe_and (p j) (p2 j), fun sa => de_and (d sa) (d2 sa)⟩
theorem ve_or {a b : Expr} {rest : List Expr} {f g : Ev → Mo D} {pos : Pos} (h : VE Γ X E a f) (q : VE Γ X E (.BoolOp .Or (b :: rest) pos) g) : VE Γ X E (.BoolOp .Or (a :: b :: rest) pos) (orV f g) := by
  obtain ⟨t, p, d⟩ := h.ex
  obtain ⟨u, p2, d2⟩ := q.ex
  exact ⟨_, fun j => pe_or (p j) (p2 j), fun sa => de_or (d sa) (d2 sa)⟩
theorem ve_not {a : Expr} {f : Ev → Mo D} {pos : Pos} (h : VE Γ X E a f) : VE Γ X E (.UnaryOp .Not a pos) (notV f) := by
  obtain ⟨t, p, d⟩ := h.ex
  exact ⟨_, fun j => pe_not (p j), fun sa => de_not (d sa)⟩
theorem ve_ifx {c a b : Expr} {fc : Ev → Mo Bool} {f g : Ev → Mo D} {pos : Pos} (hc : VT Γ X E c fc) (ha : VE Γ X E a f) (hb : VE Γ X E b g) : VE Γ X E (.IfExp c a b pos) (ifD fc f g) := by
  obtain ⟨t, p, d⟩ := hc.ex
  obtain ⟨ta, pa, da⟩ := ha.ex
  obtain ⟨tb, pb, db⟩ := hb.ex
  exact ⟨_, fun j => pe_ifExp (p j) (pa j) (pb j), fun sa => de_if (d sa) (da sa) (db sa)⟩
/-! argument lists, displays -/
theorem va_nil : VA Γ X E [] nilA := ⟨_, fun _ => pa_nil, fun _ => da_nil⟩
theorem va_cons {e : Expr} {es : List Expr} {f : Ev → Mo D} {g : Ev → Mo (List D)} (h : VE Γ X E e f) (q : VA Γ X E es g) (hs : ∀ j, starEach (e :: es) (X j).env = (false, eval e (X j).env) :: starEach es (X j).env := by intro _; rfl) : VA Γ X E (e :: es) (consA f g) := by
  obtain ⟨t, p, d⟩ := h.ex
  obtain ⟨u, p2, d2⟩ := q.ex
  exact ⟨_, fun j => pa_cons (p j) (p2 j) (hs j), fun sa => da_cons (d sa) (d2 sa)⟩
theorem ve_tup {es : List Expr} {f : Ev → Mo (List D)} {x1} {pos : Pos} (h : VA Γ X E es f) : VE Γ X E (.Tuple es x1 pos) (opLD tupD f) := by
  obtain ⟨t, p, d⟩ := h.ex
  exact ⟨_, fun j => pe_tup (p j), fun sa => de_tup (d sa)⟩
theorem vf_lst {es : List Expr} {f : Ev → Mo (List D)} {pos : Pos} (h : VA Γ X E es f) : VF Γ X E (.List es pos) (fun env => bnd (f env) fun as => if as.length ≤ 1000 then ret as else bad) := by
  obtain ⟨t, p, d⟩ := h.ex
  exact ⟨_, fun j => pe_lst (p j), fun sa => df_lst (d sa)⟩
theorem ve_new {e : Expr} {f : Ev → Mo (List D)} (h : VF Γ X E e f) : VE Γ X E e (asL f) := by
  obtain ⟨t, p, d⟩ := h.ex
  exact ⟨t, p, fun sa => de_new (d sa)⟩
theorem ve_lst {es : List Expr} {f : Ev → Mo (List D)} {pos : Pos} (h : VA Γ X E es f) : VE Γ X E (.List es pos) (opLD lstD f) := by
  obtain ⟨t, p, d⟩ := h.ex
  exact ⟨_, fun j => pe_lst (p j), fun sa => de_lst (d sa)⟩
theorem ve_ix {a b : Expr} {fa fb : Ev → Mo D} {pos : Pos} (g : GX Γ X k E) (ha : VE Γ X E a fa) (hb : VE Γ X E b fb) (hs : PlainIx b := by exact fun _ _ => rfl) : VE Γ X E (.Subscript a b pos) (op2D ixD fa fb) := by
  obtain ⟨ta, pa, da⟩ := ha.ex
  obtain ⟨tb, pb, db⟩ := hb.ex
  exact ⟨tOp (rIx Γ.K) ta tb, fun j => g.K j ▸ pe_ix ix_seq (pa j) (pb j) hs, fun sa => de_op2 (o2_ix (Γ := Γ.at sa)) (da sa) (db sa)⟩
/-! calls of built-ins -/
theorem ve_callB {id : String} {x : Str} {r : List V → Hp → VK → Prop} {o : List D → Mo D} {e : Expr} {es : List Expr} {f : Ev → Mo (List D)} {p pos : Pos} (hc : ∀ j, CallR (X j) (.builtin id) r) (q : ∀ sa, OpL (Γ.at sa) E r o) (hm : ∀ j, (X j).mg x = none) (ha : VA Γ X E (e :: es) f)
    (hg : ∀ j, Gl (X j) x := by intro _; rfl) (hv : bootBuiltins x = some (.builtin id) := by decide +kernel) (hn : x ≠ "__name__" := by decide) (hdb : (x == ("__debug__" : Str)) = false := by decide)
    (he : ∀ j, starEach (e :: es) (X j).env = (false, eval e (X j).env) :: starEach es (X j).env := by intro _; rfl) (hpl : ∀ j, (backTo pos (starEach es (X j).env)).any (·.1) = false := by intro _; rfl) :
    VE Γ X E (.Call (.Name x p) (e :: es) [] pos) (opLD o f) := by
  obtain ⟨t, pa, d⟩ := ha.ex
  exact ⟨_, fun j => pe_callB (hc j) (hg j) (hm j) hv (pa j) hn hdb (he j) (hpl j), fun sa => de_call (q sa) (d sa)⟩
theorem ve_callTy {T : String} {x : Str} {r : List V → Hp → VK → Prop} {o : List D → Mo D} {e : Expr} {es : List Expr} {f : Ev → Mo (List D)} {p pos : Pos} (hc : ∀ j, CallR (X j) (.type T) r) (q : ∀ sa, OpL (Γ.at sa) E r o) (hm : ∀ j, (X j).mg x = none) (ha : VA Γ X E (e :: es) f)
    (hg : ∀ j, Gl (X j) x := by intro _; rfl) (hv : bootBuiltins x = some (.type T) := by decide +kernel) (hn : x ≠ "__name__" := by decide) (hdb : (x == ("__debug__" : Str)) = false := by decide)
    (he : ∀ j, starEach (e :: es) (X j).env = (false, eval e (X j).env) :: starEach es (X j).env := by intro _; rfl) (hpl : ∀ j, (backTo pos (starEach es (X j).env)).any (·.1) = false := by intro _; rfl) :
    VE Γ X E (.Call (.Name x p) (e :: es) [] pos) (opLD o f) := by
  obtain ⟨t, pa, d⟩ := ha.ex
  exact ⟨_, fun j => pe_callTy (hc j) (hg j) (hm j) hv (pa j) hn hdb (he j) (hpl j), fun sa => de_call (q sa) (d sa)⟩
/-! a def of one's own -/
/-- the promise: data in, data out -/
def spD (Γ : Gx) (n : Nat) (g : List D → Mo D) : Sp := fun vs H Q E => vs.length = n ∧ ∃ sa M s ds, HpOk (Γ.at sa) M H s ∧ Reps (Γ.at sa) (msk M H) vs ds ∧ PostR (Γ.at sa) E M (RD (Γ.at sa) M) H (g ds s) Q
theorem de_fn {sa : Addr × Addr} {n : Nat} {g : List D → Mo D} {t : TA} {f : Ev → Mo (List D)} (d : DA (Γ.at sa) E t f) (hl : ∀ env s ds s', f env s = .ok ds s' → ds.length = n) : DE (Γ.at sa) E (tCall (spD Γ n g) [] E t) (opLD g f) := fun M O σ env H s x Q h => by
  have h : PostR (Γ.at sa) E M (RD (Γ.at sa) M) H (bnd (f env) g s) Q := h
  refine d M O σ env H s x (fun vs H1 => spD Γ n g (vs ++ []) H1 Q E) ?_
  unfold bnd at h
  cases e : f env s with
  | bad => rw [e] at h; exact h
  | exc y s1 => rw [e] at h; exact h
  | ok ds s1 =>
    rw [e] at h
    intro vs H1 e1 t1 r1
    rw [List.append_nil]
    exact ⟨by rw [r1.length]; exact hl env s ds s1 e, sa, M, s1, ds, x.ok.ext e1 t1, r1, PostR.later h e1⟩
theorem bnd_ok {α β : Type} {m : Mo α} {k : α → Mo β} {s : S} {b : β} {s' : S} (h : bnd m k s = .ok b s') : ∃ a s1, m s = .ok a s1 ∧ k a s1 = .ok b s' := by
  unfold bnd at h
  cases e : m s with
  | bad => rw [e] at h; cases h
  | exc y s1 => rw [e] at h; cases h
  | ok a s1 => rw [e] at h; exact ⟨a, s1, rfl, h⟩
/-- an argument list of so many -/
structure VAn (Γ : Gx) (X : ι → Cx) (E : XK) (n : Nat) (es : List Expr) (f : Ev → Mo (List D)) : Prop where
  a : VA Γ X E es f
  n : ∀ env s ds s', f env s = .ok ds s' → ds.length = n
theorem van_nil : VAn Γ X E 0 [] nilA := ⟨va_nil, fun env s ds s' h => by cases h; rfl⟩
theorem van_cons {n : Nat} {e : Expr} {es : List Expr} {f : Ev → Mo D} {g : Ev → Mo (List D)} (h : VE Γ X E e f) (q : VAn Γ X E n es g) (hs : ∀ j, starEach (e :: es) (X j).env = (false, eval e (X j).env) :: starEach es (X j).env := by intro _; rfl) : VAn Γ X E (n + 1) (e :: es) (consA f g) :=
  ⟨va_cons h q.a hs, fun env s ds s' h => by
    unfold consA at h
    obtain ⟨a, s1, e1, h⟩ := bnd_ok h
    obtain ⟨b, s2, e2, h⟩ := bnd_ok h
    cases h
    rw [List.length_cons, q.n env s1 b _ e2]⟩
/-- f keeps the promise g, wherever it is called from X -/
structure Fd (P : Program) (w : World) (K : PySem.W.Frag) (mg : Str → Option Value) (base : Heap) (Γ : Gx) (x : Str) (lev n : Nat) (g : List D → Mo D) : Prop where
  ex : ∃ f fd ps, FnOk P w K mg base (L2.CX P w) lev f fd ps (spD Γ n g) ∧ mg x = some (.ref f) ∧ PySem.W.keepIn K (.ref f) = true ∧ Binds K fd ps []
theorem ve_fn {lev n : Nat} {x : Str} {g : List D → Mo D} {e : Expr} {es : List Expr} {f : Ev → Mo (List D)} {p pos : Pos} (gx : GX Γ X k E) (F : ∀ j, Fd (X j).prog (X j).w (X j).K (X j).mg (X j).base Γ x lev n g) (hk : lev ≤ k) (ha : VAn Γ X E n (e :: es) f)
    (hg : ∀ j, Gl (X j) x := by intro _; rfl) (hdb : (x == ("__debug__" : Str)) = false := by decide)
    (he : ∀ j, starEach (e :: es) (X j).env = (false, eval e (X j).env) :: starEach es (X j).env := by intro _; rfl) (hpl : ∀ j, (backTo pos (starEach es (X j).env)).any (·.1) = false := by intro _; rfl) :
    VE Γ X E (.Call (.Name x p) (e :: es) [] pos) (opLD g f) := by
  obtain ⟨t, pa, d⟩ := ha.a.ex
  refine ⟨tCall (spD Γ n g) [] E t, fun j => ?_, fun sa => de_fn (d sa) ha.n⟩
  obtain ⟨fa, fd, ps, F1, F2, F3, F4⟩ := (F j).ex
  exact pe_call F1 ((gx.room j).mono hk) (hg j) F2 F3 F4 .nil (passes_call (gx.tk j) fun _ _ _ _ h => h) (pa j) hdb (he j) (hpl j)
/-! comprehensions -/
abbrev blkF (X : ι → Cx) (scope : Scope) : ι × Shared × Hp × Addr × List (Str × Addr) × List Addr → Cx := fun j => (X j.1).blk j.2.1 j.2.2.1 scope (compEnvC scope j.2.2.2.2.1 j.2.2.2.1 (X j.1).env) j.2.2.2.2.2
theorem GX.blk (g : GX Γ X k E) (scope : Scope) : GX Γ (blkF X scope) k E0 := ⟨fun j => g.K j.1, fun j => g.calm j.1, fun j => g.room j.1, fun j => g.nd j.1, fun j => takes0, fun j => PassesOwn.never⟩
structure VTs {ι : Type} (Γ : Gx) (X : ι → Cx) (E : XK) (es : List Expr) (f : Ev → Mo Bool) : Prop where
  ex : ∃ t, (∀ i, PTs (X i) es t) ∧ ∀ sa, DT (Γ.at sa) E t f
def yesT : Ev → Mo Bool := fun _ => ret true
theorem vts_nil : VTs Γ X E [] yesT := ⟨_, fun _ => pts_nil, fun _ M O σ env H s x Q q => q.here x.ok.st rfl⟩
theorem vts_one {e : Expr} {f : Ev → Mo Bool} (h : VT Γ X E e f) : VTs Γ X E [e] f := by
  obtain ⟨t, p, d⟩ := h.ex
  exact ⟨t, fun j => pts_one (p j), d⟩
theorem vf_lc {elt tg iter : Expr} {ifs : List Expr} {scope : Scope} {own : List (Str × Nat)} {pos : Pos} {fi : Ev → Mo (List D)} {h : D → Option (List D)} {js : List Nat} {ft : Ev → Mo Bool} {fe : Ev → Mo D} (g : GX Γ X k E) (hi : VI Γ X E tg iter fi)
    (ok : ∀ j, BlkOk (X j).N (X j).env.scope scope own) (hg : VG Γ (blkF X scope) tg h js) (ht : VTs Γ (blkF X scope) E0 ifs ft) (he : VE Γ (blkF X scope) E0 elt fe) (hv : ∀ j ∈ js, j ∈ own.map (·.2) := by decide)
    (hs : ∀ j x, foldedSetIterable iter (X j).env x = pure x := by intro _ _; rfl) : VF Γ X E (.ListComp elt [⟨tg, iter, ifs, 0⟩] scope pos) (compD fi h js ft fe (own.map (·.2))) := by
  obtain ⟨wi, pi, di⟩ := hi.ex
  obtain ⟨tg', pg, dg⟩ := hg.ex
  obtain ⟨tt, pt, dt⟩ := ht.ex
  obtain ⟨te, pe, de⟩ := he.ex
  exact ⟨_, fun j => pe_lc (g.calm j) (g.nd j) (pi j) (ok j) (fun s H C cl fp => pg (j, s, H, C, cl, fp)) (fun s H C cl fp => pt (j, s, H, C, cl, fp)) (fun s H C cl fp => pe (j, s, H, C, cl, fp)) (hs j),
    fun sa => df_lc (di sa) (dg sa) (dt sa) (de sa) hv⟩
theorem vg_name (i : Nat) {x : Str} {pos : Pos} (g : ∀ j, (X j).N.Nodup) (hi : ∀ j, (X j).N[i]? = some x := by intro _; rfl) (hx : ∀ j, Loc (X j).env.scope x := by first | exact fun _ => Or.inl rfl | exact fun _ => Or.inr rfl)
    (hf : ∀ j, (X j).fn x = true ∨ (X j).env.scope.names.lookup x = some .local := by first | exact fun _ => .inl rfl | exact fun _ => .inr rfl) : VG Γ X (.Name x pos) hName [i] :=
  ⟨_, fun j => pg_name (g j) (hi j) (hx j) (hf j), fun _ => dg_name i⟩
theorem vgs_nil : VGs Γ X [] hNil [] := ⟨_, fun _ => pgs_nil, fun _ => dgs_nil⟩
theorem vgs_cons {e : Expr} {es : List Expr} {h : D → Option (List D)} {l : List D → Option (List D)} {is js : List Nat} (a : VG Γ X e h is) (b : VGs Γ X es l js)
    (hs : ∀ j, (assignEach (e :: es) (X j).env).map (·.2) = assign e (X j).env :: (assignEach es (X j).env).map (·.2) := by intro _; rfl) : VGs Γ X (e :: es) (hCons h l) (is ++ js) := by
  obtain ⟨t, p, d⟩ := a.ex
  obtain ⟨u, p2, d2⟩ := b.ex
  exact ⟨_, fun j => pgs_cons (p j) (p2 j) (hs j), fun sa => dgs_cons (d sa) (d2 sa)⟩
theorem vg_tup {es : List Expr} {m n : Nat} {l : List D → Option (List D)} {js : List Nat} {pos : Pos} (g : GX Γ X k E) (b : VGs Γ X es l js)
    (hn : ∀ j, (assignEach es (X j).env).length = n := by intro _; rfl) (hst : ∀ j, (assignEach es (X j).env).findIdx? (·.1) = none := by intro _; rfl) : VG Γ X (.Tuple es m pos) (hTup n l) js := by
  obtain ⟨u, p2, d2⟩ := b.ex
  exact ⟨gTup Γ.K n u, fun j => g.K j ▸ pg_tup (g.calm j) (p2 j) (hn j) (hst j), fun sa => dg_tup (Γ := Γ.at sa) (d2 sa)⟩
/-! what is walked -/
theorem vi_list {tg e : Expr} {f : Ev → Mo D} (g : GX Γ X k E) (h : VE Γ X E e f) : VI Γ X E tg e (overL f) := by
  obtain ⟨t, p, d⟩ := h.ex
  exact ⟨iList Γ.K t, fun j => g.K j ▸ pi_list (p j), fun sa => di_list (Γ := Γ.at sa) (d sa)⟩
theorem vi_tup {tg e : Expr} {f : Ev → Mo D} (g : GX Γ X k E) (h : VE Γ X E e f) : VI Γ X E tg e (overT f) := by
  obtain ⟨t, p, d⟩ := h.ex
  exact ⟨iTup Γ.K t, fun j => g.K j ▸ pi_tup (p j), fun sa => di_tup (Γ := Γ.at sa) (d sa)⟩
theorem vi_range1 {tg a : Expr} {f : Ev → Mo (List D)} {p pos : Pos} (hm : ∀ j, (X j).mg "range" = none) (h : VA Γ X E [a] f) (hg : ∀ j, Gl (X j) "range" := by intro _; rfl) (hs : ∀ j, starEach [a] (X j).env = [(false, eval a (X j).env)] := by intro _; rfl) :
    VI Γ X E tg (.Call (.Name "range" p) [a] [] pos) (overR range1 f) := by
  obtain ⟨t, q, d⟩ := h.ex
  exact ⟨_, fun j => pi_range1 (hg j) (hm j) (q j) (hs j), fun sa => di_range1 (d sa)⟩
theorem vi_range2 {tg a b : Expr} {f : Ev → Mo (List D)} {p pos : Pos} (hm : ∀ j, (X j).mg "range" = none) (h : VA Γ X E [a, b] f) (hg : ∀ j, Gl (X j) "range" := by intro _; rfl)
    (hs : ∀ j, starEach [a, b] (X j).env = [(false, eval a (X j).env), (false, eval b (X j).env)] := by intro _; rfl) (hs2 : ∀ j, starEach [b] (X j).env = [(false, eval b (X j).env)] := by intro _; rfl) :
    VI Γ X E tg (.Call (.Name "range" p) [a, b] [] pos) (overR range2 f) := by
  obtain ⟨t, q, d⟩ := h.ex
  exact ⟨_, fun j => pi_range2 (hg j) (hm j) (q j) (hs j) (hs2 j), fun sa => di_range2 (d sa)⟩
theorem vi_enum {elts : List Expr} {kk : Nat} {tpos : Pos} {e : Expr} {f : Ev → Mo (List D)} {p pos : Pos} (g : GX Γ X k E) (hm : ∀ j, (X j).mg "enumerate" = none) (h : VA Γ X E [e] f) (hg : ∀ j, Gl (X j) "enumerate" := by intro _; rfl)
    (hs : ∀ j, starEach [e] (X j).env = [(false, eval e (X j).env)] := by intro _; rfl) : VI Γ X E (.Tuple elts kk tpos) (.Call (.Name "enumerate" p) [e] [] pos) (overR enum1 f) := by
  obtain ⟨t, q, d⟩ := h.ex
  exact ⟨iEnum Γ.K t, fun j => g.K j ▸ pi_enum (hg j) (hm j) (q j) (hs j), fun sa => di_enum (Γ := Γ.at sa) (d sa)⟩
/-! list(range(..)), tuple(range(..)), list(x), tuple(x) -/
structure VR {ι : Type} (Γ : Gx) (X : ι → Cx) (E : XK) (e : Expr) (f : Ev → Mo (Int × Int)) : Prop where
  ex : ∃ t, (∀ i, PRg (X i) e t) ∧ ∀ sa, DR (Γ.at sa) E t f
theorem vr_1 {a : Expr} {f : Ev → Mo D} {p pos : Pos} (hm : ∀ j, (X j).mg "range" = none) (h : VE Γ X E a f) (hg : ∀ j, Gl (X j) "range" := by intro _; rfl) (na : ∀ j, starEach [a] (X j).env = (false, eval a (X j).env) :: starEach [] (X j).env := by intro _; rfl) :
    VR Γ X E (.Call (.Name "range" p) [a] [] pos) (fun env => bnd (f env) fun d => bnd (asInt d) fun n => ret ((0 : Int), n)) := by
  obtain ⟨t, q, d⟩ := h.ex
  exact ⟨_, fun j => prg_1 (hg j) (hm j) (q j) (na j), fun sa => dr_1 (d sa)⟩
theorem vf_listRg {e : Expr} {f : Ev → Mo (Int × Int)} {p pos : Pos} (g : GX Γ X k E) (hm : ∀ j, (X j).mg "list" = none) (h : VR Γ X E e f) (hg : ∀ j, Gl (X j) "list" := by intro _; rfl) (na : ∀ j, starEach [e] (X j).env = (false, eval e (X j).env) :: starEach [] (X j).env := by intro _; rfl) :
    VF Γ X E (.Call (.Name "list" p) [e] [] pos) (fun env => bnd (f env) rgD) := by
  obtain ⟨t, q, d⟩ := h.ex
  exact ⟨_, fun j => pe_listRg (g.calm j) (hg j) (hm j) (q j) (na j), fun sa => df_listRg (d sa)⟩
theorem ve_tupRg {e : Expr} {f : Ev → Mo (Int × Int)} {p pos : Pos} (g : GX Γ X k E) (hm : ∀ j, (X j).mg "tuple" = none) (h : VR Γ X E e f) (hg : ∀ j, Gl (X j) "tuple" := by intro _; rfl) (na : ∀ j, starEach [e] (X j).env = (false, eval e (X j).env) :: starEach [] (X j).env := by intro _; rfl) :
    VE Γ X E (.Call (.Name "tuple" p) [e] [] pos) (fun env => bnd (f env) fun p => bnd (rgD p) fun ds => ret (.tup ds)) := by
  obtain ⟨t, q, d⟩ := h.ex
  exact ⟨_, fun j => pe_tupRg (g.calm j) (hg j) (hm j) (q j) (na j), fun sa => de_tupRg (d sa)⟩
abbrev rList (K : PySem.W.Frag) : List V → Hp → VK → Prop := fun xs H Q => ∃ p ys, xs = [.ref p] ∧ (SqL K H p ys ∨ SqT K H p ys) ∧ ∀ l, H l = none → Q (.ref l) (upd H l (.lst ys))
abbrev rTuple (K : PySem.W.Frag) : List V → Hp → VK → Prop := fun xs H Q => ∃ p ys, xs = [.ref p] ∧ ((SqL K H p ys ∧ ∀ l, H l = none → Q (.ref l) (upd H l (.tup ys))) ∨ (SqT K H p ys ∧ Q (.ref p) H))
theorem cr_listOf (g : GX Γ X k E) : ∀ j, CallR (X j) (.type "list") (rList Γ.K) := fun j => g.K j ▸ call_list_of
theorem cr_tupleOf (g : GX Γ X k E) : ∀ j, CallR (X j) (.type "tuple") (rTuple Γ.K) := fun j => g.K j ▸ call_tuple_of
theorem vf_list {x : Str} {e : Expr} {f : Ev → Mo (List D)} {p pos : Pos} (g : GX Γ X k E) (hm : ∀ j, (X j).mg x = none) (ha : VA Γ X E [e] f) (hg : ∀ j, Gl (X j) x := by intro _; rfl) (hv : bootBuiltins x = some (.type "list") := by decide +kernel) (hn : x ≠ "__name__" := by decide) (hdb : (x == ("__debug__" : Str)) = false := by decide)
    (he : ∀ j, starEach [e] (X j).env = (false, eval e (X j).env) :: starEach [] (X j).env := by intro _; rfl) (hpl : ∀ j, (backTo pos (starEach [] (X j).env)).any (·.1) = false := by intro _; rfl) :
    VF Γ X E (.Call (.Name x p) [e] [] pos) (fun env => bnd (f env) listL) := by
  obtain ⟨t, q, d⟩ := ha.ex
  exact ⟨_, fun j => pe_callTy (cr_listOf g j) (hg j) (hm j) hv (q j) hn hdb (he j) (hpl j), fun sa => df_list (Γ := Γ.at sa) (d sa)⟩
theorem ve_tuple {x : Str} {e : Expr} {f : Ev → Mo (List D)} {p pos : Pos} (g : GX Γ X k E) (hm : ∀ j, (X j).mg x = none) (ha : VA Γ X E [e] f) (hg : ∀ j, Gl (X j) x := by intro _; rfl) (hv : bootBuiltins x = some (.type "tuple") := by decide +kernel) (hn : x ≠ "__name__" := by decide) (hdb : (x == ("__debug__" : Str)) = false := by decide)
    (he : ∀ j, starEach [e] (X j).env = (false, eval e (X j).env) :: starEach [] (X j).env := by intro _; rfl) (hpl : ∀ j, (backTo pos (starEach [] (X j).env)).any (·.1) = false := by intro _; rfl) :
    VE Γ X E (.Call (.Name x p) [e] [] pos) (opLD tupleD f) := ve_callTy (cr_tupleOf g) (fun sa => ol_tuple (Γ := Γ.at sa)) hm ha hg hv hn hdb he hpl
theorem vf_listOwn (i : Nat) {x y : Str} {p p2 pos : Pos} (g : GX Γ X k E) (hm : ∀ j, (X j).mg x = none) (hN : ∀ j, (X j).N[i]? = some y := by intro _; rfl)
    (hvs : ∀ j, Vis (X j).env.scope y := by first | exact fun _ => Or.inl rfl | exact fun _ => Or.inr (Or.inl rfl) | exact fun _ => Or.inr (Or.inr rfl)) (hd : (y == ("__debug__" : Str)) = false := by decide) (hcd : (y == ("__classdict__" : Str)) = false := by decide)
    (hg : ∀ j, Gl (X j) x := by intro _; rfl) (hv : bootBuiltins x = some (.type "list") := by decide +kernel) (hn : x ≠ "__name__" := by decide) (hdb : (x == ("__debug__" : Str)) = false := by decide)
    (he : ∀ j, starEach [.Name y p2] (X j).env = (false, eval (.Name y p2) (X j).env) :: starEach [] (X j).env := by intro _; rfl) (hpl : ∀ j, (backTo pos (starEach [] (X j).env)).any (·.1) = false := by intro _; rfl) :
    VF Γ X E (.Call (.Name x p) [.Name y p2] [] pos) (ownD i) :=
  ⟨_, fun j => pe_callTy (cr_listOf g j) (hg j) (hm j) hv (pa_cons (pe_var (hN j) (hvs j) hd hcd) pa_nil (he j)) hn hdb (he j) (hpl j), fun sa => df_listOwn (Γ := Γ.at sa) i⟩
theorem ve_tupleOwn (i : Nat) {x y : Str} {p p2 pos : Pos} (g : GX Γ X k E) (hm : ∀ j, (X j).mg x = none) (hN : ∀ j, (X j).N[i]? = some y := by intro _; rfl)
    (hvs : ∀ j, Vis (X j).env.scope y := by first | exact fun _ => Or.inl rfl | exact fun _ => Or.inr (Or.inl rfl) | exact fun _ => Or.inr (Or.inr rfl)) (hd : (y == ("__debug__" : Str)) = false := by decide) (hcd : (y == ("__classdict__" : Str)) = false := by decide)
    (hg : ∀ j, Gl (X j) x := by intro _; rfl) (hv : bootBuiltins x = some (.type "tuple") := by decide +kernel) (hn : x ≠ "__name__" := by decide) (hdb : (x == ("__debug__" : Str)) = false := by decide)
    (he : ∀ j, starEach [.Name y p2] (X j).env = (false, eval (.Name y p2) (X j).env) :: starEach [] (X j).env := by intro _; rfl) (hpl : ∀ j, (backTo pos (starEach [] (X j).env)).any (·.1) = false := by intro _; rfl) :
    VE Γ X E (.Call (.Name x p) [.Name y p2] [] pos) (fun env => bnd (ownD i env) fun ds => ret (.tup ds)) :=
  ⟨_, fun j => pe_callTy (cr_tupleOf g j) (hg j) (hm j) hv (pa_cons (pe_var (hN j) (hvs j) hd hcd) pa_nil (he j)) hn hdb (he j) (hpl j), fun sa => de_tupleOwn (Γ := Γ.at sa) i⟩
/-! own slots read for flat values -/
theorem ve_frz (i : Nat) {e : Expr} {f : Ev → Mo D} (h : VE Γ X E e f) : VE Γ X E e (fun env => bnd (nox (f (frz i env))) flatM) := by
  obtain ⟨t, p, d⟩ := h.ex
  exact ⟨t, p, fun sa => de_frz i (d sa)⟩
theorem vt_frz (i : Nat) {e : Expr} {f : Ev → Mo Bool} (h : VT Γ X E e f) : VT Γ X E e (fun env => nox (f (frz i env))) := by
  obtain ⟨t, p, d⟩ := h.ex
  exact ⟨t, p, fun sa => dt_frz i (d sa)⟩
/-! statements -/
theorem vb_nil : VB Γ X E [] nextS := ⟨_, fun _ => pss_nil, fun _ => ds_next⟩
theorem vb_cons {s : Stmt} {r : List Stmt} {f g : Ev → Mo Fl} (h : VS Γ X E s f) (q : VB Γ X E r g) : VB Γ X E (s :: r) (seqS f g) := by
  obtain ⟨t, p, d⟩ := h.ex
  obtain ⟨u, p2, d2⟩ := q.ex
  exact ⟨_, fun j => pss_cons (p j) (p2 j), fun sa => ds_seq (d sa) (d2 sa)⟩
theorem vb_one {s : Stmt} {f : Ev → Mo Fl} (h : VS Γ X E s f) : VB Γ X E [s] f := by
  obtain ⟨t, p, d⟩ := h.ex
  exact ⟨t, fun j => pss_one (p j), d⟩
theorem vb_frz (i : Nat) {r : List Stmt} {f : Ev → Mo Fl} (h : VB Γ X E r f) : VB Γ X E r (fun env => f (frz i env)) := by
  obtain ⟨t, p, d⟩ := h.ex
  exact ⟨t, p, fun sa => ds_frz i (d sa)⟩
theorem vs_frz (i : Nat) {r : Stmt} {f : Ev → Mo Fl} (h : VS Γ X E r f) : VS Γ X E r (fun env => f (frz i env)) := by
  obtain ⟨t, p, d⟩ := h.ex
  exact ⟨t, p, fun sa => ds_frz i (d sa)⟩
theorem vs_pass {pos : Pos} : VS Γ X E (.Pass pos) nextS := ⟨_, fun _ => ps_pass, fun _ => ds_next⟩
theorem vs_break {pos : Pos} : VS Γ X E (.Break pos) breakS := ⟨_, fun _ => ps_break, fun _ => ds_break⟩
theorem vs_cont {pos : Pos} : VS Γ X E (.Continue pos) contS := ⟨_, fun _ => ps_continue, fun _ => ds_cont⟩
theorem vs_ret {e : Expr} {f : Ev → Mo D} {pos : Pos} (h : VE Γ X E e f) : VS Γ X E (.Return (some e) pos) (retS f) := by
  obtain ⟨t, p, d⟩ := h.ex
  exact ⟨_, fun j => ps_ret (p j), fun sa => ds_ret (d sa)⟩
theorem vs_retN {pos : Pos} : VS Γ X E (.Return none pos) retNS := ⟨_, fun _ => ps_retN, fun _ => ds_retN⟩
theorem vs_expr {e : Expr} {f : Ev → Mo D} {pos : Pos} (h : VE Γ X E e f) (hs : ∀ j, swapsWith e none pos.line (X j).env = pure false := by intro _; rfl) : VS Γ X E (.Expr e pos) (exprS f) := by
  obtain ⟨t, p, d⟩ := h.ex
  exact ⟨_, fun j => ps_expr (p j) (hs j), fun sa => ds_expr (d sa)⟩
theorem vs_if {c : Expr} {a b : List Stmt} {fc : Ev → Mo Bool} {f g : Ev → Mo Fl} {pos : Pos} (hc : VT Γ X E c fc) (ha : VB Γ X E a f) (hb : VB Γ X E b g) : VS Γ X E (.If c a b pos) (ifS fc f g) := by
  obtain ⟨t, p, d⟩ := hc.ex
  obtain ⟨ta, pa, da⟩ := ha.ex
  obtain ⟨tb, pb, db⟩ := hb.ex
  exact ⟨_, fun j => ps_if (p j) (pa j) (pb j), fun sa => ds_if (d sa) (da sa) (db sa)⟩
theorem vs_asg {tg e : Expr} {f : Ev → Mo D} {h : D → Option (List D)} {js : List Nat} {pos : Pos} (he : VE Γ X E e f) (hg : VG Γ X tg h js) (hs : ∀ j, swapsWithSole [tg] e pos.line (X j).env = pure false := by intro _; rfl)
    (hw : ∀ j, swappedStores [tg] e (X j).env = pure none := by intro _; rfl) (h1 : ∀ j, (assignEach [tg] (X j).env).map (·.2) = [assign tg (X j).env] := by intro _; rfl) : VS Γ X E (.Assign [tg] e pos) (asgS f h js) := by
  obtain ⟨t, p, d⟩ := he.ex
  obtain ⟨u, p2, d2⟩ := hg.ex
  exact ⟨_, fun j => ps_asg (p j) (p2 j) (hs j) (hw j) (h1 j), fun sa => ds_asg (d sa) (d2 sa)⟩
theorem vs_set (i : Nat) {x : Str} {e : Expr} {f : Ev → Mo D} {pos pos' : Pos} (g : GX Γ X k E) (he : VE Γ X E e f) (hi : ∀ j, (X j).N[i]? = some x := by intro _; rfl) (hx : ∀ j, Loc (X j).env.scope x := by first | exact fun _ => Or.inl rfl | exact fun _ => Or.inr rfl)
    (hs : ∀ j, swapsWith e (some (.Name x pos')) pos.line (X j).env = pure false := by intro _; rfl) (hf : ∀ j, (X j).fn x = true ∨ (X j).env.scope.names.lookup x = some .local := by first | exact fun _ => .inl rfl | exact fun _ => .inr rfl) :
    VS Γ X E (.Assign [.Name x pos'] e pos) (setS i f) := by
  obtain ⟨t, p, d⟩ := he.ex
  exact ⟨_, fun j => ps_set (g.nd j) (hi j) (hx j) (p j) (hs j) (hf j), fun sa => ds_set (d sa)⟩
theorem vs_setOwn (i : Nat) {x : Str} {e : Expr} {f : Ev → Mo (List D)} {pos pos' : Pos} (g : GX Γ X k E) (he : VF Γ X E e f) (hi : ∀ j, (X j).N[i]? = some x := by intro _; rfl) (hx : ∀ j, Loc (X j).env.scope x := by first | exact fun _ => Or.inl rfl | exact fun _ => Or.inr rfl)
    (hs : ∀ j, swapsWith e (some (.Name x pos')) pos.line (X j).env = pure false := by intro _; rfl) (hf : ∀ j, (X j).fn x = true ∨ (X j).env.scope.names.lookup x = some .local := by first | exact fun _ => .inl rfl | exact fun _ => .inr rfl) :
    VS Γ X E (.Assign [.Name x pos'] e pos) (setOwnS i f) := by
  obtain ⟨t, p, d⟩ := he.ex
  exact ⟨_, fun j => ps_set (g.nd j) (hi j) (hx j) (p j) (hs j) (hf j), fun sa => ds_setOwn (d sa)⟩
structure VF2 {ι : Type} (Γ : Gx) (X : ι → Cx) (E : XK) (e : Expr) (f : Ev → Mo (List (List D))) : Prop where
  ex : ∃ t, (∀ i, PE (X i) e t) ∧ ∀ sa, DF2 (Γ.at sa) E t f
theorem vf_lc2 {elt tg iter : Expr} {scope : Scope} {own : List (Str × Nat)} {pos : Pos} {fi : Ev → Mo (List D)} {h : D → Option (List D)} {js : List Nat} {fe : Ev → Mo (List D)} (g : GX Γ X k E) (hi : VI Γ X E tg iter fi)
    (ok : ∀ j, BlkOk (X j).N (X j).env.scope scope own) (hg : VG Γ (blkF X scope) tg h js) (he : VF Γ (blkF X scope) E0 elt fe) (hv : ∀ j ∈ js, j ∈ own.map (·.2) := by decide)
    (hs : ∀ j x, foldedSetIterable iter (X j).env x = pure x := by intro _ _; rfl) : VF2 Γ X E (.ListComp elt [⟨tg, iter, [], 0⟩] scope pos) (compD2 fi h js fe (own.map (·.2))) := by
  obtain ⟨wi, pi, di⟩ := hi.ex
  obtain ⟨tg', pg, dg⟩ := hg.ex
  obtain ⟨te, pe, de⟩ := he.ex
  exact ⟨_, fun j => pe_lc (g.calm j) (g.nd j) (pi j) (ok j) (fun s H C cl fp => pg (j, s, H, C, cl, fp)) (fun s H C cl fp => pts_nil) (fun s H C cl fp => pe (j, s, H, C, cl, fp)) (hs j),
    fun sa => df_lc2 (di sa) (dg sa) (de sa) hv⟩
theorem vs_setOwn2 (i : Nat) {x : Str} {e : Expr} {f : Ev → Mo (List (List D))} {pos pos' : Pos} (g : GX Γ X k E) (he : VF2 Γ X E e f) (hi : ∀ j, (X j).N[i]? = some x := by intro _; rfl) (hx : ∀ j, Loc (X j).env.scope x := by first | exact fun _ => Or.inl rfl | exact fun _ => Or.inr rfl)
    (hs : ∀ j, swapsWith e (some (.Name x pos')) pos.line (X j).env = pure false := by intro _; rfl) (hf : ∀ j, (X j).fn x = true ∨ (X j).env.scope.names.lookup x = some .local := by first | exact fun _ => .inl rfl | exact fun _ => .inr rfl) :
    VS Γ X E (.Assign [.Name x pos'] e pos) (setOwn2S i f) := by
  obtain ⟨t, p, d⟩ := he.ex
  exact ⟨_, fun j => ps_set (g.nd j) (hi j) (hx j) (p j) (hs j) (hf j), fun sa => ds_setOwn2 (d sa)⟩
theorem vs_for {tg iter : Expr} {body : List Stmt} {fi : Ev → Mo (List D)} {h : D → Option (List D)} {js : List Nat} {fb : Ev → Mo Fl} {pos : Pos} (g : GX Γ X k E) (hi : VI Γ X E tg iter fi) (hg : VG Γ X tg h js) (hb : VB Γ X E body fb)
    (hs : ∀ j x, foldedSetIterable iter (X j).env x = pure x := by intro _ _; rfl) : VS Γ X E (.For tg iter body [] pos) (forS fi h js fb) := by
  obtain ⟨wi, pi, di⟩ := hi.ex
  obtain ⟨tg', pg, dg⟩ := hg.ex
  obtain ⟨tb, pb, db⟩ := hb.ex
  exact ⟨_, fun j => ps_for (g.pass j) (g.calm j) (pi j) (pg j) (pb j) (hs j), fun sa => ds_for (di sa) (dg sa) (db sa)⟩
theorem vs_while (n : Nat) {c : Expr} {body : List Stmt} {fc : Ev → Mo Bool} {fb : Ev → Mo Fl} {pos : Pos} (g : GX Γ X k E) (hc : VT Γ X E c fc) (hb : VB Γ X E body fb) : VS Γ X E (.While c body [] pos) (whileD fc fb n) := by
  obtain ⟨t, p, d⟩ := hc.ex
  obtain ⟨tb, pb, db⟩ := hb.ex
  exact ⟨_, fun j => ps_while (g.pass j) (p j) (pb j), fun sa => ds_while n (d sa) (db sa)⟩
/-- xs.append(e), xs an own slot -/
theorem vs_append (i : Nat) {x : Str} {e : Expr} {f : Ev → Mo D} {p p2 pos spos : Pos} (g : GX Γ X k E) (he : VE Γ X E e f) (hN : ∀ j, (X j).N[i]? = some x := by intro _; rfl)
    (hvs : ∀ j, Vis (X j).env.scope x := by first | exact fun _ => Or.inl rfl | exact fun _ => Or.inr (Or.inl rfl) | exact fun _ => Or.inr (Or.inr rfl)) (hd : (x == ("__debug__" : Str)) = false := by decide) (hcd : (x == ("__classdict__" : Str)) = false := by decide)
    (hbase : ∀ j, attributeBase (.Name x p) "append" (X j).env (eval (.Name x p) (X j).env) = eval (.Name x p) (X j).env := by intro _; rfl)
    (hfew : ∀ j, ((backTo pos (starEach [e] (X j).env)).all (fun x => !x.1) && (backToKw pos (keywordEach [] (X j).env)).all (fun x => x.1.isSome)
      && decide ([e].length + ([] : List Keyword).length + (if ([] : List Keyword).isEmpty then 0 else 1) < 30)) = true := by intro _; rfl)
    (hline : (p2.endLine == pos.line) = true := by rfl) (hst : ∀ j, starEach [e] (X j).env = (false, eval e (X j).env) :: starEach [] (X j).env := by intro _; rfl) (hplain : ∀ j, (backTo pos (starEach [] (X j).env)).any (·.1) = false := by intro _; rfl)
    (hs : ∀ j, swapsWith (.Call (.Attribute (.Name x p) "append" p2) [e] [] pos) none spos.line (X j).env = pure false := by intro _; rfl) : VS Γ X E (.Expr (.Call (.Attribute (.Name x p) "append" p2) [e] [] pos) spos) (appendS i f) := by
  obtain ⟨t, q, d⟩ := he.ex
  exact ⟨tDrop (tBM Γ.K "list" rAppend (tVar i) (tCons t tNil)), fun j => g.K j ▸ ps_expr (pe_bm PySem.F.plainAttrs_list PySem.F.slot_list_append PySem.F.type_list_append mt_append (pe_var (hN j) (hvs j) hd hcd) (pa_cons (q j) pa_nil (hst j)) (hbase j) (hfew j) hline (hst j) (hplain j)) (hs j),
    fun sa => ds_append (Γ := Γ.at sa) (d sa)⟩
/-- xs[j] = e, xs an own slot -/
theorem vs_setIx (i : Nat) {x : Str} {e ix : Expr} {f fj : Ev → Mo D} {p tp pos : Pos} (g : GX Γ X k E) (he : VE Γ X E e f) (hix : VE Γ X E ix fj)
    (hp : ∀ j u, PE (X j) ix u → PG (X j) (.Subscript (.Name x p) ix tp) (gSub (tVar i) u rSetL) := by intro _ _ h; first | exact pg_sub (pe_var rfl (Or.inl rfl)) h set_list | exact pg_sub (pe_var rfl (Or.inr (Or.inl rfl))) h set_list | exact pg_sub (pe_var rfl (Or.inr (Or.inr rfl))) h set_list)
    (hs : ∀ j, swapsWithSole [.Subscript (.Name x p) ix tp] e pos.line (X j).env = pure false := by intro _; rfl) (hw : ∀ j, swappedStores [.Subscript (.Name x p) ix tp] e (X j).env = pure none := by intro _; rfl)
    (h1 : ∀ j, (assignEach [.Subscript (.Name x p) ix tp] (X j).env).map (·.2) = [assign (.Subscript (.Name x p) ix tp) (X j).env] := by intro _; rfl) :
    VS Γ X E (.Assign [.Subscript (.Name x p) ix tp] e pos) (setIxS i f fj) := by
  obtain ⟨t, q, d⟩ := he.ex
  obtain ⟨u, q2, d2⟩ := hix.ex
  exact ⟨_, fun j => ps_asg (q j) (hp j u (q2 j)) (hs j) (hw j) (h1 j), fun sa => ds_setIx (d sa) (d2 sa)⟩
/-- xs[i][j] = e -/
theorem vs_setIx2 (i : Nat) {x : Str} {e ia ib : Expr} {f fa fb : Ev → Mo D} {p p2 tp pos : Pos} (g : GX Γ X k E) (he : VE Γ X E e f) (ha : VE Γ X E ia fa) (hb : VE Γ X E ib fb)
    (hp : ∀ j u v, PE (X j) ia u → PE (X j) ib v → PG (X j) (.Subscript (.Subscript (.Name x p) ia p2) ib tp) (gSub (tOp (rIx (X j).K) (tVar i) u) v rSetL) := by
      intro _ _ _ h q
      first | exact pg_sub (pe_ix ix_seq (pe_var rfl (Or.inl rfl)) h (fun _ _ => rfl)) q set_list | exact pg_sub (pe_ix ix_seq (pe_var rfl (Or.inr (Or.inl rfl))) h (fun _ _ => rfl)) q set_list | exact pg_sub (pe_ix ix_seq (pe_var rfl (Or.inr (Or.inr rfl))) h (fun _ _ => rfl)) q set_list)
    (hs : ∀ j, swapsWithSole [.Subscript (.Subscript (.Name x p) ia p2) ib tp] e pos.line (X j).env = pure false := by intro _; rfl) (hw : ∀ j, swappedStores [.Subscript (.Subscript (.Name x p) ia p2) ib tp] e (X j).env = pure none := by intro _; rfl)
    (h1 : ∀ j, (assignEach [.Subscript (.Subscript (.Name x p) ia p2) ib tp] (X j).env).map (·.2) = [assign (.Subscript (.Subscript (.Name x p) ia p2) ib tp) (X j).env] := by intro _; rfl) :
    VS Γ X E (.Assign [.Subscript (.Subscript (.Name x p) ia p2) ib tp] e pos) (setIx2S i f fa fb) := by
  obtain ⟨t, q, d⟩ := he.ex
  obtain ⟨u, q2, d2⟩ := ha.ex
  obtain ⟨v, q3, d3⟩ := hb.ex
  exact ⟨tAsg t (gSub (tOp (rIx Γ.K) (tVar i) u) v rSetL), fun j => g.K j ▸ ps_asg (q j) (hp j u v (q2 j) (q3 j)) (hs j) (hw j) (h1 j), fun sa => ds_setIx2 (Γ := Γ.at sa) (d sa) (d2 sa) (d3 sa)⟩
/-- xs.append(ys.pop(e)) -/
theorem vs_appPop (i j : Nat) {x y : Str} {e : Expr} {f : Ev → Mo D} {p p2 pos q1 q2 qpos spos : Pos} (g : GX Γ X k E) (he : VE Γ X E e f)
    (hp : ∀ l u, PE (X l) e u → PE (X l) (.Call (.Attribute (.Name x p) "append" p2) [.Call (.Attribute (.Name y q1) "pop" q2) [e] [] qpos] [] pos) (tBM (X l).K "list" rAppend (tVar i) (tCons (tBM (X l).K "list" rPopAt (tVar j) (tCons u tNil)) tNil)) := by
      intro _ _ h
      exact pe_bm PySem.F.plainAttrs_list PySem.F.slot_list_append PySem.F.type_list_append mt_append (pe_var rfl (by first | exact Or.inl rfl | exact Or.inr (Or.inl rfl))) (pa_cons (pe_bm PySem.F.plainAttrs_list PySem.F.slot_list_pop PySem.F.type_list_pop mt_popAt (pe_var rfl (by first | exact Or.inl rfl | exact Or.inr (Or.inl rfl))) (pa_cons h pa_nil)) pa_nil))
    (hs : ∀ l, swapsWith (.Call (.Attribute (.Name x p) "append" p2) [.Call (.Attribute (.Name y q1) "pop" q2) [e] [] qpos] [] pos) none spos.line (X l).env = pure false := by intro _; rfl) :
    VS Γ X E (.Expr (.Call (.Attribute (.Name x p) "append" p2) [.Call (.Attribute (.Name y q1) "pop" q2) [e] [] qpos] [] pos) spos) (appPopS i j f) := by
  obtain ⟨t, q, d⟩ := he.ex
  exact ⟨tDrop (tBM Γ.K "list" rAppend (tVar i) (tCons (tBM Γ.K "list" rPopAt (tVar j) (tCons t tNil)) tNil)), fun l => g.K l ▸ ps_expr (hp l t (q l)) (hs l), fun sa => ds_appPop (Γ := Γ.at sa) (d sa)⟩
end

/-! ### a def keeps its promise -/
def runD (n : Nat) (s : Ev → Mo Fl) : List D → Mo D := fun ds => bnd (s (ds.map Sl.val ++ List.replicate (n - ds.length) Sl.no)) fun o => match o with
  | .nx _ => ret .non
  | .rt d => ret d
  | _ => bad
theorem start_rep {Γ : Gx} {M : Addr → Prop} {H : Hp} {s : S} {n : Nat} {vs : List V} {ds : List D} (ok : HpOk Γ M H s) (r : Reps Γ (msk M H) vs ds) {N : List Str} (hn : N.length = n) (hl : ds.length ≤ n) :
    RepS Γ H M [] (fun _ => []) (L2.start N vs) (ds.map Sl.val ++ List.replicate (n - ds.length) Sl.no) H s := by
  have hvl := r.length
  have noown : ∀ (i : Nat) (sl : Sl), (ds.map Sl.val ++ List.replicate (n - ds.length) Sl.no)[i]? = some sl → isOwn sl = false := fun i sl h => by
    by_cases hi : i < ds.length
    · rw [List.getElem?_append_left (by rw [List.length_map]; exact hi), List.getElem?_map] at h
      cases e : ds[i]? with
      | none => rw [e] at h; cases h
      | some d => rw [e] at h; cases h; rfl
    · rw [List.getElem?_append_right (by rw [List.length_map]; omega)] at h
      rw [List.getElem?_replicate] at h
      split at h
      · cases h; rfl
      · cases h
  have eM : Mof M (fun _ => []) = M := by
    funext a
    unfold Mof
    exact propext ⟨fun h => h.elim id fun ⟨i, z⟩ => absurd z List.not_mem_nil, .inl⟩
  refine ⟨?_, .refl _ _, fun i a h => absurd h List.not_mem_nil, fun p hp => absurd hp List.not_mem_nil, ok.dom, Ms0.of ok⟩
  rw [eM]
  refine ⟨fun i d h => ?_, fun i sl h ho => (by rw [noown i sl h] at ho; cases ho), fun _ _ => rfl, fun i a h => absurd h List.not_mem_nil, fun _ => List.nodup_nil, fun i j a h => absurd h List.not_mem_nil, ok, ?_, fun i h => (by have hm := List.mem_of_getElem? h; simp [List.mem_append, List.mem_replicate] at hm)⟩
  · by_cases hi : i < ds.length
    · rw [List.getElem?_append_left (by rw [List.length_map]; exact hi), List.getElem?_map] at h
      cases e : ds[i]? with
      | none => rw [e] at h; cases h
      | some d0 =>
        rw [e] at h
        cases h
        obtain ⟨v, h1, h2⟩ := r.get e
        refine ⟨v, ?_, h2⟩
        unfold L2.start
        rw [List.getElem?_append_left (by rw [List.length_map, hvl]; exact hi), List.getElem?_map, h1]
        rfl
    · rw [List.getElem?_append_right (by rw [List.length_map]; omega), List.getElem?_replicate] at h
      split at h <;> cases h
  · unfold L2.start
    rw [List.length_append, List.length_append, List.length_map, List.length_map, List.length_replicate, List.length_replicate, hvl, hn]
section
variable {P : Program} {w : World} {K : PySem.W.Frag} {mg : Str → Option Value} {base : Heap} {Γ : Gx}
/-- the family of a def's entries -/
structure EntryT where
  cdv : Value
  A : Around
  outer : List Env
  s : Shared
  H : Hp
theorem fnD {x qual : Str} {st : Stmt} {f : Addr} {fd : FuncData} {N ps : List Str} {k : Nat} {n : Nat} {b : Ev → Mo Fl} (F : Fun K x qual st f fd) (S : FnScope N ps (defScope st)) (hK : Γ.K = K) (hn : N.length = n) (hp : ps.length ≤ n)
    (hb : ∀ (cdv : Value) (A : Around) (outer : List Env) (s : Shared) (H : Hp) (E : XK), Room k (A.deeper (envOfC qual (defScope st) s.heap.objs.size f cdv)) →
      GX Γ (fun _ : Unit => cxOf (L2.CX P w) P w K mg base N qual (defScope st) f cdv A outer s H E) k E → VB Γ (fun _ : Unit => cxOf (L2.CX P w) P w K mg base N qual (defScope st) f cdv A outer s H E) E (defBody st) b) :
    FnOk P w K mg base (L2.CX P w) (k + 1) f fd ps (spD Γ ps.length (runD n b)) := by
  refine F.okX S (fun vs H Q E h => h.1) fun cdv A outer s H vs Q E hr h => ?_
  obtain ⟨hl, sa, M, s0, ds, ok, r, post⟩ := h
  obtain ⟨t, pt, dt⟩ := (hb cdv A outer s H E hr ⟨fun _ => hK.symm, fun _ => rfl, fun _ => hr, fun _ => S.nd, fun _ => takes_of rfl rfl rfl rfl, fun _ => passes_of rfl⟩).ex
  refine ⟨t, pt (), ?_⟩
  have hds : ds.length = ps.length := r.length.symm.trans hl
  refine dt sa H M [] _ _ _ H s0 _ (start_rep ok r hn (by omega)) ?_
  unfold runD bnd at post
  cases e : b (ds.map Sl.val ++ List.replicate (n - ds.length) Sl.no) s0 with
  | bad => rw [e] at post; exact post
  | exc x s1 => rw [e] at post; exact post
  | ok o s1 =>
    rw [e] at post
    cases o with
    | nx env1 => exact fun O1 σ1 H1 r1 => post .non H1 r1.ext r1.x.ok.st .non
    | rt d => exact post
    | bk _ => exact post.elim
    | ct _ => exact post.elim
end
end G

namespace G
open PySem PySem.Spec PyProof.Rows L2

section
variable {ι : Type} {Γ : Gx} {X : ι → Cx} {E : XK} {k : Nat}
/-! ### built-ins by name -/
abbrev rLen (K : PySem.W.Frag) : List V → Hp → VK → Prop := fun xs H Q => ∃ x n, xs = [x] ∧ LenV K x H n ∧ Q (.int n) H
theorem cr_len (g : GX Γ X k E) : ∀ j, CallR (X j) (.builtin "len") (rLen Γ.K) := fun j => g.K j ▸ call_len
theorem cr_all' (g : GX Γ X k E) : ∀ j, CallR (X j) (.builtin "all") (rAll Γ.K) := fun j => g.K j ▸ cr_all (g.calm j)
theorem cr_any' (g : GX Γ X k E) : ∀ j, CallR (X j) (.builtin "any") (rAny Γ.K) := fun j => g.K j ▸ cr_any (g.calm j)
theorem cr_sortedI' (g : GX Γ X k E) : ∀ j, CallR (X j) (.builtin "sorted") (rSortedI Γ.K) := fun j => g.K j ▸ cr_sortedI
theorem cr_minL (g : GX Γ X k E) : ∀ j, CallR (X j) (.builtin "min") (rMin Γ.K) := fun j => g.K j ▸ cr_min (g.calm j)
theorem cr_isi (g : GX Γ X k E) : ∀ j, CallR (X j) (.builtin "isinstance") (rIsi Γ.K) := fun j => g.K j ▸ call_isi
theorem cr_isiT (g : GX Γ X k E) : ∀ j, CallR (X j) (.builtin "isinstance") (rIsiT Γ.K) := fun j => g.K j ▸ call_isiT
/-- min of a list of ints -/
def leastI : List Int → Int
  | [] => 0
  | [x] => x
  | x :: r => if x ≤ leastI r then x else leastI r
theorem leastI_mem : ∀ {l : List Int}, l ≠ [] → leastI l ∈ l
  | [], h => absurd rfl h
  | [x], _ => List.mem_cons_self
  | x :: y :: r, _ => by
    unfold leastI
    split
    · exact List.mem_cons_self
    · exact List.mem_cons_of_mem _ (leastI_mem (by simp))
theorem leastI_le : ∀ {l : List Int} {y : Int}, y ∈ l → leastI l ≤ y
  | [], _, h => by cases h
  | [x], y, h => by rw [List.mem_singleton.mp h]; exact Int.le_refl _
  | x :: z :: r, y, h => by
    unfold leastI
    rcases List.mem_cons.mp h with h | h
    · subst h
      split
      · exact Int.le_refl _
      · omega
    · have := leastI_le h
      split
      · omega
      · exact this
def minD : List D → Mo D
  | [.lst ds] => optM ((asInts ds).bind fun ns => if ns.length = 0 then none else some (D.int (leastI ns)))
  | _ => bad
theorem ol_minL {Γ : Gx} : OpL Γ E (rMin Γ.K) minD := fun M H s xs as ok r Q h => by
  cases r with
  | nil => exact h.elim
  | cons ra rt =>
    cases rt with
    | cons _ _ => cases ra <;> exact h.elim
    | nil =>
      cases ra with
      | lst e l r =>
        obtain ⟨d, hd, h⟩ := optM_post h
        cases hb : asInts _ with
        | none => rw [hb] at hd; cases hd
        | some ns =>
          rw [hb] at hd
          simp only [Option.bind] at hd
          split at hd
          · cases hd
          · rename_i hne
            cases hd
            have ev := asInts_reps r hb
            subst ev
            refine ⟨_, ns, rfl, .of (msk_get e), by omega, fun m hm hle => ?_⟩
            have hn : ns ≠ [] := fun z => hne (by rw [z]; rfl)
            have em : m = leastI ns := Int.le_antisymm (hle _ (leastI_mem hn)) (leastI_le hm)
            subst em
            exact h.here ok.st (.int _)
      | _ => exact h.elim

/-! isinstance of a built-in class, of several -/
def tyB : D → String → Option Bool
  | .non, T => if T = "NoneType" then some true else if T ∈ ["int", "bool", "str", "list", "tuple"] then some false else none
  | .bl _, T => if T = "bool" ∨ T = "int" then some true else if T ∈ ["str", "list", "tuple"] then some false else none
  | .int _, T => if T = "int" then some true else if T ∈ ["bool", "str", "list", "tuple"] then some false else none
  | .str _, T => if T = "str" then some true else if T ∈ ["int", "bool", "list", "tuple"] then some false else none
  | .lst _, T => if T = "list" then some true else if T ∈ ["int", "bool", "str", "tuple"] then some false else none
  | .tup _, T => if T = "tuple" then some true else if T ∈ ["int", "bool", "str", "list"] then some false else none
  | _, _ => none
def tyN : D → String
  | .non => "NoneType"
  | .bl _ => "bool"
  | .int _ => "int"
  | .str _ => "str"
  | .lst _ => "list"
  | .tup _ => "tuple"
  | _ => ""
theorem kit_tab : ∀ a ∈ ["NoneType", "bool", "int", "str", "list", "tuple"], ∀ b ∈ ["int", "bool", "str", "list", "tuple"], kitB a b = some (decide (a = b) || (decide (a = "bool") && decide (b = "int"))) := by decide +kernel
theorem tyB_kit {d : D} {T : String} {b : Bool} (hT : T ∈ ["int", "bool", "str", "list", "tuple"]) (h : tyB d T = some b) : kitB (tyN d) T = some b := by
  have ht := hT
  simp only [List.mem_cons, List.not_mem_nil, or_false] at hT
  cases d with
  | obj _ _ => cases h
  | dct _ _ => cases h
  | rng _ _ => cases h
  | dc2 _ _ => cases h
  | clo _ _ => cases h
  | st => cases h
  | _ =>
    rw [kit_tab _ (by simp [tyN]) T ht]
    rcases hT with rfl | rfl | rfl | rfl | rfl <;> simp [tyB, tyN] at h ⊢ <;> exact h
theorem rep_ty {Γ : Gx} {H : Hp} {v : V} {d : D} (r : Rep Γ H v d) {T : String} {b : Bool} (h : tyB d T = some b) : TyX Γ.K H v (.type (tyN d)) := by
  cases r with
  | non => exact .base .non
  | bl x => exact .base (.bl x)
  | int x => exact .base (.int x)
  | str x => exact .base (.str x)
  | lst e _ _ => exact .base (.lst e)
  | tup e _ _ => exact .base (.tup e)
  | obj _ _ _ => cases h
  | dct _ _ _ _ => cases h
  | rng _ => cases h
  | dc2 _ _ _ _ => cases h
  | clo _ _ _ _ _ _ _ => cases h
  | st => cases h
def isiD (T : String) (d : D) : Mo D := optM ((tyB d T).map D.bl)
theorem TyX.unmask {Γ : Gx} {M : Addr → Prop} {H : Hp} {v : V} {d : D} (r : Rep Γ (msk M H) v d) {T : String} {b : Bool} (h : tyB d T = some b) : TyX Γ.K H v (.type (tyN d)) := rep_ty r.unmask h
theorem de_isi {Γ : Gx} {T : String} (hT : T ∈ ["int", "bool", "str", "list", "tuple"]) {te : TE} {f : Ev → Mo D} (h : DE Γ E te f) : DE Γ E (tCB (rIsi Γ.K) (tCons te (tCons (tC (.ty T)) tNil))) (op1D (isiD T) f) := fun M O σ env H s x Q q => by
  have q : PostR Γ E M (RD Γ M) H (bnd (f env) (isiD T) s) Q := q
  refine h M O σ env H s x _ (PostR.bnd q fun d s1 v H1 e1 t1 r1 h1 => ?_)
  obtain ⟨b, hb, h1⟩ := optM_post h1
  cases hty : tyB d T with
  | none => rw [hty] at hb; cases hb
  | some c =>
    rw [hty] at hb
    cases hb
    exact ⟨v, .ty T, .type (tyN d), .type T, c, rfl, .ty T, TyX.unmask r1 hty, kit_ty (tyB_kit hT hty), h1.here t1 (.bl _)⟩
theorem ve_isi {T : String} {x y : Str} {e : Expr} {f : Ev → Mo D} {p p2 pos : Pos} (g : GX Γ X k E) (hT : T ∈ ["int", "bool", "str", "list", "tuple"]) (hm : ∀ j, (X j).mg x = none) (hmy : ∀ j, (X j).mg y = none) (he : VE Γ X E e f)
    (hy : bootBuiltins y = some (.type T) := by decide +kernel) (hny : y ≠ "__name__" := by decide) (hdy : (y == ("__debug__" : Str)) = false := by decide) (hgy : ∀ j, Gl (X j) y := by intro _; rfl)
    (hg : ∀ j, Gl (X j) x := by intro _; rfl) (hv : bootBuiltins x = some (.builtin "isinstance") := by decide +kernel) (hn : x ≠ "__name__" := by decide) (hdb : (x == ("__debug__" : Str)) = false := by decide)
    (h1 : ∀ j, starEach [.Name y p2] (X j).env = (false, eval (.Name y p2) (X j).env) :: starEach [] (X j).env := by intro _; rfl)
    (hs : ∀ j, starEach [e, .Name y p2] (X j).env = (false, eval e (X j).env) :: starEach [.Name y p2] (X j).env := by intro _; rfl) (hpl : ∀ j, (backTo pos (starEach [.Name y p2] (X j).env)).any (·.1) = false := by intro _; rfl) :
    VE Γ X E (.Call (.Name x p) [e, .Name y p2] [] pos) (op1D (isiD T) f) := by
  obtain ⟨t, q, d⟩ := he.ex
  exact ⟨_, fun j => pe_callB (cr_isi g j) (hg j) (hm j) hv (pa_cons (q j) (pa_cons (pe_bltn (v := .ty T) (hgy j) (hmy j) hy rfl hny hdy) pa_nil (h1 j)) (hs j)) hn hdb (hs j) (hpl j), fun sa => de_isi (Γ := Γ.at sa) hT (d sa)⟩
/-- isinstance(x, (T, U)) -/
def isi2D (T U : String) (d : D) : Mo D := optM (match tyB d T with
  | some true => some (D.bl true)
  | some false => (tyB d U).map D.bl
  | none => none)
theorem de_isi2 {Γ : Gx} {T U : String} (hT : T ∈ ["int", "bool", "str", "list", "tuple"]) (hU : U ∈ ["int", "bool", "str", "list", "tuple"]) {te : TE} {f : Ev → Mo D} (h : DE Γ E te f) :
    DE Γ E (tCB (rIsiT Γ.K) (tCons te (tCons (tTup (tCons (tC (.ty T)) (tCons (tC (.ty U)) tNil))) tNil))) (op1D (isi2D T U) f) := fun M O σ env H s x Q q => by
  have q : PostR Γ E M (RD Γ M) H (bnd (f env) (isi2D T U) s) Q := q
  refine h M O σ env H s x _ (PostR.bnd q fun d s1 v H1 e1 t1 r1 h1 => ?_)
  obtain ⟨b, hb, h1⟩ := optM_post h1
  have ok1 := x.ok.ext e1 t1
  refine ⟨by show 2 ≤ sizeLine; decide, fun p np => ?_⟩
  have paired : Paired ClsV [.ty T, .ty U] [.type T, .type U] := .cons (.ty T) (.cons (.ty U) .nil)
  have fin : ∀ c, b = D.bl c → Q (.bl c) (upd H1 p (.tup [.ty T, .ty U])) := fun c e => by
    subst e
    exact h1 _ _ (Ext.new np) (ok1.newSt np) (.bl _)
  have r1' := ok1.rep (Ext.new (o := .tup [.ty T, .ty U]) np) r1
  cases hty : tyB d T with
  | none => rw [hty] at hb; cases hb
  | some c =>
    rw [hty] at hb
    cases c with
    | true =>
      cases hb
      exact ⟨v, p, [.ty T, .ty U], .type (tyN d), [.type T, .type U], true, rfl, upd_same, paired, TyX.unmask r1' hty, kitAny_cons (kit_ty (tyB_kit hT hty)) (fun z => by cases z) (fun _ => rfl), fin true rfl⟩
    | false =>
      cases hty2 : tyB d U with
      | none => rw [hty2] at hb; cases hb
      | some c2 =>
        rw [hty2] at hb
        cases hb
        exact ⟨v, p, [.ty T, .ty U], .type (tyN d), [.type T, .type U], c2, rfl, upd_same, paired, TyX.unmask r1' hty,
          kitAny_cons (kit_ty (tyB_kit hT hty)) (fun _ => kitAny_cons (kit_ty (tyB_kit hU hty2)) (fun z => by rw [z]; exact kitAny_nil) (fun z => z)) (fun z => by cases z), fin c2 rfl⟩
theorem ve_isi2 {T U : String} {x y z : Str} {e : Expr} {f : Ev → Mo D} {p p2 p3 pt pos : Pos} {x1} (g : GX Γ X k E) (hT : T ∈ ["int", "bool", "str", "list", "tuple"]) (hU : U ∈ ["int", "bool", "str", "list", "tuple"]) (hm : ∀ j, (X j).mg x = none) (hmy : ∀ j, (X j).mg y = none) (hmz : ∀ j, (X j).mg z = none) (he : VE Γ X E e f)
    (hy : bootBuiltins y = some (.type T) := by decide +kernel) (hny : y ≠ "__name__" := by decide) (hdy : (y == ("__debug__" : Str)) = false := by decide) (hgy : ∀ j, Gl (X j) y := by intro _; rfl)
    (hz : bootBuiltins z = some (.type U) := by decide +kernel) (hnz : z ≠ "__name__" := by decide) (hdz : (z == ("__debug__" : Str)) = false := by decide) (hgz : ∀ j, Gl (X j) z := by intro _; rfl)
    (hg : ∀ j, Gl (X j) x := by intro _; rfl) (hv : bootBuiltins x = some (.builtin "isinstance") := by decide +kernel) (hn : x ≠ "__name__" := by decide) (hdb : (x == ("__debug__" : Str)) = false := by decide)
    (h1 : ∀ j, starEach [.Name z p3] (X j).env = (false, eval (.Name z p3) (X j).env) :: starEach [] (X j).env := by intro _; rfl) (h2 : ∀ j, starEach [.Name y p2, .Name z p3] (X j).env = (false, eval (.Name y p2) (X j).env) :: starEach [.Name z p3] (X j).env := by intro _; rfl)
    (h3 : ∀ j, starEach [.Tuple [.Name y p2, .Name z p3] x1 pt] (X j).env = (false, eval (.Tuple [.Name y p2, .Name z p3] x1 pt) (X j).env) :: starEach [] (X j).env := by intro _; rfl)
    (hs : ∀ j, starEach [e, .Tuple [.Name y p2, .Name z p3] x1 pt] (X j).env = (false, eval e (X j).env) :: starEach [.Tuple [.Name y p2, .Name z p3] x1 pt] (X j).env := by intro _; rfl)
    (hpl : ∀ j, (backTo pos (starEach [.Tuple [.Name y p2, .Name z p3] x1 pt] (X j).env)).any (·.1) = false := by intro _; rfl) :
    VE Γ X E (.Call (.Name x p) [e, .Tuple [.Name y p2, .Name z p3] x1 pt] [] pos) (op1D (isi2D T U) f) := by
  obtain ⟨t, q, d⟩ := he.ex
  exact ⟨_, fun j => pe_callB (cr_isiT g j) (hg j) (hm j) hv (pa_cons (q j) (pa_cons (pe_tup (pa_cons (pe_bltn (v := .ty T) (hgy j) (hmy j) hy rfl hny hdy) (pa_cons (pe_bltn (v := .ty U) (hgz j) (hmz j) hz rfl hnz hdz) pa_nil (h1 j)) (h2 j))) pa_nil (h3 j)) (hs j)) hn hdb (hs j) (hpl j),
    fun sa => de_isi2 (Γ := Γ.at sa) hT hU (d sa)⟩

/-! ### slices -/
def DO (Γ : Gx) (E : XK) (t : TO) (f : Ev → Mo (Option Int)) : Prop := ∀ M O σ env H s, RepX Γ M O σ env H s → ∀ (Q : Option Int → Hp → Prop), PostR Γ E M (fun (v : Option Int) (_ : Hp) d => v = d) H (f env s) Q → t σ H Q
structure VO {ι : Type} (Γ : Gx) (X : ι → Cx) (E : XK) (e : Option Expr) (f : Ev → Mo (Option Int)) : Prop where
  ex : ∃ t, (∀ i, PO (X i) e t) ∧ ∀ sa, DO (Γ.at sa) E t f
def noO : Ev → Mo (Option Int) := fun _ => ret none
def someO (f : Ev → Mo D) : Ev → Mo (Option Int) := fun env => bnd (f env) fun d => bnd (asInt d) fun i => ret (some i)
theorem vo_none : VO Γ X E none noO := ⟨_, fun _ => po_none, fun sa M O σ env H s x Q q => q.here x.ok.st rfl⟩
theorem vo_some {e : Expr} {f : Ev → Mo D} (h : VE Γ X E e f) : VO Γ X E (some e) (someO f) := by
  obtain ⟨t, p, d⟩ := h.ex
  refine ⟨_, fun j => po_some (p j), fun sa M O σ env H s x Q q => ?_⟩
  refine d sa M O σ env H s x _ (PostR.bnd q fun d s1 v H1 e1 t1 r1 h1 => ?_)
  cases r1 with
  | int i => exact ⟨i, rfl, h1.here t1 rfl⟩
  | _ => exact h1.elim
def cutL (ds : List D) (lo hi : Option Int) : List D := (ds.drop (HT.sIx ds.length 0 lo)).take (HT.sIx ds.length ds.length hi - HT.sIx ds.length 0 lo)
def sliceD (d : D) (lo hi : Option Int) : Mo D := match d with
  | .lst ds => ret (.lst (cutL ds lo hi))
  | .tup ds => ret (.tup (cutL ds lo hi))
  | .str z => if z.length ≤ cap then ret (.str (cutS z lo hi)) else bad
  | _ => bad
def sliceE (f : Ev → Mo D) (l h : Ev → Mo (Option Int)) : Ev → Mo D := fun env => bnd (f env) fun d => bnd (l env) fun a => bnd (h env) fun b => sliceD d a b
theorem cut_rep {Γ : Gx} {H : Hp} {vs : List V} {ds : List D} (r : Reps Γ H vs ds) (lo hi : Option Int) : Reps Γ H (cutV vs lo hi) (cutL ds lo hi) := by
  unfold cutV cutL
  rw [r.length]
  exact (r.drop _).take _
abbrev rSlAll (K : PySem.W.Frag) : V → Option Int → Option Int → Hp → VK → Prop := fun x lo hi H Q => rSlL K x lo hi H Q ∨ rSlA K x lo hi H Q ∨ rSlS x lo hi H Q
theorem sl_all {Y : Cx} : SlR Y (rSlAll Y.K) := sl_list.or (sl_tupA.or sl_str)
theorem whole_cut {ds : List D} {lo hi : Option Int} (h : HT.sIx ds.length 0 lo = 0 ∧ HT.sIx ds.length ds.length hi = ds.length) : cutL ds lo hi = ds := by
  unfold cutL
  rw [h.1, h.2, List.drop_zero, Nat.sub_zero, List.take_length]
theorem ve_slice {e : Expr} {lo hi : Option Expr} {f : Ev → Mo D} {l h : Ev → Mo (Option Int)} {p2 pos : Pos} (g : GX Γ X k E) (he : VE Γ X E e f) (hl : VO Γ X E lo l) (hh : VO Γ X E hi h) : VE Γ X E (.Subscript e (.Slice lo hi none p2) pos) (sliceE f l h) := by
  obtain ⟨t, p, d⟩ := he.ex
  obtain ⟨u, p2, d2⟩ := hl.ex
  obtain ⟨w, p3, d3⟩ := hh.ex
  refine ⟨tSl (rSlAll Γ.K) t u w, fun j => g.K j ▸ pe_slice sl_all (p j) (p2 j) (p3 j), fun sa M O σ env H s x Q q => ?_⟩
  refine d sa M O σ env H s x _ (PostR.bnd q fun a s1 v H1 e1 t1 r1 h1 => ?_)
  have x1 := x.ext e1 t1
  refine d2 sa M O σ env H1 s1 x1 _ (PostR.bnd h1 fun a2 s2 lo' H2 e2 t2 r2 h2 => ?_)
  subst r2
  have x2 := x1.ext e2 t2
  refine d3 sa M O σ env H2 s2 x2 _ (PostR.bnd h2 fun a3 s3 hi' H3 e3 t3 r3 h3 => ?_)
  subst r3
  have x3 := x2.ext e3 t3
  have r := x2.ok.rep e3 (x1.ok.rep e2 r1)
  cases r with
  | lst e l r => exact .inl ⟨_, _, rfl, .of (msk_get e), fun p np => h3 _ _ (Ext.new np) (x3.ok.newSt np) (x3.ok.lstNew np (Nat.le_trans (cutV_length _ _ _) l) (cut_rep r _ _))⟩
  | tup e l r =>
    refine .inr (.inl ⟨_, _, rfl, .of (msk_get e), fun z => ?_, fun z p np => h3 _ _ (Ext.new np) (x3.ok.newSt np) (x3.ok.tupNew np (Nat.le_trans (cutV_length _ _ _) l) (cut_rep r _ _))⟩)
    have h3 : PostR (Γ.at sa) E M (RD (Γ.at sa) M) H3 (ret (.tup (cutL _ lo' hi')) s3) Q := h3
    rw [r.length] at z
    rw [whole_cut z] at h3
    exact h3.here t3 (.tup e l r)
  | str z =>
    simp only [sliceD] at h3
    split at h3
    · rename_i hc
      exact .inr (.inr ⟨z, rfl, cap_line hc, h3.here t3 (.str _)⟩)
    · exact h3.elim
  | _ => exact h3.elim

/-! ### walks over a list or a tuple -/
def overS (f : Ev → Mo D) : Ev → Mo (List D) := fun env => bnd (f env) fun d => match d with
  | .lst ds => ret ds
  | .tup ds => ret ds
  | _ => bad
def iSeq (K : PySem.W.Frag) (tl : TE) : TI := fun σ H R => tl σ H fun x H1 => ∃ a, x = .ref a ∧ (((∃ xs, SqL K H1 a xs) ∧ R (Itl K a) H1) ∨ ((∃ xs, SqT K H1 a xs) ∧ R (Itt K a) H1))
theorem pi_seq {Y : Cx} {tg l : Expr} {tl : TE} (hl : PE Y l tl) : PI Y tg l (iSeq Y.K tl) := by
  refine ⟨fun pins s σ H R I h => thn (hl.run pins s σ H _ I h) fun v s1 ⟨x, H1, I1, r1, a, e, q1⟩ => ?_⟩
  subst e; cases r1
  have fp : ∀ b ∈ [s1.heap.objs.size], FpOk Y pins H1 b := fun b hb => by rw [List.mem_singleton.mp hb]; exact I1.fpOk (Nat.le_refl _) (I1.hok.fresh (Nat.le_refl _))
  rcases q1 with ⟨⟨xs, hq⟩, q⟩ | ⟨⟨xs, hq⟩, q⟩
  · obtain ⟨its, rv, p, hz⟩ := I1.list hq
    exact wpAny_pyIter_list p.isList ⟨_, [s1.heap.objs.size], _, _, H1, rfl, I1.kept (t' := s1.toks) fun b o e => Heap.get?_push_of_some _ e, turn_list a _, ⟨_, Heap.get?_push_size _ rfl, rfl, rfl⟩, fp, q⟩
  · obtain ⟨its, rv, p, hz⟩ := I1.tuple hq
    exact wpAny_pyIter_tuple (show s1.heap.IsTuple a its.toArray from p) ⟨_, [s1.heap.objs.size], _, _, H1, rfl, I1.kept (t' := s1.toks) fun b o e => Heap.get?_push_of_some _ e, turn_tuple a _, ⟨_, Heap.get?_push_size _ rfl, rfl, rfl⟩, fp, q⟩
theorem vi_seq {tg e : Expr} {f : Ev → Mo D} (g : GX Γ X k E) (h : VE Γ X E e f) : VI Γ X E tg e (overS f) := by
  obtain ⟨t, p, d⟩ := h.ex
  refine ⟨iSeq Γ.K t, fun j => g.K j ▸ pi_seq (p j), fun sa M O σ env H s x R q => ?_⟩
  refine d sa M O σ env H s x _ (PostR.bnd q fun a s1 v H1 e1 t1 r1 h1 => ?_)
  cases id r1 with
  | lst e l r => exact ⟨_, rfl, .inl ⟨⟨_, .of (msk_get e)⟩, h1.here t1 ⟨_, _, r1, it_list (by rw [← r.length]; exact l)⟩⟩⟩
  | tup e l r => exact ⟨_, rfl, .inr ⟨⟨_, .of (msk_get e)⟩, h1.here t1 ⟨_, _, r1, it_tup (by rw [← r.length]; exact l)⟩⟩⟩
  | _ => exact h1.elim
end
end G

namespace G
open PySem PySem.Spec PyProof.Rows L2

/-! ### xs.index(e), any data -/
def findI (p : D → Bool) : Nat → List D → Option Nat
  | _, [] => none
  | i, d :: r => if p d then some i else findI p (i + 1) r
theorem findI_some {p : D → Bool} : ∀ {i j : Nat} {ds : List D}, findI p i ds = some j → i ≤ j ∧ (∃ d, ds[j - i]? = some d ∧ p d = true) ∧ ∀ m d, m < j - i → ds[m]? = some d → p d = false
  | i, j, [], h => by cases h
  | i, j, d :: r, h => by
    unfold findI at h
    split at h
    · rename_i hp
      cases h
      exact ⟨Nat.le_refl _, ⟨d, by simp, hp⟩, fun m d' hm => by omega⟩
    · rename_i hp
      obtain ⟨h1, ⟨d', h2, h3⟩, h4⟩ := findI_some h
      have e : j - i = (j - (i + 1)) + 1 := by omega
      refine ⟨by omega, ⟨d', by rw [e, List.getElem?_cons_succ]; exact h2, h3⟩, fun m d2 hm hd => ?_⟩
      cases m with
      | zero => cases hd; exact Bool.eq_false_iff.mpr hp
      | succ m => exact h4 m d2 (by omega) hd
def indexL (ds : List D) (x : D) : Mo D := if okD (.lst ds) && okD x then optM ((findI (fun d => eqB d x) 0 ds).map fun j => D.int (j : Nat)) else bad
def indexE (fa fb : Ev → Mo D) : Ev → Mo D := fun env => bnd (fa env) fun a => bnd (asLst a) fun ds => bnd (fb env) fun b => indexL ds b
theorem toPys_get {ds : List D} {j : Nat} : (toPys ds)[j]? = (ds[j]?).map toPy := by rw [toPys_map, List.getElem?_map]
section
variable {ι : Type} {Γ : Gx} {X : ι → Cx} {E : XK} {k : Nat}
theorem ve_index {x : Str} {a b : Expr} {fa fb : Ev → Mo D} {p2 pos : Pos} (g : GX Γ X k E) (ha : VE Γ X E a fa) (hb : VE Γ X E b fb) (hx : x = "index" := by rfl)
    (hp : ∀ j u v, (X j).A.units + 65 < cLine → PE (X j) a u → PE (X j) b v → PE (X j) (.Call (.Attribute a x p2) [b] [] pos) (tBM (X j).K "list" (rIndexD (X j).K) u (tCons v tNil)) := by
      intro j _ _ hu h q; exact pe_bm PySem.F.plainAttrs_list PySem.F.slot_list_index PySem.F.type_list_index (mt_indexD hu) h (pa_cons q pa_nil)) :
    VE Γ X E (.Call (.Attribute a x p2) [b] [] pos) (indexE fa fb) := by
  obtain ⟨u, p, d⟩ := ha.ex
  obtain ⟨v, q, d2⟩ := hb.ex
  refine ⟨tBM Γ.K "list" (rIndexD Γ.K) u (tCons v tNil), fun j => g.K j ▸ hp j u v (units65 (g.room j)) (p j) (q j), fun sa M O σ env H s x Q h => ?_⟩
  refine d sa M O σ env H s x _ (PostR.bnd h fun da s1 va H1 e1 t1 r1 h1 => ?_)
  have x1 := x.ext e1 t1
  cases id r1 with
  | @lst ad vs ds e l r =>
    rw [show asLst (.lst ds) = ret ds from rfl, bnd_ret] at h1
    refine ⟨.inl ⟨rfl, _, .of (msk_get e)⟩, ?_⟩
    refine d2 sa M O σ env H1 s1 x1 _ (PostR.bnd h1 fun db s2 vb H2 e2 t2 r2 h2 => ?_)
    unfold indexL at h2
    split at h2
    · rename_i hk
      obtain ⟨dj, hj, h2⟩ := optM_post h2
      cases hf : findI (fun d => eqB d db) 0 ds with
      | none => rw [hf] at hj; cases hj
      | some j =>
        rw [hf] at hj
        cases hj
        obtain ⟨_, ⟨dz, hz, hzt⟩, hno⟩ := findI_some hf
        simp only [okD, Bool.and_eq_true] at hk
        obtain ⟨⟨p1, s1'⟩, p2, s2'⟩ := hk
        rw [Nat.sub_zero] at hz hno
        have dl : Dp Γ.K H2 (.ref ad) (toPy (.lst ds)) := ((x1.ok.rep e2 r1).unmask).dp p1
        refine ⟨ad, vb, toPy db, toPys ds, j, toPy dz, rfl, rfl, dl, r2.unmask.dp p2, s1', s2', by rw [toPys_get, hz]; rfl, hzt, fun m z' hm hz' => ?_, h2.here t2 (.int _)⟩
        rw [toPys_get] at hz'
        cases hm' : ds[m]? with
        | none => rw [hm'] at hz'; cases hz'
        | some dm =>
          rw [hm'] at hz'
          cases hz'
          exact hno m dm hm hm'
    · exact h2.elim
  | _ => exact h1.elim

/-! ### enumerate of a list or a tuple -/
set_option maxHeartbeats 1000000 in
theorem enum_new {v : Value} {o : Obj} {H : Heap → Prop} (B : Begins v o H) :
    Meets (Builtin.«enumerate.__new__» ⟨[.type "enumerate", v], []⟩) (fun _ R s => H s.heap ∧
      R (.ok (.ret (.ref (s.heap.push o).objs.size))) { s with heap := (s.heap.push o).push { cls := .type "enumerate", data := .fields #[.none, .bool false, .ref s.heap.objs.size, rawInt 0, .none, .none] } }) :=
  .of_wp fun prog w A R s h => by
    obtain ⟨hp, g, d, tk, os⟩ := s; obtain ⟨h1, h⟩ := h
    have hsub := sub_enumerate
    have q1 : ∀ {A' : Around} {E : Value → Shared → Prop} {Q : Value → Shared → Prop}, Q (.ref hp.objs.size) ⟨hp.push o, g, d, tk, os⟩ → wpAny (model prog w) A' (pyIter v) Q E ⟨hp, g, d, tk, os⟩ := fun q => B.iter prog w _ _ ⟨hp, g, d, tk, os⟩ _ h1 q
    wp_walk using q1
    refine wpAny_stack_any fun st => wpAny_pure ?_
    split
    · rename_i c _ _ _ _ _
      cases (c == Value.type "enumerate") <;> (wp_walk using q1; exact ⟨_, rfl, h⟩)
    · wp_walk using q1; exact ⟨_, rfl, h⟩
end
theorem enum_begins1 {prog : Program} {w : World} {A : Around} {E : Value → Shared → Prop} {s : Shared} {v : Value} {o : Obj} {H : Heap → Prop} {Q : Value → Shared → Prop} (B : Begins v o H) (h1 : H s.heap)
    (h : ∀ h', IsEnum h' (s.heap.objs.size + 1) s.heap.objs.size 0 .none → h'.get? s.heap.objs.size = some o → h'.objs.size = s.heap.objs.size + 2 →
      (∀ b o, s.heap.get? b = some o → h'.get? b = some o) → Q (.ref (s.heap.objs.size + 1)) { s with heap := h' }) : wpAny (model prog w) A (call (.type "enumerate") [v]) Q E s := by
  refine callType_new F.called_enumerate (by decide) (F.typeCall_enumerate_1 _) (F.newCall_enumerate_1 _) (fun obj => F.args_object_init_2 obj _) F.entry_enumerate_new (enum_new B) ⟨h1, ?_⟩
  have hz : (s.heap.push o).objs.size = s.heap.objs.size + 1 := Heap.size_push ..
  show _ ∧ _
  rw [hz]
  have he : IsEnum ((s.heap.push o).push { cls := .type "enumerate", data := .fields #[.none, .bool false, .ref s.heap.objs.size, rawInt 0, .none, .none] }) (s.heap.objs.size + 1) s.heap.objs.size 0 .none := by
    have := Heap.get?_push_size (s.heap.push o) (o := { cls := .type "enumerate", data := .fields #[.none, .bool false, .ref s.heap.objs.size, rawInt 0, .none, .none] }) rfl
    rw [hz] at this; exact this
  refine ⟨⟨_, he, rfl⟩, h _ he (Heap.get?_push_of_some _ (Heap.get?_push_size _ B.free)) (by rw [Heap.size_push, hz]) fun b o x => Heap.get?_push_of_some _ (Heap.get?_push_of_some _ x)⟩
/-- a tuple as it stands, each item in a new pair -/
def IteT (K : PySem.W.Frag) (a : Addr) (n : Nat) : It :=
  ⟨fun i H => ∃ (xs : List V) (x : V), SqT K H a xs ∧ xs.length = n ∧ xs[i]? = some x, fun i H v H' => ∃ T x, v = .ref T ∧ H T = none ∧ H' = upd H T (.tup [.int (i : Nat), x]) ∧ ∀ xs, SqT K H a xs → xs[i]? = some x, fun i H => ∃ xs : List V, SqT K H a xs ∧ xs.length = n ∧ n ≤ i⟩
theorem turn_enumT {P : Program} {w : World} {K : PySem.W.Frag} {elts : List Expr} {kk : Nat} {tpos : Pos} (a e it : Addr) (n : Nat) (hai : a ≠ it) (hae : a ≠ e) :
    Turn P w K (.Tuple elts kk tpos) (IteT K a n) [e, it] e (fun i h => (∃ old, IsEnum h e it ((i : Nat) : Int) old) ∧ h.IsTupleIter it a i ∧ e ≠ it ∧ i ≤ n) where
  mem := by simp
  obj := fun i h st b hb => by
    obtain ⟨⟨old, he⟩, ⟨o, ho, hc, hd⟩, _⟩ := st
    rcases (by simpa using hb : b = e ∨ b = it) with z | z
    · rw [z]; exact ⟨_, he, fun v q => nomatch q⟩
    · rw [z]; exact ⟨o, ho, fun v q => by rw [hd] at q; cases q⟩
  keep := fun i h h' st k => let ⟨⟨old, he⟩, hi, hne, hl⟩ := st; ⟨⟨old, k e (by simp) _ he⟩, hi.at fun o q => k it (by simp) o q, hne, hl⟩
  item := by
    intro X hP hw hK hc i pins s σ H E I hf st hg
    subst hP hw hK
    obtain ⟨⟨old, he⟩, hit, hne, _⟩ := st
    obtain ⟨xs, x, hq, hxl, hx⟩ := hg
    obtain ⟨its, rv, p, hz⟩ := I.tuple hq
    obtain ⟨u, hu, ru⟩ := rv.get hx
    have hel : e < s.heap.objs.size := Heap.lt_size he
    have hil : it < s.heap.objs.size := by obtain ⟨_, q, _⟩ := hit; exact Heap.lt_size q
    have hi : i < its.toArray.size := by
      have := (List.getElem?_eq_some_iff.mp hu).1
      simpa using this
    have D := Draws.tuple (prog := X.prog) (w := X.w) (A := X.A.in1) (I.ok.hd hc) it a hai its.toArray
    refine wpAny_pyNext_enum_itemD D he ⟨hit, show s.heap.IsTuple a its.toArray from p⟩ hi hne (by simp [hne, hae.symm]) fun y h' tk hy ho hst hT hsz hk => ?_
    have ey : y = u := by
      have : its.toArray[i]? = some u := by simpa using hu
      exact Option.some.inj (hy.symm.trans this)
    subst ey
    refine ⟨_, rfl, wpAny_letOwnedTupleGo_enum (s := { s with heap := h', toks := tk + 1 }) ho fun h'' he' sb => ?_⟩
    have hT2 : h''.get? s.heap.objs.size = some { cls := .type "tuple", data := .seq #[.int i tk, y] } := (sb.2 _ (Nat.ne_of_gt hel)).trans hT
    have new : ObjOk X.prog X.w (upd H s.heap.objs.size (.tup [.int (i : Nat), x])) h'' s.heap.objs.size (.tup [.int (i : Nat), x]) :=
      ⟨by show 2 ≤ sizeLine; decide, [.int i tk, y], .cons ⟨_, rfl⟩ (.cons ru .nil), ⟨_, hT2, rfl, _, rfl⟩⟩
    have I1 : Inv X pins σ (upd H s.heap.objs.size (.tup [.int (i : Nat), x])) { s with heap := h'', toks := tk + 1 } :=
      I.turnedNew (ch := [e, it]) (fun b ob hb q => (sb.2 b (fun z => hb (by simp [z]))).trans (hk b ob (fun z => hb (by simp [z])) (fun z => hb (by simp [z])) q)) hf (Nat.le_refl _) new
    refine ⟨.ref s.heap.objs.size, _, I1, rfl, ⟨_, x, rfl, I.hok.fresh (Nat.le_refl _), rfl, fun ys hy => by rw [I.tuple_inj hy hq]; exact hx⟩, ⟨⟨y, ?_⟩, hst.1.at fun o q => (sb.2 it (Ne.symm hne)).trans q, hne, by have := (List.getElem?_eq_some_iff.mp hx).1; omega⟩, fun b hb => ?_⟩
    · have e1 : ((i + 1 : Nat) : Int) = (i : Int) + 1 := by omega
      rw [e1]; exact he'
    · have hb' : b < s.heap.objs.size := by
        rcases (by simpa using hb : b = e ∨ b = it) with z | z
        · rw [z]; exact hel
        · rw [z]; exact hil
      rw [upd_ne (Nat.ne_of_lt hb')]
      exact (hf b hb).1
  done := by
    intro X hP hw hK hc i pins s σ H E I hf st hg
    subst hP hw hK
    obtain ⟨⟨old, he⟩, hit, hne, hle⟩ := st
    obtain ⟨xs, hq, hxl, hx⟩ := hg
    obtain ⟨its, rv, p, hz⟩ := I.tuple hq
    obtain ⟨f0, f1, f2, f3, f4, f5⟩ := hf it (by simp)
    have hl := rv.length
    have ei : i = its.toArray.size := by rw [List.size_toArray]; omega
    have D := Draws.tuple (prog := X.prog) (w := X.w) (A := X.A.in1) (I.ok.hd hc) it a hai its.toArray
    refine wpAny_pyNext_enum_endD D he ⟨ei ▸ hit, show s.heap.IsTuple a its.toArray from p⟩ fun h' eb => ⟨rfl, I.turned (t' := s.toks) (fun b o hb q => eb b o hb q) f0 f1 f3 f4 f5⟩
  self := fun A i s Q E st h => let ⟨⟨_, he⟩, _⟩ := st; wpAny_pyIter_enum he h
def iEnumS (K : PySem.W.Frag) (ta : TA) : TI := fun σ H R => ta σ H fun vs H1 => ∃ a, vs = [.ref a] ∧ ((∃ xs, SqL K H1 a xs ∧ R (Ite K a) H1) ∨ ∃ xs, SqT K H1 a xs ∧ R (IteT K a xs.length) H1)
theorem pi_enumS {X : Cx} {e : Expr} {ta : TA} {p pos tpos : Pos} {elts : List Expr} {kk : Nat} (hg : Gl X "enumerate") (hm : X.mg "enumerate" = none) (ha : PA X [e] ta) (hs : starEach [e] X.env = [(false, eval e X.env)] := by rfl) :
    PI X (.Tuple elts kk tpos) (.Call (.Name "enumerate" p) [e] [] pos) (iEnumS X.K ta) := by
  refine ⟨fun pins s σ H R I h => ?_⟩
  refine Call_ (ld_blt I hg hm boot_enumerate (PyProof.Rows.callWith_type1 (thn (ha.run pos pins s σ H _ I h) fun us s1 ⟨vs, H1, I1, r1, a, ex, q1⟩ => ?_) hs rfl))
  · subst ex
    cases r1 with
    | cons r rr =>
      cases rr
      cases r
      have near : ∀ b ∈ [s1.heap.objs.size + 1, s1.heap.objs.size], FpOk X pins H1 b := fun b hb => by
        have hle : s1.heap.objs.size ≤ b := by
          rcases (by simpa using hb : b = s1.heap.objs.size + 1 ∨ b = s1.heap.objs.size) with z | z <;> rw [z]
          · exact Nat.le_add_right _ _
          · exact Nat.le_refl _
        exact I1.fpOk hle (I1.hok.fresh hle)
      rcases q1 with ⟨xs, hq, q⟩ | ⟨xs, hq, q⟩
      · obtain ⟨its, rv, p', hz⟩ := I1.list hq
        refine call_enumerate_list p'.isList fun h' he hit hsz hk => wpAny_pyIter_enum he ?_
        exact ⟨s1.heap.objs.size + 1, [s1.heap.objs.size + 1, s1.heap.objs.size], _, _, H1, rfl, I1.kept (t' := s1.toks) hk, turn_enum a _ _, ⟨⟨.none, he⟩, hit, Nat.succ_ne_self _⟩, near, q⟩
      · obtain ⟨its, rv, p', hz⟩ := I1.tuple hq
        have ha := p'.lt
        refine enum_begins1 (begins_tuple a its.toArray) (show s1.heap.IsTuple a its.toArray from p') fun h' he ho hsz hk => wpAny_pyIter_enum he ?_
        exact ⟨s1.heap.objs.size + 1, [s1.heap.objs.size + 1, s1.heap.objs.size], _, _, H1, rfl, I1.kept (t' := s1.toks) hk, turn_enumT a _ _ xs.length (Nat.ne_of_lt ha) (Nat.ne_of_lt (Nat.lt_succ_of_lt ha)), ⟨⟨.none, he⟩, ⟨_, ho, rfl, rfl⟩, Nat.succ_ne_self _, Nat.zero_le _⟩, near, q⟩
section
variable {ι : Type} {Γ : Gx} {X : ι → Cx} {E : XK} {k : Nat}
def overE (f : Ev → Mo D) : Ev → Mo (List D) := fun env => bnd (f env) fun d => match d with
  | .lst ds => ret (enumL 0 ds)
  | .tup ds => ret (enumL 0 ds)
  | _ => bad
theorem it_enumT {Γ : Gx} {a : Addr} {ds : List D} (l : ds.length ≤ sizeLine) : ItOk Γ (IteT Γ.K a ds.length) (.ref a) (.tup ds) (enumL 0 ds) := ⟨by rw [enumL_length]; exact l, fun M H s ok r i => by
  cases r with
  | tup e l2 r =>
    refine ⟨fun d hd => ?_, fun hi => ⟨_, .of (msk_get e), r.length, by rw [enumL_length] at hi; exact hi⟩⟩
    rw [enumL_get] at hd
    cases hdi : ds[i]? with
    | none => rw [hdi] at hd; cases hd
    | some d0 =>
      rw [hdi] at hd
      cases hd
      obtain ⟨v, hv, rv⟩ := r.get hdi
      refine ⟨⟨_, v, .of (msk_get e), r.length, hv⟩, fun x H' y => ?_⟩
      obtain ⟨T, x0, rfl, nT, rfl, y⟩ := y
      have ex : x0 = v := Option.some.inj ((y _ (.of (msk_get e))).symm.trans hv)
      subst ex
      exact ⟨Ext.new nT, ok.newSt nT, ok.tupNew (vs := [.int (i : Nat), x0]) (ds := [.int ((0 + i : Nat) : Int), d0]) nT (by show 2 ≤ sizeLine; decide) (.cons (by rw [Nat.zero_add]; exact .int _) (.cons rv .nil))⟩⟩
theorem vi_enumS {elts : List Expr} {kk : Nat} {tpos : Pos} {e : Expr} {f : Ev → Mo D} {p pos : Pos} (g : GX Γ X k E) (hm : ∀ j, (X j).mg "enumerate" = none) (h : VE Γ X E e f) (hg : ∀ j, Gl (X j) "enumerate" := by intro _; rfl)
    (hs : ∀ j, starEach [e] (X j).env = [(false, eval e (X j).env)] := by intro _; rfl) (hs2 : ∀ j, starEach [e] (X j).env = (false, eval e (X j).env) :: starEach [] (X j).env := by intro _; rfl) : VI Γ X E (.Tuple elts kk tpos) (.Call (.Name "enumerate" p) [e] [] pos) (overE f) := by
  obtain ⟨t, q, d⟩ := h.ex
  refine ⟨iEnumS Γ.K (tCons t tNil), fun j => g.K j ▸ pi_enumS (hg j) (hm j) (pa_cons (q j) pa_nil (hs2 j)) (hs j), fun sa M O σ env H s x R q => ?_⟩
  refine d sa M O σ env H s x _ (PostR.bnd q fun a s1 v H1 e1 t1 r1 h1 => ?_)
  cases id r1 with
  | lst e l r => exact ⟨_, rfl, .inl ⟨_, .of (msk_get e), h1.here t1 ⟨_, _, r1, it_enum (by rw [← r.length]; exact l)⟩⟩⟩
  | @tup a vs ds e l r =>
    refine ⟨a, rfl, .inr ⟨vs, .of (msk_get e), ?_⟩⟩
    rw [r.length]
    exact h1.here t1 ⟨_, _, r1, it_enumT (by rw [← r.length]; exact l)⟩
  | _ => exact h1.elim
/-! x = [..] on one line -/
theorem vs_setLc (i : Nat) {y : Str} {py : Pos} {elt tg iter : Expr} {ifs : List Expr} {scope : Scope} {own : List (Str × Nat)} {pos spos : Pos} {fi : Ev → Mo (List D)} {h : D → Option (List D)} {js : List Nat} {ft : Ev → Mo Bool} {fe : Ev → Mo D} (g : GX Γ X k E) (hi : VI Γ X E tg iter fi)
    (ok : ∀ j, BlkOk (X j).N (X j).env.scope scope own) (hg : VG Γ (blkF X scope) tg h js) (ht : VTs Γ (blkF X scope) E0 ifs ft) (he : VE Γ (blkF X scope) E0 elt fe) (hy : ∀ j, (X j).N[i]? = some y := by intro _; rfl) (hyl : ∀ j, (X j).env.scope.names.lookup y = some .local := by intro _; rfl)
    (hsw : ∀ j, swapsWith (.ListComp elt [⟨tg, iter, ifs, 0⟩] scope pos) (some (.Name y py)) spos.line (X j).env = pure true := by intro _; exact sw_true rfl rfl rfl (by decide +kernel)) (hv : ∀ j ∈ js, j ∈ own.map (·.2) := by decide)
    (hs : ∀ j x, foldedSetIterable iter (X j).env x = pure x := by intro _ _; rfl) : VS Γ X E (.Assign [.Name y py] (.ListComp elt [⟨tg, iter, ifs, 0⟩] scope pos) spos) (setS i (asL (compD fi h js ft fe (own.map (·.2))))) := by
  obtain ⟨wi, pi, di⟩ := hi.ex
  obtain ⟨tg', pg, dg⟩ := hg.ex
  obtain ⟨tt, pt, dt⟩ := ht.ex
  obtain ⟨te, pe, de⟩ := he.ex
  exact ⟨_, fun j => ps_setLc (g.calm j) (g.nd j) (hy j) (hyl j) (hsw j) (pi j) (ok j) (fun s H C cl fp => pg (j, s, H, C, cl, fp)) (fun s H C cl fp => pt (j, s, H, C, cl, fp)) (fun s H C cl fp => pe (j, s, H, C, cl, fp)) (hs j),
    fun sa => ds_set (de_new (df_lc (di sa) (dg sa) (dt sa) (de sa) hv))⟩
theorem vs_setOwnLc (i : Nat) {y : Str} {py : Pos} {elt tg iter : Expr} {ifs : List Expr} {scope : Scope} {own : List (Str × Nat)} {pos spos : Pos} {fi : Ev → Mo (List D)} {h : D → Option (List D)} {js : List Nat} {ft : Ev → Mo Bool} {fe : Ev → Mo D} (g : GX Γ X k E) (hi : VI Γ X E tg iter fi)
    (ok : ∀ j, BlkOk (X j).N (X j).env.scope scope own) (hg : VG Γ (blkF X scope) tg h js) (ht : VTs Γ (blkF X scope) E0 ifs ft) (he : VE Γ (blkF X scope) E0 elt fe) (hy : ∀ j, (X j).N[i]? = some y := by intro _; rfl) (hyl : ∀ j, (X j).env.scope.names.lookup y = some .local := by intro _; rfl)
    (hsw : ∀ j, swapsWith (.ListComp elt [⟨tg, iter, ifs, 0⟩] scope pos) (some (.Name y py)) spos.line (X j).env = pure true := by intro _; exact sw_true rfl rfl rfl (by decide +kernel)) (hv : ∀ j ∈ js, j ∈ own.map (·.2) := by decide)
    (hs : ∀ j x, foldedSetIterable iter (X j).env x = pure x := by intro _ _; rfl) : VS Γ X E (.Assign [.Name y py] (.ListComp elt [⟨tg, iter, ifs, 0⟩] scope pos) spos) (setOwnS i (compD fi h js ft fe (own.map (·.2)))) := by
  obtain ⟨wi, pi, di⟩ := hi.ex
  obtain ⟨tg', pg, dg⟩ := hg.ex
  obtain ⟨tt, pt, dt⟩ := ht.ex
  obtain ⟨te, pe, de⟩ := he.ex
  exact ⟨_, fun j => ps_setLc (g.calm j) (g.nd j) (hy j) (hyl j) (hsw j) (pi j) (ok j) (fun s H C cl fp => pg (j, s, H, C, cl, fp)) (fun s H C cl fp => pt (j, s, H, C, cl, fp)) (fun s H C cl fp => pe (j, s, H, C, cl, fp)) (hs j),
    fun sa => ds_setOwn (df_lc (di sa) (dg sa) (dt sa) (de sa) hv)⟩
theorem vs_setOwn2Lc (i : Nat) {y : Str} {py : Pos} {elt tg iter : Expr} {scope : Scope} {own : List (Str × Nat)} {pos spos : Pos} {fi : Ev → Mo (List D)} {h : D → Option (List D)} {js : List Nat} {fe : Ev → Mo (List D)} (g : GX Γ X k E) (hi : VI Γ X E tg iter fi)
    (ok : ∀ j, BlkOk (X j).N (X j).env.scope scope own) (hg : VG Γ (blkF X scope) tg h js) (he : VF Γ (blkF X scope) E0 elt fe) (hy : ∀ j, (X j).N[i]? = some y := by intro _; rfl) (hyl : ∀ j, (X j).env.scope.names.lookup y = some .local := by intro _; rfl)
    (hsw : ∀ j, swapsWith (.ListComp elt [⟨tg, iter, [], 0⟩] scope pos) (some (.Name y py)) spos.line (X j).env = pure true := by intro _; exact sw_true rfl rfl rfl (by decide +kernel)) (hv : ∀ j ∈ js, j ∈ own.map (·.2) := by decide)
    (hs : ∀ j x, foldedSetIterable iter (X j).env x = pure x := by intro _ _; rfl) : VS Γ X E (.Assign [.Name y py] (.ListComp elt [⟨tg, iter, [], 0⟩] scope pos) spos) (setOwn2S i (compD2 fi h js fe (own.map (·.2)))) := by
  obtain ⟨wi, pi, di⟩ := hi.ex
  obtain ⟨tg', pg, dg⟩ := hg.ex
  obtain ⟨te, pe, de⟩ := he.ex
  exact ⟨_, fun j => ps_setLc (g.calm j) (g.nd j) (hy j) (hyl j) (hsw j) (pi j) (ok j) (fun s H C cl fp => pg (j, s, H, C, cl, fp)) (fun s H C cl fp => pts_nil) (fun s H C cl fp => pe (j, s, H, C, cl, fp)) (hs j),
    fun sa => ds_setOwn2 (df_lc2 (di sa) (dg sa) (de sa) hv)⟩
end
end G

namespace G
open PySem PySem.Spec PyProof.Rows L2

/-! ### objects -/
theorem ne_of_none' {H : Hp} {a b : Addr} {o : HO} (h : H a = some o) (n : H b = none) : b ≠ a := fun z => by rw [z, h] at n; cases n
section
variable {ι : Type} {Γ : Gx} {X : ι → Cx} {E : XK} {k : Nat}
theorem vs_never {st : Stmt} : VS Γ X E st (fun _ => bad) := ⟨tNever, fun _ => ps_never, fun _ H0 M0 Gs O σ env H s N r h => (show False from h).elim⟩
/-- what the program's class with the number c is -/
structure ClsF (Γ : Gx) (c : Nat) : Prop where
  cls : Cls Γ.K (Γ.cl c)
  no : ∀ f ∈ fns c, NoAttr Γ.K (Γ.cl c) f
theorem zip_lookup {Γ : Gx} {H : Hp} {f : Str} {d : D} : ∀ {ns : List Str} {vs : List V} {ds : List D}, Reps Γ H vs ds → (ns.zip ds).lookup f = some d → ∃ v, (ns.zip vs).lookup f = some v ∧ Rep Γ H v d
  | [], _, _, _, h => by cases h
  | _ :: _, _, _, .nil, h => by cases h
  | n :: ns, _, _, .cons (v := v) (vs := vs) (d := e) (ds := ds) a b, h => by
    rw [List.zip_cons_cons, List.lookup_cons] at h
    rw [List.zip_cons_cons, List.lookup_cons]
    by_cases hn : (f == n) = true
    · rw [hn] at h ⊢
      cases h
      exact ⟨_, rfl, a⟩
    · rw [Bool.eq_false_iff.mpr hn] at h ⊢
      exact zip_lookup b h
theorem zip_none {α : Type} {f : Str} : ∀ {ns : List Str} {vs : List α}, f ∉ ns → (ns.zip vs).lookup f = none
  | [], _, _ => by simp
  | _ :: _, [], _ => by simp
  | n :: ns, v :: vs, h => by
    rw [List.zip_cons_cons, List.lookup_cons]
    have : (f == n) = false := by
      apply Bool.eq_false_iff.mpr
      intro z
      exact h (by rw [eq_of_beq z]; exact List.mem_cons_self)
    rw [this]
    exact zip_none fun z => h (List.mem_cons_of_mem _ z)
/-- x.f of an object -/
def fldD (c : Nat) (f : Str) : D → Mo D
  | .obj b ds => if b = c ∧ f ∈ fns c then optM (((fns c).zip ds).lookup f) else bad
  | _ => bad
def fldE (c : Nat) (f : Str) (fa : Ev → Mo D) : Ev → Mo D := fun env => bnd (fa env) (fldD c f)
theorem ve_fld (c : Nat) {e : Expr} {f : Str} {fa : Ev → Mo D} {pos : Pos} (g : GX Γ X k E) (C : ClsF Γ c) (he : VE Γ X E e fa) (hb : ∀ j, attributeBase e f (X j).env (eval e (X j).env) = eval e (X j).env := by intro _; rfl) : VE Γ X E (.Attribute e f pos) (fldE c f fa) := by
  obtain ⟨t, p, d⟩ := he.ex
  refine ⟨tFld Γ.K t f, fun j => g.K j ▸ pe_fld (p j) (hb j), fun sa M O σ env H s x Q q => ?_⟩
  refine d sa M O σ env H s x _ (PostR.bnd q fun a s1 v H1 e1 t1 r1 h1 => ?_)
  have ok1 := (x.ext e1 t1).ok
  cases r1 with
  | obj ha hl hr =>
    rename_i b dx c' vs ds
    unfold fldD at h1
    dsimp only at h1
    by_cases hc : c' = c ∧ f ∈ fns c
    · rw [if_pos hc] at h1
      obtain ⟨hc, hf⟩ := hc
      subst hc
      obtain ⟨d1, e2, h2⟩ := optM_post h1
      obtain ⟨v1, hv, rv⟩ := zip_lookup hr e2
      exact ⟨_, _, _, _, v1, rfl, msk_get ha, C.cls, C.no f hf, hv, h2.here t1 rv⟩
    · rw [if_neg hc] at h1
      exact (show False from h1).elim
  | _ => exact (show False from h1).elim
/-- a method keeps its promise -/
structure Fm (P : Program) (w : World) (K : PySem.W.Frag) (mg : Str → Option Value) (base : Heap) (Γ : Gx) (c : Nat) (m : Str) (lev n : Nat) (g : List D → Mo D) : Prop where
  ex : ∃ f fd ps, FnOk P w K mg base (L2.CX P w) lev f fd ps (spD Γ n g) ∧ Meth K (Γ.cl c) m f ∧ Binds K fd ps []
def isObj (c : Nat) : D → Bool
  | .obj b _ => b == c
  | _ => false
def methE (c : Nat) (g : List D → Mo D) (fo : Ev → Mo D) (fa : Ev → Mo (List D)) : Ev → Mo D := fun env => bnd (fo env) fun d => if isObj c d then bnd (fa env) fun as => g (d :: as) else bad
theorem de_meth {c n : Nat} {m : Str} {sa : Addr × Addr} {g : List D → Mo D} {t : TE} {u : TA} {fo : Ev → Mo D} {fa : Ev → Mo (List D)} (hmn : m ∉ fns c) (d : DE (Γ.at sa) E t fo) (d2 : DA (Γ.at sa) E u fa) (hl : ∀ env s ds s', fa env s = .ok ds s' → ds.length = n) :
    DE (Γ.at sa) E (tMeth (Γ.cl c) m (spD Γ (n + 1) g) [] E t u) (methE c g fo fa) := fun M O σ env H s x Q q => by
  refine d M O σ env H s x _ (PostR.bnd q fun a s1 v H1 e1 t1 r1 h1 => ?_)
  cases r1 with
  | obj ha hlen hr =>
    rename_i b dx c' vs ds
    by_cases hc : c' = c
    · subst hc
      have h1 : PostR (Γ.at sa) E M (RD (Γ.at sa) M) H1 (bnd (fa env) (fun as => g (.obj c' ds :: as)) s1) Q := by
        have : isObj c' (.obj c' ds) = true := by unfold isObj; exact beq_self_eq_true c'
        rw [this] at h1
        exact h1
      refine ⟨_, _, _, rfl, msk_get ha, zip_none hmn, ?_⟩
      refine d2 M O σ env H1 s1 (x.ext e1 t1) _ ?_
      unfold bnd at h1
      cases e : fa env s1 with
      | bad => rw [e] at h1; exact h1
      | exc y s2 => rw [e] at h1; exact h1
      | ok as s2 =>
        rw [e] at h1
        intro ws H2 e2 t2 r2
        rw [List.append_nil]
        refine ⟨?_, sa, M, s2, _, (x.ok.ext e1 t1).ext e2 t2, .cons ((x.ok.ext e1 t1).rep e2 (.obj ha hlen hr)) r2, PostR.later h1 e2⟩
        rw [List.length_cons, r2.length, hl env s1 as s2 e]
    · have : isObj c (.obj c' ds) = false := by unfold isObj; exact beq_eq_false_iff_ne.mpr hc
      rw [this] at h1
      exact (show False from h1).elim
  | _ => exact (show False from h1).elim
theorem ve_meth {c lev n : Nat} {m : Str} {g : List D → Mo D} {o e : Expr} {es : List Expr} {fo : Ev → Mo D} {fa : Ev → Mo (List D)} {pos apos : Pos} (gx : GX Γ X k E) (C : ClsF Γ c) (F : ∀ j, Fm (X j).prog (X j).w (X j).K (X j).mg (X j).base Γ c m lev (n + 1) g) (hk : lev ≤ k) (hmn : m ∉ fns c)
    (ho : VE Γ X E o fo) (ha : VAn Γ X E n (e :: es) fa)
    (he : ∀ j, starEach (e :: es) (X j).env = (false, eval e (X j).env) :: starEach es (X j).env := by intro _; rfl) (hpl : ∀ j, (backTo pos (starEach es (X j).env)).any (·.1) = false := by intro _; rfl)
    (ht : ∀ j, ∃ pl : Sem Bool, eval (.Call (.Attribute o m apos) (e :: es) [] pos) (X j).env = (do
      let v ← eval o (X j).env
      standAt apos.atName
      let r ← holding [v] (getMethod v m pl)
      match r with
      | (f, first) => callWith pos f first (backTo pos (starEach (e :: es) (X j).env)) (backToKw pos (keywordEach [] (X j).env))) := by intro _; exact ⟨_, rfl⟩) :
    VE Γ X E (.Call (.Attribute o m apos) (e :: es) [] pos) (methE c g fo fa) := by
  obtain ⟨t, p, d⟩ := ho.ex
  obtain ⟨u, pa, d2⟩ := ha.a.ex
  refine ⟨tMeth (Γ.cl c) m (spD Γ (n + 1) g) [] E t u, fun j => ?_, fun sa => de_meth hmn (d sa) (d2 sa) ha.n⟩
  obtain ⟨fa, fd, ps, F1, F2, F3⟩ := (F j).ex
  obtain ⟨pl, hpe⟩ := ht j
  exact pe_meth (p j) (by rw [gx.K j]; exact C.cls) F2 F1 ((gx.room j).mono hk) F3 .nil (passes_call (gx.tk j) fun _ _ _ _ h => h) (pa j) (he j) (hpl j) hpe

/-! a method without arguments -/
def meth0E (c : Nat) (g : List D → Mo D) (fo : Ev → Mo D) : Ev → Mo D := fun env => bnd (fo env) fun d => if isObj c d then g [d] else bad
theorem ve_meth0 {c lev : Nat} {m : Str} {g : List D → Mo D} {o : Expr} {fo : Ev → Mo D} {pos apos : Pos} (gx : GX Γ X k E) (C : ClsF Γ c) (F : ∀ j, Fm (X j).prog (X j).w (X j).K (X j).mg (X j).base Γ c m lev 1 g) (hk : lev ≤ k) (hmn : m ∉ fns c)
    (ho : VE Γ X E o fo)
    (ht : ∀ j, ∃ pl : Sem Bool, eval (.Call (.Attribute o m apos) [] [] pos) (X j).env = (do
      let v ← eval o (X j).env
      standAt apos.atName
      let r ← holding [v] (getMethod v m pl)
      match r with
      | (f, first) => callWith pos f first (backTo pos (starEach [] (X j).env)) (backToKw pos (keywordEach [] (X j).env))) := by intro _; exact ⟨_, rfl⟩) :
    VE Γ X E (.Call (.Attribute o m apos) [] [] pos) (meth0E c g fo) := by
  obtain ⟨t, p, d⟩ := ho.ex
  refine ⟨tMeth (Γ.cl c) m (spD Γ 1 g) [] E t tNil, fun j => ?_, fun sa => ?_⟩
  · obtain ⟨fa, fd, ps, F1, F2, F3⟩ := (F j).ex
    obtain ⟨pl, hpe⟩ := ht j
    exact pe_meth0 (p j) (by rw [gx.K j]; exact C.cls) F2 F1 ((gx.room j).mono hk) F3 .nil (passes_call (gx.tk j) fun _ _ _ _ h => h) hpe
  · have := de_meth (c := c) (n := 0) (g := g) (fa := nilA) hmn (d sa) da_nil (fun env s ds s' h => by cases h; rfl)
    have e : methE c g fo nilA = meth0E c g fo := rfl
    rw [e] at this
    exact this
/-! ### a new object, its __init__ -/
section
variable {H H' : Hp}
mutual
theorem Rep.me {p : Addr × Addr} (m : Addr) : ∀ {v : V} {d : D}, Rep (Γ.at p) H v d → Rep (Γ.at (p.1, m)) H v d
  | _, _, .non => .non
  | _, _, .bl b => .bl b
  | _, _, .int i => .int i
  | _, _, .str x => .str x
  | _, _, .lst e l r => .lst e l (Reps.me m r)
  | _, _, .tup e l r => .tup e l (Reps.me m r)
  | _, _, .obj e l r => .obj e l (Reps.me m r)
  | _, _, .dct e l k r => .dct e l k (Reps.me m r)
  | _, _, .rng e => .rng e
  | _, _, .dc2 e l k r => .dc2 e l k (Reps.me m r)
  | _, _, .clo k f c d n1 n2 r => .clo k f c d n1 n2 (Reps.me m r)
  | _, _, .st => .st
theorem Reps.me {p : Addr × Addr} (m : Addr) : ∀ {vs : List V} {ds : List D}, Reps (Γ.at p) H vs ds → Reps (Γ.at (p.1, m)) H vs ds
  | _, _, .nil => .nil
  | _, _, .cons a b => .cons (Rep.me m a) (Reps.me m b)
end
theorem XRep.me {p : Addr × Addr} (m : Addr) {x : Xn} {cls : Value} {dx : Option Addr} (h : XRep (Γ.at p) H x cls dx) : XRep (Γ.at (p.1, m)) H x cls dx := by
  obtain ⟨a, b⟩ := h
  refine ⟨a, ?_⟩
  cases e : xfs x.c with
  | none => rw [e] at b; exact b
  | some f =>
    rw [e] at b
    obtain ⟨d, v, h1, h2, h3⟩ := b
    exact ⟨d, v, h1, h2, h3.me m⟩
/-- all but the state list and the new object stands as it stood -/
def ExX (sa x : Addr) (H H' : Hp) : Prop := ∀ q o, H q = some o → q ≠ sa → q ≠ x → Nt o → H' q = some o
def PostI (Γ : Gx) (E : XK) (H0 : Hp) (M0 : Addr → Prop) (c : Nat) (dx : Addr) (o : Out (List D)) (Q : Hp → Prop) : Prop := match o with
  | .bad => False
  | .ok fs s => ∀ H us, ExX Γ.sa Γ.me H0 H → StOk Γ H s → us.length = (fns c).length → H Γ.me = some (.ins (Γ.cl c) dx ((fns c).zip us)) → Reps Γ (msk M0 H) us fs → Q H
  | .exc x s => ∀ cls d H, ExX Γ.sa Γ.me H0 H → StOk Γ H s → XRep Γ (msk M0 H) x cls d → E cls d H
/-- the promise of an __init__ -/
def spI (Γ : Gx) (c n : Nat) (g : List D → Mo (List D)) : Sp := fun vs H Q E => vs.length = n + 1 ∧ ∃ (p : Addr × Addr) (M : Addr → Prop) (s : S) (dx : Addr) (ws : List V) (ds : List D),
  vs = .ref p.2 :: ws ∧ H p.2 = some (.ins (Γ.cl c) dx []) ∧ M p.2 ∧ p.2 ≠ p.1 ∧ HpOk (Γ.at p) M H s ∧ Reps (Γ.at p) (msk M H) ws ds ∧ PostI (Γ.at p) E H M c dx (g ds s) (fun H' => Q .non H')
structure Fi (P : Program) (w : World) (K : PySem.W.Frag) (mg : Str → Option Value) (base : Heap) (Γ : Gx) (c : Nat) (x : Str) (lev n : Nat) (g : List D → Mo (List D)) : Prop where
  ex : ∃ f fd ps, FnOk P w K mg base (L2.CX P w) lev f fd ps (spI Γ c n g) ∧ Mk K (Γ.cl c) f ∧ mg x = some (.ref (Γ.cl c)) ∧ Binds K fd ps []
def makeE (c : Nat) (g : List D → Mo (List D)) (fa : Ev → Mo (List D)) : Ev → Mo D := fun env => bnd (fa env) fun as => bnd (g as) fun fs => ret (.obj c fs)
theorem de_make {c n : Nat} {sa : Addr × Addr} {g : List D → Mo (List D)} {u : TA} {fa : Ev → Mo (List D)} (d : DA (Γ.at sa) E u fa) (hl : ∀ env s ds s', fa env s = .ok ds s' → ds.length = n) :
    DE (Γ.at sa) E (tMake (Γ.cl c) (spI Γ c n g) [] E u) (makeE c g fa) := fun M O σ env H s x Q q => by
  refine d M O σ env H s x (fun vs H1 => ∀ x dx, H1 x = none → H1 dx = none → dx ≠ x → spI Γ c n g (.ref x :: (vs ++ [])) (upd (upd H1 dx (.own x)) x (.ins (Γ.cl c) dx [])) (fun v H2 => v = .non ∧ Q (.ref x) H2) E) ?_
  have q : PostR (Γ.at sa) E M (RD (Γ.at sa) M) H (bnd (fa env) (fun as => bnd (g as) fun fs => ret (.obj c fs)) s) Q := q
  unfold bnd at q
  cases e : fa env s with
  | bad => rw [e] at q; exact q
  | exc y s1 => rw [e] at q; exact q
  | ok as s1 =>
    rw [e] at q
    intro vs H1 e1 t1 r1 y dx ny ndx hne
    have ok1 := x.ok.ext e1 t1
    have sy : y ≠ sa.1 := ne_of_none' ok1.st.at_ ny
    have sdx : dx ≠ sa.1 := ne_of_none' ok1.st.at_ ndx
    have nM : ¬ M y := fun z => ok1.dom y z ny
    have nMd : ¬ M dx := fun z => ok1.dom dx z ndx
    rw [List.append_nil]
    have hH2 : ∀ q o, H1 q = some o → (upd (upd H1 dx (.own y)) y (.ins (Γ.cl c) dx [])) q = some o := fun q o hq => by
      rw [upd_ne (ne_of_none hq ny), upd_ne (ne_of_none hq ndx)]; exact hq
    have up : ∀ b o, msk M H1 b = some o → msk (fun a => M a ∨ a = y ∨ a = dx) (upd (upd H1 dx (.own y)) y (.ins (Γ.cl c) dx [])) b = some o := fun b o hb => by
      obtain ⟨h1, h2⟩ := msk_iff.mp hb
      refine msk_iff.mpr ⟨?_, hH2 b o h2⟩
      rintro (z | z | z)
      · exact h1 z
      · rw [z, ny] at h2; cases h2
      · rw [z, ndx] at h2; cases h2
    have down : ∀ (H2 : Hp) (b : Addr) (o : HO), msk (fun a => M a ∨ a = y ∨ a = dx) H2 b = some o → msk M H2 b = some o := fun H2 => msk_less fun b hb => .inl hb
    have ex1 : ∀ H2, ExX sa.1 y (upd (upd H1 dx (.own y)) y (.ins (Γ.cl c) dx [])) H2 → Ext (Γ.at sa).sa H H2 := fun H2 hx => by
      refine Ext.trans e1 fun b o hb hs ht => hx b o (hH2 b o hb) hs (ne_of_none hb ny) ht
    refine ⟨by rw [List.length_cons, r1.length, hl env s as s1 e], (sa.1, y), fun a => M a ∨ a = y ∨ a = dx, s1, dx, vs, as, rfl, upd_same, .inr (.inl rfl), sy, ⟨?_, .inl ok1.ms, fun b hb => ?_, fun t m => .inl (ok1.mt t m), fun b hb vs z => ?_⟩, (r1.me y).mono up, ?_⟩
    · exact ((t1.upd ndx fun _ z => by cases z).upd (by rw [upd_ne (Ne.symm hne)]; exact ny) fun _ z => by cases z).cast rfl rfl
    · by_cases hb1 : b = y
      · rw [hb1, upd_same]; exact fun z => by cases z
      · rw [upd_ne hb1]
        by_cases hb2 : b = dx
        · rw [hb2, upd_same]; exact fun z => by cases z
        · rw [upd_ne hb2]
          rcases hb with hb | hb | hb
          · exact ok1.dom b hb
          · exact absurd hb hb1
          · exact absurd hb hb2
    · by_cases hb1 : b = y
      · rw [hb1, upd_same] at z; cases z; exact .of rfl
      · rw [upd_ne hb1] at z
        by_cases hb2 : b = dx
        · rw [hb2, upd_same] at z; cases z; exact .of rfl
        · rw [upd_ne hb2] at z
          rcases hb with hb | hb | hb
          · exact ok1.nt b hb vs z
          · exact absurd hb hb1
          · exact absurd hb hb2
    · have q : PostR (Γ.at sa) E M (RD (Γ.at sa) M) H (bnd (g as) (fun fs => ret (.obj c fs)) s1) Q := q
      unfold bnd at q
      cases e2 : g as s1 with
      | bad => rw [e2] at q; exact q
      | exc z s2 =>
        rw [e2] at q
        intro cls d H2 hx ht hr
        have hr2 : XRep (Γ.at sa) (msk (fun a => M a ∨ a = y ∨ a = dx) H2) z cls d := hr.me sa.2
        exact q cls d H2 (ex1 H2 hx) (ht.cast rfl rfl) (hr2.mono (down H2))
      | ok fs s2 =>
        rw [e2] at q
        intro H2 us hx ht hlen hy hr
        have hr2 : Reps (Γ.at sa) (msk (fun a => M a ∨ a = y ∨ a = dx) H2) us fs := hr.me sa.2
        exact ⟨rfl, q (.ref y) H2 (ex1 H2 hx) (ht.cast rfl rfl) (.obj (msk_iff.mpr ⟨nM, hy⟩) hlen (hr2.mono (down H2)))⟩
end
theorem ve_make {c lev n : Nat} {x : Str} {g : List D → Mo (List D)} {e : Expr} {es : List Expr} {fa : Ev → Mo (List D)} {p pos : Pos} (gx : GX Γ X k E) (F : ∀ j, Fi (X j).prog (X j).w (X j).K (X j).mg (X j).base Γ c x lev n g) (hk : lev + 1 ≤ k) (ha : VAn Γ X E n (e :: es) fa)
    (hg : ∀ j, Gl (X j) x := by intro _; rfl) (hdb : (x == ("__debug__" : Str)) = false := by decide)
    (he : ∀ j, starEach (e :: es) (X j).env = (false, eval e (X j).env) :: starEach es (X j).env := by intro _; rfl) (hpl : ∀ j, (backTo pos (starEach es (X j).env)).any (·.1) = false := by intro _; rfl) :
    VE Γ X E (.Call (.Name x p) (e :: es) [] pos) (makeE c g fa) := by
  obtain ⟨u, pa, d⟩ := ha.a.ex
  refine ⟨tMake (Γ.cl c) (spI Γ c n g) [] E u, fun j => ?_, fun sa => de_make (d sa) ha.n⟩
  obtain ⟨fa, fd, ps, F1, F2, F3, F4⟩ := (F j).ex
  exact pe_make F2 F1 ((gx.room j).mono hk) (hg j) F3 F4 .nil (passes_call (gx.tk j) fun _ _ _ _ h => h) (pa j) hdb (he j) (hpl j)

/-! __init__: its statements, then its fields -/
def DJ (Γ : Gx) (E : XK) (t : TS) (c : Nat) (f : Ev → Mo (List D)) : Prop := ∀ H0 M0 Gs O σ env H s N dx, RepS Γ H0 M0 Gs O σ env H s → M0 Γ.me → Γ.me ≠ Γ.sa → H0 Γ.me = some (.ins (Γ.cl c) dx []) → PostI Γ E H0 M0 c dx (f env s) (fun H' => ∀ σ', N.nx σ' H') → t N σ H
structure VJ {ι : Type} (Γ : Gx) (X : ι → Cx) (E : XK) (c : Nat) (s : List Stmt) (f : Ev → Mo (List D)) : Prop where
  ex : ∃ t, (∀ i, PSs (X i) s t) ∧ ∀ sa, DJ (Γ.at sa) E t c f
def seqJ (f : Ev → Mo Fl) (g : Ev → Mo (List D)) : Ev → Mo (List D) := fun env => bnd (f env) fun o => match o with
  | .nx e => g e
  | _ => bad
theorem Ext.exx {sa x : Addr} {H H' : Hp} (e : Ext sa H H') : ExX sa x H H' := fun q o h n _ t => e q o h n t
theorem vj_cons {c : Nat} {s : Stmt} {r : List Stmt} {f : Ev → Mo Fl} {g : Ev → Mo (List D)} (h : VS Γ X E s f) (q : VJ Γ X E c r g) : VJ Γ X E c (s :: r) (seqJ f g) := by
  obtain ⟨t, p, d⟩ := h.ex
  obtain ⟨u, p2, d2⟩ := q.ex
  refine ⟨_, fun j => pss_cons (p j) (p2 j), fun sa H0 M0 Gs O σ env H s N dx rs m1 m2 m3 post => ?_⟩
  refine d sa H0 M0 Gs O σ env H s _ rs ?_
  unfold seqJ bnd at post
  cases e : f env s with
  | bad => rw [e] at post; exact (show False from post).elim
  | exc x s1 =>
    rw [e] at post
    exact fun cls d H1 e1 t1 r1 => post cls d H1 e1.exx t1 r1
  | ok o s1 =>
    rw [e] at post
    cases o with
    | nx e1 => exact fun O1 σ1 H1 r1 => d2 sa H0 M0 Gs O1 σ1 e1 H1 s1 N dx r1 m1 m2 m3 post
    | rt d => exact (show False from post).elim
    | bk e1 => exact (show False from post).elim
    | ct e1 => exact (show False from post).elim
/-- self.a = x; self.b = y at the end -/
def isMe (env : Ev) : Bool := match env[0]? with
  | some Sl.me => true
  | _ => false
theorem isMe_of {env : Ev} (h : isMe env = true) : env[0]? = some .me := by
  unfold isMe at h
  split at h
  · assumption
  · cases h
def twoJ (f g : Ev → Mo D) : Ev → Mo (List D) := fun env => if isMe env then bnd (nox (f env)) fun a => bnd (nox (g env)) fun b => ret [a, b] else bad
theorem dj_two {c : Nat} {f0 f1 : Str} {t0 t1 : TE} {fa fb : Ev → Mo D} {sa : Addr × Addr} (C : ClsF Γ c) (hf : fns c = [f0, f1]) (hput : ∀ v w : V, putF f0 v [] = [(f0, v)] ∧ putF f1 w [(f0, v)] = [(f0, v), (f1, w)]) (d0 : DE (Γ.at sa) E t0 fa) (d1 : DE (Γ.at sa) E t1 fb) :
    DJ (Γ.at sa) E (tSeq (sFld Γ.K (tVar 0) t0 f0) (sFld Γ.K (tVar 0) t1 f1)) c (twoJ fa fb) := fun H0 M0 Gs O σ env H s N dx rs m1 m2 m3 post => by
  unfold twoJ at post
  by_cases hme : isMe env = true
  · rw [if_pos hme] at post
    have h0 := rs.x.mee 0 (isMe_of hme)
    have noO : ∀ i, (Γ.at sa).me ∉ O i := fun i z => by
      have := rs.frs i _ z
      rw [m3] at this; cases this
    unfold tSeq sFld
    refine d0 (Mof M0 O) O σ env H s rs.x _ ?_
    unfold bnd at post
    cases e : fa env s with
    | bad =>
      have e2 : nox (fa env) s = .bad := by unfold nox; rw [e]
      rw [e2] at post; exact (show False from post).elim
    | exc x s1 =>
      have e2 : nox (fa env) s = .bad := by unfold nox; rw [e]
      rw [e2] at post; exact (show False from post).elim
    | ok a s1 =>
      have e2 : nox (fa env) s = .ok a s1 := by unfold nox; rw [e]
      rw [e2] at post
      intro v H1 ex1 st1 r1
      have hm1 : H1 (Γ.at sa).me = some (.ins (Γ.cl c) dx []) := ex1 _ _ (rs.ext _ _ m3 m2 nofun) m2 nofun
      refine ⟨_, h0, _, _, _, _, rfl, hm1, C.cls, C.no f0 (by rw [hf]; exact List.mem_cons_self), by decide, ?_⟩
      rw [(hput v v).1]
      have x1 : RepX (Γ.at sa) (Mof M0 O) O σ env (upd H1 (Γ.at sa).me (.ins (Γ.cl c) dx [(f0, v)])) s1 := (rs.x.ext ex1 st1).hid (.inl m1) m2 noO _ hm1
      refine d1 (Mof M0 O) O σ env _ s1 x1 _ ?_
      dsimp only at post
      cases e3 : fb env s1 with
      | bad =>
        have e4 : nox (fb env) s1 = .bad := by unfold nox; rw [e3]
        rw [e4] at post; exact (show False from post).elim
      | exc x s2 =>
        have e4 : nox (fb env) s1 = .bad := by unfold nox; rw [e3]
        rw [e4] at post; exact (show False from post).elim
      | ok b s2 =>
        have e4 : nox (fb env) s1 = .ok b s2 := by unfold nox; rw [e3]
        rw [e4] at post
        intro w H2 ex2 st2 r2
        have hm2 : H2 (Γ.at sa).me = some (.ins (Γ.cl c) dx [(f0, v)]) := ex2 _ _ upd_same m2 nofun
        refine ⟨_, h0, _, _, _, _, rfl, hm2, C.cls, C.no f1 (by rw [hf]; exact List.mem_cons_of_mem _ List.mem_cons_self), (by show 1 < 1000; omega), ?_⟩
        rw [(hput v w).2]
        have k1 : ∀ q o, H1 q = some o → q ≠ (Γ.at sa).sa → q ≠ (Γ.at sa).me → Nt o → H2 q = some o := fun q o h hs hm ht => ex2 q o (by rw [upd_ne hm]; exact h) hs ht
        have nMe : ∀ q, ¬ Mof M0 O q → q ≠ (Γ.at sa).me ∧ q ≠ (Γ.at sa).sa ∧ ¬ M0 q := fun q h => ⟨fun z => h (.inl (z ▸ m1)), fun z => h (.inl (z ▸ rs.ms0.mm.sa)), fun z => h (.inl z)⟩
        refine post (upd H2 (Γ.at sa).me (.ins (Γ.cl c) dx [(f0, v), (f1, w)])) [v, w] (fun q o h hs hm ht => ?_) ?_ ?_ ?_ ?_ σ
        · rw [upd_ne hm]
          exact k1 q o (ex1 q o (rs.ext q o h hs ht) hs ht) hs hm ht
        · exact st2.set hm2 ⟨nofun, nofun, fun _ _ z => HO.noConfusion z⟩ ⟨nofun, nofun, fun _ _ z => HO.noConfusion z⟩ m2
        · rw [hf]; rfl
        · rw [upd_same, hf]; rfl
        · refine .cons (r1.mono fun q o h => ?_) (.cons (r2.mono fun q o h => ?_) .nil)
          · obtain ⟨h1, h2⟩ := msk_iff.mp h
            obtain ⟨a1, a2, a3⟩ := nMe q h1
            exact msk_iff.mpr ⟨a3, by rw [upd_ne a1]; exact k1 q o h2 a2 a1 ((rs.x.ok.ext ex1 st1).ntm h1 h2)⟩
          · obtain ⟨h1, h2⟩ := msk_iff.mp h
            obtain ⟨a1, a2, a3⟩ := nMe q h1
            exact msk_iff.mpr ⟨a3, by rw [upd_ne a1]; exact h2⟩
  · rw [if_neg hme] at post
    exact (show False from post).elim
theorem vj_two {c : Nat} {x f0 f1 : Str} {ea eb : Expr} {fa fb : Ev → Mo D} {pn pn2 pa pa2 pos pos2 : Pos} (g : GX Γ X k E) (C : ClsF Γ c) (hf : fns c = [f0, f1]) (ha : VE Γ X E ea fa) (hb : VE Γ X E eb fb)
    (hN : ∀ j, (X j).N[0]? = some x := by intro _; rfl) (hv : ∀ j, Vis (X j).env.scope x := by first | exact fun _ => Or.inl rfl | exact fun _ => Or.inr (Or.inl rfl) | exact fun _ => Or.inr (Or.inr rfl))
    (hd : (x == ("__debug__" : Str)) = false := by decide) (hcd : (x == ("__classdict__" : Str)) = false := by decide)
    (hput : ∀ v w : V, putF f0 v [] = [(f0, v)] ∧ putF f1 w [(f0, v)] = [(f0, v), (f1, w)] := by intro _ _; exact ⟨rfl, rfl⟩)
    (hs : ∀ j, swapsWith ea (some (.Attribute (.Name x pn) f0 pa)) pos.line (X j).env = pure false := by intro _; rfl) (hs2 : ∀ j, swapsWith eb (some (.Attribute (.Name x pn2) f1 pa2)) pos2.line (X j).env = pure false := by intro _; rfl) :
    VJ Γ X E c [.Assign [.Attribute (.Name x pn) f0 pa] ea pos, .Assign [.Attribute (.Name x pn2) f1 pa2] eb pos2] (twoJ fa fb) := by
  obtain ⟨t, p, d⟩ := ha.ex
  obtain ⟨u, p2, d2⟩ := hb.ex
  exact ⟨_, fun j => g.K j ▸ pss_cons (ps_fld (pe_var (hN j) (hv j) hd hcd) (p j) (hs j)) (pss_one (ps_fld (pe_var (hN j) (hv j) hd hcd) (p2 j) (hs2 j))), fun sa => dj_two (Γ := Γ) C hf hput (d sa) (d2 sa)⟩
/-- the start of an __init__ -/
theorem start_repM {Γ : Gx} {M : Addr → Prop} {H : Hp} {s : S} {n : Nat} {vs : List V} {ds : List D} (ok : HpOk Γ M H s) (r : Reps Γ (msk M H) vs ds) {N : List Str} {x : Str} (hn : N.length = n) (hl : ds.length ≤ n) :
    RepS Γ H M [] (fun _ => []) (L2.start (x :: N) (.ref Γ.me :: vs)) (.me :: (ds.map Sl.val ++ List.replicate (n - ds.length) Sl.no)) H s := by
  have hs : L2.start (x :: N) (.ref Γ.me :: vs) = some (.ref Γ.me) :: L2.start N vs := by
    unfold L2.start
    rw [List.map_cons, List.length_cons, List.length_cons, Nat.add_sub_add_right]
    rfl
  have r0 := start_rep ok r hn hl
  rw [hs]
  have eM : Mof M (fun _ => ([] : List Addr)) = Mof M (fun _ => []) := rfl
  refine ⟨⟨fun i d h => ?_, fun i sl h ho => ?_, fun _ _ => rfl, r0.x.inM, r0.x.nod, fun i j a h => absurd h List.not_mem_nil, r0.x.ok, by rw [List.length_cons, List.length_cons, r0.x.len], fun i h => ?_⟩, r0.ext, r0.frs, r0.gh, r0.dom0, r0.ms0⟩
  · cases i with
    | zero => cases h
    | succ i => exact r0.x.val i d h
  · cases i with
    | zero => cases h; cases ho
    | succ i => exact r0.x.own i sl h ho
  · cases i with
    | zero => rfl
    | succ i => exact r0.x.mee i h
def runI (n : Nat) (f : Ev → Mo (List D)) : List D → Mo (List D) := fun ds => f (.me :: (ds.map Sl.val ++ List.replicate (n - ds.length) Sl.no))
end
section
variable {P : Program} {w : World} {K : PySem.W.Frag} {mg : Str → Option Value} {base : Heap} {Γ : Gx}
theorem fnI {x qual : Str} {st : Stmt} {f : Addr} {fd : FuncData} {y : Str} {N ps : List Str} {k c n m : Nat} {b : Ev → Mo (List D)} (F : Fun K x qual st f fd) (S : FnScope (y :: N) ps (defScope st)) (hK : Γ.K = K) (hn : N.length = n) (hp : ps.length = m + 1) (hm : m ≤ n)
    (hb : ∀ (cdv : Value) (A : Around) (outer : List Env) (s : Shared) (H : Hp) (E : XK), Room k (A.deeper (envOfC qual (defScope st) s.heap.objs.size f cdv)) →
      GX Γ (fun _ : Unit => cxOf (L2.CX P w) P w K mg base (y :: N) qual (defScope st) f cdv A outer s H E) k E → VJ Γ (fun _ : Unit => cxOf (L2.CX P w) P w K mg base (y :: N) qual (defScope st) f cdv A outer s H E) E c (defBody st) b) :
    FnOk P w K mg base (L2.CX P w) (k + 1) f fd ps (spI Γ c m (runI n b)) := by
  refine F.okX S (fun vs H Q E h => by rw [h.1, hp]) fun cdv A outer s H vs Q E hr h => ?_
  obtain ⟨hl, p, M, s0, dx, ws, ds, hv, hx, mx, hne, ok, r, post⟩ := h
  obtain ⟨t, pt, dt⟩ := (hb cdv A outer s H E hr ⟨fun _ => hK.symm, fun _ => rfl, fun _ => hr, fun _ => S.nd, fun _ => takes_of rfl rfl rfl rfl, fun _ => passes_of rfl⟩).ex
  refine ⟨t, pt (), ?_⟩
  subst hv
  have hds : ds.length ≤ n := by
    have := r.length
    rw [List.length_cons] at hl
    omega
  refine dt p H M [] _ _ _ H s0 _ dx (start_repM ok r hn hds) mx hne hx ?_
  unfold runI at post
  cases e : b (.me :: (ds.map Sl.val ++ List.replicate (n - ds.length) Sl.no)) s0 with
  | bad => rw [e] at post; exact post
  | exc z s1 => rw [e] at post; exact post
  | ok fs s1 =>
    rw [e] at post
    exact fun H1 us a1 a2 a3 a4 a5 σ' => post H1 us a1 a2 a3 a4 a5
end
end G

namespace G
open PySem PySem.Spec PyProof.Rows L2

/-! ### the beginning and the end of a law -/
/-- the drawing state out of the script -/
def spState (K : PySem.W.Frag) : Sp := fun vs H Q _ => ∃ (a : Addr) (ns : List Int), vs = [.ref a] ∧ SqL K H a (ns.map V.int) ∧ ns.length ≤ 63 ∧
  ∀ H' p x y, H p = none → (∀ q o, H q = some o → H' q = some o) → (∀ q ps, H' q = some (.tbl ps) → H q = some (.tbl ps)) → H' p = some (.lst [.int x, .int y]) → Q (.ref p) H'
/-- the tables that lie in the heap are those of T -/
structure NoTab (T : List NdefX.NTab) (H : Hp) : Prop where
  tab : NdefX.TabsN T H
  oth : ∀ p ps, H p = some (.tbl ps) → ∃ t, t ∈ T ∧ t.1 = p
theorem NoTab.later {T : List NdefX.NTab} {H H' : Hp} (h : NoTab T H) (a : ∀ q o, H q = some o → H' q = some o) (b : ∀ q ps, H' q = some (.tbl ps) → H q = some (.tbl ps)) : NoTab T H' :=
  ⟨fun x hx => by
    obtain ⟨ps, y1, y2, y3⟩ := h.tab x hx
    refine ⟨ps, a _ _ y1, y2, fun pos cv z => ?_⟩
    obtain ⟨k, z1, z2⟩ := y3 pos cv z
    exact ⟨k, z1, a _ _ z2⟩, fun p ps e => h.oth p ps (b p ps e)⟩
theorem NoTab.only {H : Hp} (h : Only H) : NoTab [] H := ⟨fun x hx => absurd hx List.not_mem_nil, fun p ps e => by
  rcases h p with q | ⟨o, xs, q⟩
  · rw [q] at e; cases e
  · rw [q] at e; cases e⟩
def spLaw (K : PySem.W.Frag) (T : List NdefX.NTab) : Sp := fun vs H Q _ => ∃ (a : Addr) (ns : List Int), vs = [.ref a] ∧ SqL K H a (ns.map V.int) ∧ ns.length ≤ 63 ∧ NoTab T H ∧ ∀ H', Q (.bl true) H'
/-- what is masked at the start -/
def m0 (Γ : Gx) (p : Addr) : Addr → Prop := fun b => b = p ∨ ∃ t, t ∈ Γ.tabs ∧ t.1 = b
theorem law_rep {Γ : Gx} {H : Hp} {p : Addr} {x y : Int} {n : Nat} {σ : L2.St} (hσ : σ[1]? = some (some (.ref p))) (hl : σ.length = n + 2) (hp : H p = some (.lst [.int x, .int y])) (ht : NoTab Γ.tabs H) :
    RepS (Γ.at (p, p)) H (m0 Γ p) [] (fun _ => []) σ (.no :: .val .st :: List.replicate n .no) H (x, y) := by
  have rep : ∀ (i : Nat) (sl : Sl), (List.replicate n Sl.no)[i]? = some sl → sl = .no := fun i sl h => by
    rw [List.getElem?_replicate] at h
    split at h
    · cases h; rfl
    · cases h
  have noown : ∀ (i : Nat) (sl : Sl), (Sl.no :: .val .st :: List.replicate n .no)[i]? = some sl → isOwn sl = false := fun i sl h => by
    match i, h with
    | 0, h => cases h; rfl
    | 1, h => cases h; rfl
    | i + 2, h => rw [rep i sl h]; rfl
  have eM : Mof (m0 Γ p) (fun _ => ([] : List Addr)) = m0 Γ p := by
    funext a
    unfold Mof
    exact propext ⟨fun h => h.elim id fun ⟨i, z⟩ => absurd z List.not_mem_nil, .inl⟩
  have is : ∀ q, m0 Γ p q → ∃ o, H q = some o ∧ MkO o := fun q hq => by
    rcases hq with hq | ⟨t, m, hq⟩
    · exact ⟨_, hq ▸ hp, .of rfl⟩
    · obtain ⟨ps, y, _⟩ := ht.tab t m
      exact ⟨_, hq ▸ y, .of rfl⟩
  have dm : ∀ q, m0 Γ p q → H q ≠ none := fun q hq z => by
    obtain ⟨o, y, _⟩ := is q hq
    rw [y] at z; cases z
  have nt : ∀ q, m0 Γ p q → ∀ o, H q = some o → MkO o := fun q hq x z => by
    obtain ⟨o, y, n⟩ := is q hq
    rw [y] at z
    exact Option.some.inj z ▸ n
  have mt : ∀ t, t ∈ Γ.tabs → m0 Γ p t.1 := fun t m => .inr ⟨t, m, rfl⟩
  refine ⟨?_, .refl _ _, fun i a h => absurd h List.not_mem_nil, fun p hp => absurd hp List.not_mem_nil, dm, ⟨⟨.inl rfl, mt⟩, ht.oth, nt⟩⟩
  · rw [eM]
    refine ⟨fun i d h => ?_, fun i sl h ho => (by rw [noown i sl h] at ho; cases ho), fun _ _ => rfl, fun i a h => absurd h List.not_mem_nil, fun _ => List.nodup_nil, fun i j a h => absurd h List.not_mem_nil, ⟨⟨hp, ht.tab, ht.oth⟩, .inl rfl, dm, mt, nt⟩, ?_, fun i h => ?_⟩
    · match i, h with
      | 0, h => cases h
      | 1, h => cases h; exact ⟨_, hσ, .st⟩
      | i + 2, h => cases rep i _ h
    · rw [hl]; simp
    · match i, h with
      | 0, h => cases h
      | 1, h => cases h
      | i + 2, h => cases rep i _ h
theorem cut_ints (ns : List Int) (lo hi : Option Int) : ∃ ks : List Int, cutV (ns.map V.int) lo hi = ks.map V.int := by
  unfold cutV
  rw [← List.map_drop, ← List.map_take]
  exact ⟨_, rfl⟩
end G

namespace G
open PySem PySem.Spec PyProof.Rows L2

/-! ### what a denotation gives -/
section
variable {α β : Type}
def WP (m : Mo α) (s : S) (Q : α → S → Prop) : Prop := match m s with
  | .ok a s' => Q a s'
  | _ => False
theorem WP_ret {a : α} {s : S} {Q : α → S → Prop} : WP (ret a) s Q = Q a s := rfl
theorem WP_bad {s : S} {Q : α → S → Prop} : WP bad s Q = False := rfl
theorem WP_bnd {m : Mo α} {k : α → Mo β} {s : S} {Q : β → S → Prop} : WP (bnd m k) s Q = WP m s fun a s' => WP (k a) s' Q := by
  unfold WP bnd
  cases m s <;> rfl
theorem WP_nox {m : Mo α} {s : S} {Q : α → S → Prop} : WP (nox m) s Q = WP m s Q := by
  unfold WP nox
  cases m s <;> rfl
theorem WP_ite {c : Prop} [Decidable c] {a b : Mo α} {s : S} {Q : α → S → Prop} : WP (if c then a else b) s Q = if c then WP a s Q else WP b s Q := by
  split <;> rfl
theorem WP_some {a : α} {s : S} {Q : α → S → Prop} : WP (optM (some a)) s Q = Q a s := rfl
theorem WP_mono {m : Mo α} {s : S} {Q R : α → S → Prop} (h : WP m s Q) (k : ∀ a s', Q a s' → R a s') : WP m s R := by
  unfold WP at *
  cases e : m s with
  | bad => rw [e] at h; exact h
  | exc x s1 => rw [e] at h; exact h
  | ok a s1 => rw [e] at h; exact k a s1 h
theorem WP_opt {o : Option α} {a : α} {s : S} {Q : α → S → Prop} (h : o = some a) (q : Q a s) : WP (optM o) s Q := by rw [h]; exact q
end
/-- a walk, by what holds before each turn -/
theorem WP_loop {h : D → Option (List D)} {js : List Nat} {body : Ev → Mo Fl} (I : Nat → Ev → Prop) {Q : Fl → S → Prop} : ∀ (ds : List D) (k : Nat) (env : Ev) (s : S), I k env →
    (∀ i d e s, ds[i]? = some d → I (k + i) e → ∃ xs, h d = some xs ∧ WP (body (setsE js xs e)) s fun o _ => ∃ e', (o = .nx e' ∨ o = .ct e') ∧ I (k + i + 1) e') →
    (∀ e s, I (k + ds.length) e → Q (.nx e) s) → WP (loopD h js body ds env) s Q
  | [], k, env, s, h0, _, q => q env s h0
  | d :: r, k, env, s, h0, hb, q => by
    obtain ⟨xs, hx, hw⟩ := hb 0 d env s rfl h0
    unfold loopD
    rw [WP_bnd, hx, WP_some, WP_bnd]
    refine WP_mono hw fun o s' ho => ?_
    obtain ⟨e', ho, hI⟩ := ho
    have next : WP (loopD h js body r e') s' Q := WP_loop I r (k + 1) e' s' hI (fun i d2 e2 s2 hd hi => by
      have := hb (i + 1) d2 e2 s2 hd (by rw [show k + (i + 1) = k + 1 + i by omega]; exact hi)
      rw [show k + (i + 1) + 1 = k + 1 + i + 1 by omega] at this
      exact this) fun e2 s2 hi => q e2 s2 (by rw [List.length_cons, show k + (r.length + 1) = k + 1 + r.length by omega]; exact hi)
    rcases ho with rfl | rfl <;> exact next
theorem rangeL_get {n i : Nat} {d : D} (h : (rangeL 0 n)[i]? = some d) : d = .int (i : Nat) ∧ i < n := by
  unfold rangeL at h
  rw [List.getElem?_map] at h
  by_cases hi : i < n
  · rw [List.getElem?_range hi] at h
    cases h
    exact ⟨by show D.int (0 + (i : Int)) = _; rw [Int.zero_add], hi⟩
  · rw [List.getElem?_eq_none (by rw [List.length_range]; omega)] at h
    cases h
theorem rangeL_length {lo : Int} {n : Nat} : (rangeL lo n).length = n := by unfold rangeL; rw [List.length_map, List.length_range]
theorem WP_loopR {j : Nat} {body : Ev → Mo Fl} (I : Nat → Ev → Prop) {Q : Fl → S → Prop} {n : Nat} {env : Ev} {s : S} (h0 : I 0 env)
    (hb : ∀ i e s, i < n → I i e → WP (body (e.set j (.val (.int (i : Nat))))) s fun o _ => ∃ e', (o = .nx e' ∨ o = .ct e') ∧ I (i + 1) e')
    (q : ∀ e s, I n e → Q (.nx e) s) : WP (loopD hName [j] body (rangeL 0 n) env) s Q := by
  refine WP_loop I (rangeL 0 n) 0 env s h0 (fun i d e s hd hi => ?_) fun e s hi => q e s (by rw [rangeL_length, Nat.zero_add] at hi; exact hi)
  obtain ⟨rfl, hin⟩ := rangeL_get hd
  rw [Nat.zero_add] at hi ⊢
  exact ⟨_, rfl, hb i e s hin hi⟩
/-- a list, element by element -/
theorem WP_lc {h : D → Option (List D)} {js : List Nat} {fe : Ev → Mo D} {env : Ev} (P : Nat → D → Prop) {Q : List D → S → Prop} : ∀ (ds : List D) (k : Nat) (s : S),
    (∀ i d s, ds[i]? = some d → ∃ xs, h d = some xs ∧ WP (fe (setsE js xs env)) s fun y _ => P (k + i) y) →
    (∀ ys s, ys.length = ds.length → (∀ i y, ys[i]? = some y → P (k + i) y) → Q ys s) → WP (lcD h js yesT fe env ds) s Q
  | [], k, s, _, q => q [] s rfl fun i y z => by cases z
  | d :: r, k, s, hb, q => by
    obtain ⟨xs, hx, hw⟩ := hb 0 d s rfl
    unfold lcD
    rw [WP_bnd, hx, WP_some, WP_bnd, WP_nox]
    show WP (bnd _ _) s Q
    rw [WP_bnd, WP_nox]
    refine WP_mono hw fun y s' hy => ?_
    rw [WP_bnd]
    refine WP_lc (P := P) r (k + 1) s' (fun i d2 s2 hd => ?_) fun ys s2 hl hp => ?_
    · rw [show k + 1 + i = k + (i + 1) by omega]
      exact hb (i + 1) d2 s2 hd
    · rw [WP_ret]
      refine q (y :: ys) s2 (by rw [List.length_cons, List.length_cons, hl]) fun i z hz => ?_
      cases i with
      | zero => cases hz; exact hy
      | succ i => rw [show k + (i + 1) = k + 1 + i by omega]; exact hp i z hz
theorem WP_lcR {j : Nat} {fe : Ev → Mo D} {env : Ev} (P : Nat → D → Prop) {Q : List D → S → Prop} {n : Nat} {s : S}
    (hb : ∀ i s, i < n → WP (fe (env.set j (.val (.int (i : Nat))))) s fun y _ => P i y)
    (q : ∀ ys s, ys.length = n → (∀ i y, ys[i]? = some y → P i y) → Q ys s) : WP (lcD hName [j] yesT fe env (rangeL 0 n)) s Q := by
  refine WP_lc P (rangeL 0 n) 0 s (fun i d s hd => ?_) fun ys s hl hp => q ys s (by rw [hl, rangeL_length]) fun i y hy => by have := hp i y hy; rwa [Nat.zero_add] at this
  obtain ⟨rfl, hin⟩ := rangeL_get hd
  rw [Nat.zero_add]
  exact ⟨_, rfl, hb i s hin⟩
theorem eq_range_map {f : Nat → D} {n : Nat} {ys : List D} (hl : ys.length = n) (h : ∀ i y, ys[i]? = some y → y = f i) : ys = (List.range n).map f := by
  refine List.ext_getElem? fun i => ?_
  rw [List.getElem?_map]
  by_cases hi : i < n
  · rw [List.getElem?_range hi]
    have : ys[i]? = some (ys[i]'(by omega)) := List.getElem?_eq_getElem (by omega)
    rw [this, h i _ this]
    rfl
  · rw [List.getElem?_eq_none (by omega), List.getElem?_eq_none (by rw [List.length_range]; omega)]
    rfl
theorem WP_lcF {j : Nat} {fe : Ev → Mo D} {env : Ev} (f : Nat → D) {Q : List D → S → Prop} {n : Nat} {s : S}
    (hb : ∀ i s, i < n → WP (fe (env.set j (.val (.int (i : Nat))))) s fun y _ => y = f i)
    (q : ∀ s, Q ((List.range n).map f) s) : WP (lcD hName [j] yesT fe env (rangeL 0 n)) s Q :=
  WP_lcR (fun i y => y = f i) hb fun ys s hl hp => by rw [eq_range_map hl hp]; exact q s

/-! ### tables -/
def eR (n : Nat) (r : Nat → Nat) : D := .tup ((List.range n).map fun y => .int (r y : Nat))
def eT (n : Nat) (m : Nat → Nat → Nat) : D := .lst ((List.range n).map fun x => eR n (m x))
structure Sg (n : Nat) (m : Nat → Nat → Nat) : Prop where
  pos : 0 < n
  cl : ∀ x y, x < n → y < n → m x y < n
  as : ∀ x y z, x < n → y < n → z < n → m (m x y) z = m x (m y z)
def isSg (most : Nat) (d : D) : Prop := ∃ n m, d = eT n m ∧ Sg n m ∧ n ≤ most
theorem atI_nat' {α : Type} {xs : List α} {i : Nat} : atI xs (i : Int) = xs[i]? := by
  unfold atI ixN
  rw [if_pos (Int.natCast_nonneg i)]
  by_cases h : i < xs.length
  · rw [if_pos (by omega)]; rfl
  · rw [if_neg (by omega), List.getElem?_eq_none (by omega)]; rfl
theorem range_get {α : Type} {f : Nat → α} {n i : Nat} (h : i < n) : ((List.range n).map f)[i]? = some (f i) := by
  rw [List.getElem?_map, List.getElem?_range h]; rfl
end G
namespace G
open PySem PySem.Spec PyProof.Rows L2
theorem okD_int {a : Int} : okD (.int a) = true := rfl
theorem eqB_int {a b : Int} : eqB (.int a) (.int b) = decide (a = b) := rfl
theorem eqD_int {a b : Int} : eqD (.int a) (.int b) = ret (.bl (decide (a = b))) := by
  unfold eqD
  rw [okD_int, okD_int, eqB_int]; rfl
theorem neD_int {a b : Int} : neD (.int a) (.int b) = ret (.bl (!decide (a = b))) := by
  unfold neD
  rw [okD_int, okD_int, eqB_int]; rfl
theorem getD_z {d : D} {e : Ev} : getD 0 (.val d :: e) = ret d := rfl
theorem getD_s {i : Nat} {x : Sl} {e : Ev} : getD (i + 1) (x :: e) = getD i e := rfl
theorem ownD_z {d : List D} {e : Ev} : ownD 0 (.own d :: e) = ret d := rfl
theorem ownD_s {i : Nat} {x : Sl} {e : Ev} : ownD (i + 1) (x :: e) = ownD i e := rfl
theorem own2D_z {d : List (List D)} {e : Ev} : own2D 0 (.own2 d :: e) = ret d := rfl
theorem own2D_s {i : Nat} {x : Sl} {e : Ev} : own2D (i + 1) (x :: e) = own2D i e := rfl
theorem frz_o {d : List D} {e : Ev} : frz 0 (.own d :: e) = .val (.lst d) :: e := rfl
theorem frz_o2 {d : List (List D)} {e : Ev} : frz 0 (.own2 d :: e) = .val (.lst (d.map D.lst)) :: e := rfl
theorem frz_v {d : D} {e : Ev} : frz 0 (.val d :: e) = .val d :: e := rfl
theorem frz_n {e : Ev} : frz 0 (.no :: e) = .no :: e := rfl
theorem frz_s {i : Nat} {x : Sl} {e : Ev} : frz (i + 1) (x :: e) = x :: frz i e := by
  unfold frz
  rw [List.getElem?_cons_succ]
  cases e[i]? with
  | none => rfl
  | some sl => cases sl <;> rfl
end G

namespace G
open PySem PySem.Spec PyProof.Rows L2

theorem atI_cons0 {α : Type} {x : α} {xs : List α} : atI (x :: xs) 0 = some x := atI_nat' (xs := x :: xs) (i := 0)
/-! ### tuples of numbers: equal, in -/
def eL (l : List Nat) : D := .tup (l.map fun n => .int (n : Nat))
theorem plains_map {α : Type} {f : α → D} (h : ∀ x, plain (f x) = true) : ∀ l : List α, plains (l.map f) = true
  | [] => rfl
  | x :: l => by
    rw [List.map_cons]; unfold plains; rw [h x, plains_map h l]; rfl
theorem plain_eL (l : List Nat) : plain (eL l) = true := by
  unfold eL plain
  exact plains_map (fun x => rfl) l
theorem lay_ints : ∀ l : List Nat, PyData.canLayAll0 (toPys (l.map fun n => D.int (n : Nat))) = true ∧ PyData.depthAll (toPys (l.map fun n => D.int (n : Nat))) ≤ 1
  | [] => ⟨rfl, Nat.zero_le _⟩
  | n :: l => by
    obtain ⟨a, b⟩ := lay_ints l
    rw [List.map_cons]
    unfold toPys PyData.canLayAll0 PyData.depthAll
    exact ⟨by rw [a]; rfl, Nat.max_le.mpr ⟨by unfold toPy PyData.depth; omega, b⟩⟩
theorem lay_eL (l : List Nat) : (toPy (eL l)).canLay0 = true ∧ (toPy (eL l)).depth ≤ 2 := by
  obtain ⟨a, b⟩ := lay_ints l
  unfold eL toPy
  unfold PyData.canLay0 PyData.depth
  exact ⟨a, by omega⟩
theorem okD_eL (l : List Nat) : okD (eL l) = true := by
  obtain ⟨a, b⟩ := lay_eL l
  unfold okD SeqAt.shaped
  rw [plain_eL, a, decide_eq_true (by omega)]; rfl
theorem lay_eLs : ∀ F : List (List Nat), PyData.canLayAll0 (toPys (F.map eL)) = true ∧ PyData.depthAll (toPys (F.map eL)) ≤ 2
  | [] => ⟨rfl, Nat.zero_le _⟩
  | l :: F => by
    obtain ⟨a, b⟩ := lay_eLs F
    obtain ⟨c, d⟩ := lay_eL l
    rw [List.map_cons]
    unfold toPys PyData.canLayAll0 PyData.depthAll
    exact ⟨by rw [a, c]; rfl, Nat.max_le.mpr ⟨d, b⟩⟩
theorem okD_eLs (F : List (List Nat)) : okD (.lst (F.map eL)) = true ∧ okD (.tup (F.map eL)) = true := by
  obtain ⟨a, b⟩ := lay_eLs F
  have p := plains_map plain_eL F
  refine ⟨?_, ?_⟩
  · unfold okD SeqAt.shaped toPy plain PyData.canLay0 PyData.depth
    rw [p, a, decide_eq_true (by omega)]; rfl
  · unfold okD SeqAt.shaped toPy plain PyData.canLay0 PyData.depth
    rw [p, a, decide_eq_true (by omega)]; rfl
theorem eqv_ints : ∀ l m : List Nat, PyData.eqvAll (toPys (l.map fun n => D.int (n : Nat))) (toPys (m.map fun n => D.int (n : Nat))) = decide (l = m)
  | [], [] => rfl
  | [], _ :: _ => rfl
  | _ :: _, [] => rfl
  | x :: l, y :: m => by
    rw [List.map_cons, List.map_cons]
    unfold toPys PyData.eqvAll
    rw [eqv_ints l m]
    show ((decide ((x : Int) = (y : Int))) && decide (l = m)) = _
    by_cases h : x = y
    · subst h; simp
    · rw [decide_eq_false (by omega)]
      symm
      rw [Bool.false_and]
      exact decide_eq_false fun z => h (List.cons.inj z).1
theorem eqB_eL {a b : List Nat} : eqB (eL a) (eL b) = decide (a = b) := by
  unfold eqB eL toPy PyData.eqv
  exact eqv_ints a b
theorem eqD_eL {a b : List Nat} : eqD (eL a) (eL b) = ret (.bl (decide (a = b))) := by
  unfold eqD; rw [okD_eL, okD_eL, eqB_eL]; rfl
theorem neD_eL {a b : List Nat} : neD (eL a) (eL b) = ret (.bl (!decide (a = b))) := by
  unfold neD; rw [okD_eL, okD_eL, eqB_eL]; rfl
theorem inB_eL {a : List Nat} : ∀ F : List (List Nat), inB (eL a) (F.map eL) = decide (a ∈ F)
  | [] => by simp [inB]
  | l :: F => by
    unfold inB
    rw [List.map_cons, List.any_cons, eqB_eL]
    have := inB_eL (a := a) F
    unfold inB at this
    rw [this]
    by_cases h : l = a
    · subst h; simp
    · rw [decide_eq_false h]; simp [Ne.symm h, List.mem_cons, eq_comm]
theorem inD_eL {neg : Bool} {a : List Nat} {F : List (List Nat)} : inD neg (eL a) (.lst (F.map eL)) = ret (.bl (if neg then !decide (a ∈ F) else decide (a ∈ F))) := by
  show (if okD (eL a) && okD (.lst (F.map eL)) then (ret (D.bl (if neg then !inB (eL a) (F.map eL) else inB (eL a) (F.map eL))) : Mo D) else bad) = _
  rw [okD_eL, (okD_eLs F).1, inB_eL]; rfl
theorem findI_eL {a : List Nat} : ∀ (F : List (List Nat)) (k : Nat), a ∈ F → findI (fun d => eqB d (eL a)) k (F.map eL) = some (k + F.idxOf a)
  | [], _, h => by cases h
  | l :: F, k, h => by
    rw [List.map_cons]
    unfold findI
    rw [eqB_eL]
    by_cases e : l = a
    · subst e
      rw [decide_eq_true rfl]
      simp
    · rw [decide_eq_false e, if_neg Bool.false_ne_true, findI_eL F (k + 1) ((List.mem_cons.mp h).resolve_left (fun z => e z.symm)), show (l :: F).idxOf a = F.idxOf a + 1 by
        rw [List.idxOf_cons, beq_eq_false_iff_ne.mpr e]; rfl]
      congr 1; omega
theorem indexL_eL {a : List Nat} {F : List (List Nat)} (h : a ∈ F) : indexL (F.map eL) (eL a) = ret (.int (F.idxOf a : Nat)) := by
  unfold indexL
  rw [okD_eL, (okD_eLs F).1, findI_eL F 0 h, Nat.zero_add]; rfl

/-! ### maps, one followed by the other -/
def comp (f g : List Nat) : List Nat := f.map fun x => g.getD x 0
def Mp (k : Nat) (f : List Nat) : Prop := f.length = k ∧ ∀ x ∈ f, x < k
theorem comp_mp {k : Nat} {f g : List Nat} (hf : Mp k f) (hg : Mp k g) : Mp k (comp f g) := by
  refine ⟨by unfold comp; rw [List.length_map]; exact hf.1, fun y hy => ?_⟩
  unfold comp at hy
  obtain ⟨x, hx, rfl⟩ := List.mem_map.mp hy
  have hl : x < g.length := by rw [hg.1]; exact hf.2 x hx
  rw [List.getD_eq_getElem?_getD, List.getElem?_eq_getElem hl]
  exact hg.2 _ (List.getElem_mem hl)
theorem comp_assoc {k : Nat} {f g h : List Nat} (hf : Mp k f) (hg : Mp k g) : comp (comp f g) h = comp f (comp g h) := by
  unfold comp
  rw [List.map_map]
  refine List.map_congr_left fun x hx => ?_
  have hl : x < g.length := by rw [hg.1]; exact hf.2 x hx
  show h.getD (g.getD x 0) 0 = (g.map fun x => h.getD x 0).getD x 0
  rw [List.getD_eq_getElem?_getD, List.getD_eq_getElem?_getD (l := g.map _), List.getElem?_map, List.getD_eq_getElem?_getD (l := g), List.getElem?_eq_getElem hl]
  rfl
theorem nodup_le {α : Type} [DecidableEq α] : ∀ {l u : List α}, l.Nodup → (∀ x ∈ l, x ∈ u) → l.length ≤ u.length
  | [], _, _, _ => Nat.zero_le _
  | x :: l, u, hn, h => by
    have hx := h x List.mem_cons_self
    have hn2 := List.nodup_cons.mp hn
    have := nodup_le (l := l) (u := u.erase x) hn2.2 fun y hy => by
      refine (List.mem_erase_of_ne (fun e => ?_)).mpr (h y (List.mem_cons_of_mem _ hy))
      subst e; exact hn2.1 hy
    rw [List.length_erase_of_mem hx] at this
    have := List.length_pos_of_mem hx
    rw [List.length_cons]; omega
def all2 : List (List Nat) := (List.range 2).flatMap fun a => (List.range 2).map fun b => [a, b]
def all3 : List (List Nat) := (List.range 3).flatMap fun a => (List.range 3).flatMap fun b => (List.range 3).map fun c => [a, b, c]
theorem few {k : Nat} (hk : k = 2 ∨ k = 3) {F : List (List Nat)} (hn : F.Nodup) (h : ∀ f ∈ F, Mp k f) : F.length ≤ 27 := by
  rcases hk with rfl | rfl
  · have := nodup_le (u := all2) hn fun f hf => by
      obtain ⟨a, b⟩ := h f hf
      match f, a, b with
      | [x, y], _, b =>
        have h1 := b x (by simp)
        have h2 := b y (by simp)
        simp only [all2, List.mem_flatMap, List.mem_map, List.mem_range]
        exact ⟨x, h1, y, h2, rfl⟩
    have e : all2.length = 4 := by decide
    omega
  · have := nodup_le (u := all3) hn fun f hf => by
      obtain ⟨a, b⟩ := h f hf
      match f, a, b with
      | [x, y, z], _, b =>
        have h1 := b x (by simp)
        have h2 := b y (by simp)
        have h3 := b z (by simp)
        simp only [all3, List.mem_flatMap, List.mem_map, List.mem_range]
        exact ⟨x, h1, y, h2, z, h3, rfl⟩
    have e : all3.length = 27 := by decide
    omega
/-- the maps that words of G give -/
inductive Wd (G : List (List Nat)) : List Nat → Prop
  | gen {g : List Nat} : g ∈ G → Wd G g
  | step {f g : List Nat} : Wd G f → g ∈ G → Wd G (comp f g)
def ClR (G F : List (List Nat)) : Prop := ∀ f ∈ F, ∀ g ∈ G, comp f g ∈ F
structure Cl (k : Nat) (G F : List (List Nat)) : Prop where
  nd : F.Nodup
  mp : ∀ f ∈ F, Mp k f
  wd : ∀ f ∈ F, Wd G f
theorem Cl.add {k : Nat} {G F : List (List Nat)} {h : List Nat} (c : Cl k G F) (n : h ∉ F) (m : Mp k h) (w : Wd G h) : Cl k G (F ++ [h]) := by
  refine ⟨?_, fun f hf => ?_, fun f hf => ?_⟩
  · rw [List.nodup_append]
    refine ⟨c.nd, by simp, fun a ha b hb e => ?_⟩
    rw [List.mem_singleton.mp hb] at e
    exact n (e ▸ ha)
  · rcases List.mem_append.mp hf with z | z
    · exact c.mp f z
    · rw [List.mem_singleton.mp z]; exact m
  · rcases List.mem_append.mp hf with z | z
    · exact c.wd f z
    · rw [List.mem_singleton.mp z]; exact w
theorem Wd.closed {k : Nat} {G F : List (List Nat)} (hG : ∀ g ∈ G, Mp k g) (c : Cl k G F) (r : ClR G F) {g : List Nat} (w : Wd G g) (hg : Mp k g → True) : ∀ f ∈ F, comp f g ∈ F := by
  have hm : ∀ {g : List Nat}, Wd G g → Mp k g := fun w => by
    induction w with
    | gen h => exact hG _ h
    | step _ h ih => exact comp_mp ih (hG _ h)
  induction w with
  | gen h => exact fun f hf => r f hf _ h
  | step w h ih =>
    intro f hf
    rw [← comp_assoc (c.mp f hf) (hm w)]
    exact r _ (ih (fun _ => trivial) f hf) _ h
theorem WP_loop0 {h : D → Option (List D)} {js : List Nat} {body : Ev → Mo Fl} (I : Nat → Ev → Prop) {Q : Fl → S → Prop} {ds : List D} {env : Ev} {s : S} (h0 : I 0 env)
    (hb : ∀ i d e s, ds[i]? = some d → I i e → ∃ xs, h d = some xs ∧ WP (body (setsE js xs e)) s fun o _ => ∃ e', (o = .nx e' ∨ o = .ct e') ∧ I (i + 1) e')
    (q : ∀ e s, I ds.length e → Q (.nx e) s) : WP (loopD h js body ds env) s Q :=
  WP_loop I ds 0 env s h0 (fun i d e s hd hi => by rw [Nat.zero_add] at hi ⊢; exact hb i d e s hd hi) fun e s hi => q e s (by rw [Nat.zero_add] at hi; exact hi)
theorem nats_of {k : Nat} : ∀ {ys : List D}, (∀ (i : Nat) (y : D), ys[i]? = some y → ∃ v : Nat, v < k ∧ y = D.int (v : Nat)) → ∃ l : List Nat, ys = l.map (fun n => D.int (n : Nat)) ∧ ∀ x ∈ l, x < k
  | [], _ => ⟨[], rfl, fun x h => by cases h⟩
  | y :: ys, h => by
    obtain ⟨v, hv, rfl⟩ := h 0 y rfl
    obtain ⟨l, rfl, hl⟩ := nats_of (ys := ys) fun i z hz => h (i + 1) z hz
    exact ⟨v :: l, rfl, fun x hx => by
      rcases List.mem_cons.mp hx with e | e
      · rw [e]; exact hv
      · exact hl x e⟩
structure FinOk (k : Nat) (F : List (List Nat)) : Prop where
  pos : 0 < F.length
  nd : F.Nodup
  mp : ∀ f ∈ F, Mp k f
  cl : ∀ f ∈ F, ∀ g ∈ F, comp f g ∈ F
def mt (F : List (List Nat)) (x y : Nat) : Nat := F.idxOf (comp (F.getD x []) (F.getD y []))
theorem getD_mem {F : List (List Nat)} {x : Nat} (h : x < F.length) : F.getD x [] ∈ F := by
  rw [List.getD_eq_getElem?_getD, List.getElem?_eq_getElem h]
  exact List.getElem_mem h
theorem getD_idxOf {F : List (List Nat)} {a : List Nat} (h : a ∈ F) : F.getD (F.idxOf a) [] = a := by
  rw [List.getD_eq_getElem?_getD, List.getElem?_eq_getElem (List.idxOf_lt_length_of_mem h)]
  exact List.getElem_idxOf _
theorem mt_sg {k : Nat} {F : List (List Nat)} (o : FinOk k F) : Sg F.length (mt F) := by
  refine ⟨o.pos, fun x y hx hy => List.idxOf_lt_length_of_mem (o.cl _ (getD_mem hx) _ (getD_mem hy)), fun x y z hx hy hz => ?_⟩
  unfold mt
  rw [getD_idxOf (o.cl _ (getD_mem hx) _ (getD_mem hy)), getD_idxOf (o.cl _ (getD_mem hy) _ (getD_mem hz)), comp_assoc (o.mp _ (getD_mem hx)) (o.mp _ (getD_mem hy))]
theorem fin_of {k : Nat} {G F : List (List Nat)} (hG : ∀ g ∈ G, Mp k g) (hne : G ≠ []) (c : Cl k G F) (hs : ∀ g ∈ G, g ∈ F) (r : ClR G F) : FinOk k F := by
  refine ⟨?_, c.nd, c.mp, fun f hf g hg => Wd.closed hG c r (c.wd g hg) (fun _ => trivial) f hf⟩
  cases G with
  | nil => exact absurd rfl hne
  | cons g G => exact List.length_pos_of_mem (hs g List.mem_cons_self)
theorem fin_const {k c : Nat} (h : c < k) : FinOk k [List.replicate k c] := by
  have e : comp (List.replicate k c) (List.replicate k c) = List.replicate k c := by
    unfold comp
    rw [List.map_replicate, List.getD_eq_getElem?_getD, List.getElem?_replicate, if_pos h]
    rfl
  refine ⟨by simp, by simp, fun f hf => ?_, fun f hf g hg => ?_⟩
  · rw [List.mem_singleton.mp hf]
    exact ⟨by simp, fun x hx => by rw [(List.mem_replicate.mp hx).2]; exact h⟩
  · rw [List.mem_singleton.mp hf, List.mem_singleton.mp hg, e]; exact List.mem_singleton.mpr rfl
theorem map_range_getD {α β : Type} {f : α → β} {d : α} {F : List α} : F.map f = (List.range F.length).map fun x => f (F.getD x d) := by
  refine List.ext_getElem? fun i => ?_
  rw [List.getElem?_map, List.getElem?_map]
  by_cases h : i < F.length
  · rw [List.getElem?_range h, List.getElem?_eq_getElem h]
    show _ = some (f (F.getD i d))
    rw [List.getD_eq_getElem?_getD, List.getElem?_eq_getElem h]; rfl
  · rw [List.getElem?_eq_none (by omega), List.getElem?_eq_none (by rw [List.length_range]; omega)]; rfl
theorem cut_first {G : List (List Nat)} (h : G ≠ []) : cutL (G.map eL) none (some 1) = (G.take 1).map eL := by
  unfold cutL
  rw [HT.sIx_none, List.drop_zero, show HT.sIx (G.map eL).length (G.map eL).length (some 1) = min 1 (G.map eL).length from HT.sIx_nat _ _ 1, List.map_take]
  have := List.length_pos_iff.mpr h
  rw [List.length_map, show min 1 G.length - 0 = 1 by omega]
theorem eq_map {α : Type} {F : List α} {h : α → D} {ys : List D} (hl : ys.length = F.length) (hp : ∀ (i : Nat) (y : D), ys[i]? = some y → ∃ f, F[i]? = some f ∧ y = h f) : ys = F.map h := by
  refine List.ext_getElem? fun i => ?_
  rw [List.getElem?_map]
  by_cases hi : i < ys.length
  · obtain ⟨f, h1, h2⟩ := hp i _ (List.getElem?_eq_getElem hi)
    rw [List.getElem?_eq_getElem hi, h2, h1]; rfl
  · rw [List.getElem?_eq_none (by omega), List.getElem?_eq_none (by omega)]; rfl
theorem WP_lcM {α : Type} {j : Nat} {fe : Ev → Mo D} {env : Ev} {F : List α} {e : α → D} (h : α → D) {Q : List D → S → Prop} {s : S}
    (hb : ∀ f s, f ∈ F → WP (fe (env.set j (.val (e f)))) s fun y _ => y = h f) (q : ∀ s, Q (F.map h) s) : WP (lcD hName [j] yesT fe env (F.map e)) s Q := by
  refine WP_lc (fun i y => ∃ f, F[i]? = some f ∧ y = h f) _ 0 s (fun i d s hd => ?_) fun ys s hl hp => ?_
  · rw [List.getElem?_map] at hd
    cases e1 : F[i]? with
    | none => rw [e1] at hd; cases hd
    | some f =>
      rw [e1] at hd
      cases hd
      exact ⟨_, rfl, WP_mono (hb f s (List.mem_of_getElem? e1)) fun y s' hy => ⟨f, by rw [Nat.zero_add]; exact e1, hy⟩⟩
  · have e2 : ys = F.map h := eq_map (h := h) (by rw [hl, List.length_map]) fun i y hy => by have := hp i y hy; rwa [Nat.zero_add] at this
    rw [e2]
    exact q s
/-! ### triples with holes -/
def blkP (b g : Nat) (t : Nat → Nat → Nat) (x y : Nat) : Nat := (x / (g * b) * g + (x / b + t (x % b) (y / (g * b)) + y / b) % g) * b + y % b
def blkM (a b g : Nat) (t : Nat → Nat → Nat) (hl : Nat → Nat → Bool) (zero : Bool) (x y : Nat) : Nat :=
  if a * b * g ≤ x ∨ a * b * g ≤ y then a * b * g else if zero && hl (x % b) (y / (g * b)) then a * b * g else blkP b g t x y
theorem blkP_parts {a b g : Nat} (hb : 0 < b) (hg : 0 < g) {t : Nat → Nat → Nat} {x y : Nat} (hx : x < a * b * g) :
    blkP b g t x y < a * b * g ∧ blkP b g t x y % b = y % b ∧ blkP b g t x y / b = x / (g * b) * g + (x / b + t (x % b) (y / (g * b)) + y / b) % g ∧ blkP b g t x y / (g * b) = x / (g * b) := by
  have hJ := Nat.mod_lt y hb
  have hT := Nat.mod_lt (x / b + t (x % b) (y / (g * b)) + y / b) hg
  have h1 : blkP b g t x y % b = y % b := by
    unfold blkP
    rw [Nat.mul_comm _ b, Nat.mul_add_mod, Nat.mod_mod]
  have h2 : blkP b g t x y / b = x / (g * b) * g + (x / b + t (x % b) (y / (g * b)) + y / b) % g := by
    unfold blkP
    rw [Nat.mul_comm _ b, Nat.mul_add_div hb, Nat.div_eq_of_lt hJ, Nat.add_zero]
  have h3 : blkP b g t x y / (g * b) = x / (g * b) := by
    rw [Nat.mul_comm g b, ← Nat.div_div_eq_div_mul, h2, Nat.mul_comm _ g, Nat.mul_add_div hg, Nat.div_eq_of_lt hT, Nat.add_zero, Nat.mul_comm g b]
  refine ⟨?_, h1, h2, h3⟩
  have hI : x / (g * b) < a := by
    refine Nat.div_lt_of_lt_mul ?_
    rw [show g * b * a = a * b * g by rw [Nat.mul_comm (g * b) a, Nat.mul_comm g b, Nat.mul_assoc]]
    exact hx
  have : blkP b g t x y / (g * b) < a := by rw [h3]; exact hI
  have := (Nat.div_lt_iff_lt_mul (Nat.mul_pos hg hb)).mp this
  rwa [show a * (g * b) = a * b * g by rw [Nat.mul_comm g b, Nat.mul_assoc]] at this
theorem blk_sg {a b g : Nat} (ha : 0 < a) (hb : 0 < b) (hg : 0 < g) {t : Nat → Nat → Nat} {hl : Nat → Nat → Bool} (zero : Bool) : Sg (a * b * g + (if zero then 1 else 0)) (blkM a b g t hl zero) := by
  have pos : 0 < a * b * g := Nat.mul_pos (Nat.mul_pos ha hb) hg
  refine ⟨by omega, fun x y hx hy => ?_, fun x y z hx hy hz => ?_⟩
  · unfold blkM
    split
    · rename_i h
      cases zero with
      | true => simp
      | false => simp at hx hy; omega
    · split
      · rename_i h
        cases zero with
        | true => simp
        | false => simp at h
      · have := (blkP_parts (t := t) (y := y) hb hg (show x < a * b * g by omega)).1
        omega
  · by_cases bad : a * b * g ≤ x ∨ a * b * g ≤ y ∨ a * b * g ≤ z
    · have e1 : blkM a b g t hl zero (blkM a b g t hl zero x y) z = a * b * g := by
        by_cases h1 : a * b * g ≤ x ∨ a * b * g ≤ y
        · rw [show blkM a b g t hl zero x y = a * b * g by unfold blkM; rw [if_pos h1]]
          unfold blkM; rw [if_pos (.inl (Nat.le_refl _))]
        · unfold blkM
          rw [if_pos (.inr (by omega))]
      have e2 : blkM a b g t hl zero x (blkM a b g t hl zero y z) = a * b * g := by
        by_cases h1 : a * b * g ≤ y ∨ a * b * g ≤ z
        · rw [show blkM a b g t hl zero y z = a * b * g by unfold blkM; rw [if_pos h1]]
          unfold blkM; rw [if_pos (.inr (Nat.le_refl _))]
        · unfold blkM
          rw [if_pos (.inl (by omega))]
      rw [e1, e2]
    · have hx' : x < a * b * g := by omega
      have hy' : y < a * b * g := by omega
      have hz' : z < a * b * g := by omega
      obtain ⟨p1, p2, p3, p4⟩ := blkP_parts (a := a) (t := t) (y := y) hb hg hx'
      obtain ⟨q1, q2, q3, q4⟩ := blkP_parts (a := a) (t := t) (y := z) hb hg hy'
      by_cases h1 : (zero && hl (x % b) (y / (g * b))) = true
      · have e1 : blkM a b g t hl zero x y = a * b * g := by unfold blkM; rw [if_neg (by omega), if_pos h1]
        rw [e1, show blkM a b g t hl zero (a * b * g) z = a * b * g by unfold blkM; rw [if_pos (.inl (Nat.le_refl _))]]
        by_cases h2 : (zero && hl (y % b) (z / (g * b))) = true
        · rw [show blkM a b g t hl zero y z = a * b * g by unfold blkM; rw [if_neg (by omega), if_pos h2]]
          unfold blkM; rw [if_pos (.inr (Nat.le_refl _))]
        · rw [show blkM a b g t hl zero y z = blkP b g t y z by unfold blkM; rw [if_neg (by omega), if_neg h2]]
          unfold blkM; rw [if_neg (by omega), q4, if_pos h1]
      · rw [show blkM a b g t hl zero x y = blkP b g t x y by unfold blkM; rw [if_neg (by omega), if_neg h1]]
        by_cases h2 : (zero && hl (y % b) (z / (g * b))) = true
        · rw [show blkM a b g t hl zero y z = a * b * g by unfold blkM; rw [if_neg (by omega), if_pos h2]]
          rw [show blkM a b g t hl zero x (a * b * g) = a * b * g by unfold blkM; rw [if_pos (.inr (Nat.le_refl _))]]
          unfold blkM; rw [if_neg (by omega), p2, if_pos h2]
        · rw [show blkM a b g t hl zero y z = blkP b g t y z by unfold blkM; rw [if_neg (by omega), if_neg h2]]
          rw [show blkM a b g t hl zero (blkP b g t x y) z = blkP b g t (blkP b g t x y) z by unfold blkM; rw [if_neg (by omega), p2, if_neg h2],
            show blkM a b g t hl zero x (blkP b g t y z) = blkP b g t x (blkP b g t y z) by unfold blkM; rw [if_neg (by omega), q4, if_neg h1]]
          have sumL : (x / (g * b) * g + (x / b + t (x % b) (y / (g * b)) + y / b) % g + t (y % b) (z / (g * b)) + z / b) % g = (x / b + t (x % b) (y / (g * b)) + (y / b + t (y % b) (z / (g * b)) + z / b)) % g := by
            rw [show x / (g * b) * g + (x / b + t (x % b) (y / (g * b)) + y / b) % g + t (y % b) (z / (g * b)) + z / b = g * (x / (g * b)) + ((x / b + t (x % b) (y / (g * b)) + y / b) % g + (t (y % b) (z / (g * b)) + z / b)) by rw [Nat.mul_comm g (x / (g * b))]; omega, Nat.mul_add_mod, Nat.mod_add_mod]
            congr 1; omega
          have hyb : y / b = y / (g * b) * g + y / b % g := by
            have := Nat.div_add_mod (y / b) g
            rw [Nat.div_div_eq_div_mul, Nat.mul_comm b g, Nat.mul_comm g (y / (g * b))] at this
            omega
          have sumR : (x / b + t (x % b) (y / (g * b)) + (y / (g * b) * g + (y / b + t (y % b) (z / (g * b)) + z / b) % g)) % g = (x / b + t (x % b) (y / (g * b)) + (y / b + t (y % b) (z / (g * b)) + z / b)) % g := by
            rw [show x / b + t (x % b) (y / (g * b)) + (y / (g * b) * g + (y / b + t (y % b) (z / (g * b)) + z / b) % g) = g * (y / (g * b)) + ((y / b + t (y % b) (z / (g * b)) + z / b) % g + (x / b + t (x % b) (y / (g * b)))) by rw [Nat.mul_comm g (y / (g * b))]; omega, Nat.mul_add_mod, Nat.mod_add_mod]
            congr 1; omega
          rw [show blkP b g t (blkP b g t x y) z = (blkP b g t x y / (g * b) * g + (blkP b g t x y / b + t (blkP b g t x y % b) (z / (g * b)) + z / b) % g) * b + z % b from rfl, p2, p3, p4, sumL,
            show blkP b g t x (blkP b g t y z) = (x / (g * b) * g + (x / b + t (x % b) (blkP b g t y z / (g * b)) + blkP b g t y z / b) % g) * b + blkP b g t y z % b from rfl, q2, q3, q4, sumR]
end G

namespace G
open PySem PySem.Spec PyProof.Rows L2

/-! ### a new set of whole numbers out of a list -/
abbrev voidSet (w : World) : Obj := { cls := .type "set", dict := none, data := .set #[] 0 (.fresh 0 0 (!w.params.followText "set-order")) }
section
variable {P : Program} {w : World} {A : Around} {E : Value → Shared → Prop} {s : Shared}
set_option maxHeartbeats 3200000 in
theorem set_of_list {l : Addr} {its : Array Value} (ns : List Int) {Q : Value → Shared → Prop} (quiet : A.handled = none) (isL : s.heap.IsList l its) (isI : IntsAre its.toList ns) (few : ns.length + 1 < scanBound)
    (done : ∀ (g : Heap) (tk c : Nat), SetR w g s.heap.objs.size (fun j => decide (j ∈ ns)) c → c ≤ ns.length → (∀ b o, s.heap.get? b = some o → g.get? b = some o) → Q (.ref s.heap.objs.size) { s with heap := g, toks := tk }) :
    wpAny (model P w) A (call (.type "set") [.ref l]) Q E s := by
  have sz : its.size = ns.length := by rw [← Array.length_toList]; exact IntsAre.length isI
  obtain ⟨c, tl, hmro⟩ := F.called_set.mro
  have made := F.called_set.made
  have sub := F.called_set.sub
  refine wpAny_call (codeAny_of_tree (show wpAny _ _ (callAny (.type "set") _) _ _ _ from ?_))
  refine wpAny_pure ⟨Code.quiet_builtin _ (by decide +kernel), codeAny_builtin F.entry_type_call ?_⟩
  rw [Around.under_plain (weight_type_call_type "set" [.ref l] []) rfl]
  have e1 := F.called_set.notType
  have e2 := F.called_set.canCreate
  have e3 := F.typeCall_set_1 (.ref l)
  repeat (any_goals (first | assumption | wp_step))
  refine codeAny_mono (code_set_led1 (.ref l) (E := E) (Q₁ := fun o t => o = .ref s.heap.objs.size ∧ t = { s with heap := s.heap.push (voidSet w) }) ⟨rfl, rfl⟩) fun r t hr => ?_
  cases r with
  | error e => exact hr
  | ok fl =>
    cases fl with
    | ret o =>
      obtain ⟨rfl, rfl⟩ := hr
      have at0 : (s.heap.push (voidSet w)).get? s.heap.objs.size = some (voidSet w) := Heap.get?_push_size _ rfl
      have ty : Shared.TypeIs { s with heap := s.heap.push (voidSet w) } (.ref s.heap.objs.size) "set" := ⟨_, at0, rfl⟩
      have look := F.called_set.init.lookup
      have bind := F.called_set.init.bind (.ref s.heap.objs.size)
      repeat (any_goals (first | assumption | wp_step))
      refine codeAny_mono (codeAny_call_builtin (R := wants (fun r t => r = .none ∧ ∃ g tk c, t = { s with heap := g, toks := tk } ∧ SetR w g s.heap.objs.size (fun j => decide (j ∈ ns)) c ∧ c ≤ ns.length ∧ ∀ b o, s.heap.get? b = some o → g.get? b = some o) E)
        F.called_set.init.plain F.entry_set_init (check_set_init_1 ty ?_)) fun r2 t2 hr2 => ?_
      · obtain ⟨ob, at1, cl, k, da⟩ := isL
        obtain ⟨xc, xd, xa, xs⟩ := ob
        simp only at cl da
        subst cl; subst da
        have at2 : (s.heap.push (voidSet w)).get? l = some { cls := .type "list", dict := xd, data := .seq its k, slots := xs } := Heap.get?_push_of_some _ at1
        have l1 : (s.heap.push (voidSet w)).IsList l its := ⟨_, at2, rfl, k, rfl⟩
        have su1 := F.sub_list_set
        have su2 := F.sub_list_frozenset
        have su3 : (Value.type "list" == Value.type "dict") = false := by decide
        unfold Builtin.«set.__init__» noKeywords Builtin.Frozenset.updateFrom
        generalize hp : pyIter = PI
        wp_walk
        subst hp
        refine wpAny_pyIter_list l1 (wpAny_bind (wpAny_runValue ?_))
        have below : l < s.heap.objs.size := Heap.lt_size at1
        have q3 : A.in1.in1.in1.handled = none := by simp [quiet]
        have z1 : (s.heap.push (voidSet w)).objs.size = s.heap.objs.size + 1 := Heap.size_push ..
        have apart : l ≠ (s.heap.push (voidSet w)).objs.size := by rw [z1]; exact Nat.ne_of_lt (Nat.lt_succ_of_lt below)
        have free : s.heap.objs.size ∉ [(s.heap.push (voidSet w)).objs.size, l] := by
          rw [z1]
          intro z
          rcases List.mem_cons.mp z with z | z
          · exact absurd z (Nat.ne_of_lt (Nat.lt_succ_self _))
          · exact absurd (List.mem_singleton.mp z) (Nat.ne_of_gt below)
        have vals : ∀ (i : Nat) (v : Value), its[i]? = some v → ∃ k t, ns[i]? = some k ∧ v = .int k t := fun i v hv => by
          have hi : i < ns.length := by rw [← sz]; exact (Array.getElem?_eq_some_iff.mp hv).1
          obtain ⟨t, e⟩ := PyProof.Rows.IntsAre.int_at isI i v (by rw [Array.getElem?_toList]; exact hv)
          rw [List.getD_eq_getElem?_getD, List.getElem?_eq_getElem hi] at e
          exact ⟨_, t, List.getElem?_eq_getElem hi, e⟩
        refine set_update_ints ((Walks.list q3 _ l apart its).toS) s.heap.objs.size free ns sz few vals (its.size - 0) 0 _ (by omega) (Nat.zero_le _) ⟨⟨_, Heap.get?_push_size _ rfl, rfl, rfl⟩, l1.push _⟩ ?start ?last
        case start =>
          exact ⟨0, Nat.le_refl 0, setR_new_at (Heap.get?_push_of_some _ at0)⟩
        case last =>
          intro t3 c3 mv hc3 R3
          obtain ⟨g3, gn3, dr3, tk3, os3⟩ := t3
          have eg : gn3 = s.gens := mv.gens
          have ed : dr3 = s.drawn := mv.drawn
          have eo : os3 = s.os := mv.os
          subst eg; subst ed; subst eo
          show wpAny _ _ _ _ _ _
          refine wpAny_pure (show wpAny _ _ (PySem.ret Value.none) _ _ _ from wpAny_pure ⟨rfl, g3, tk3, c3, rfl, R3, by rw [← sz]; exact hc3, fun b o e => ?_⟩)
          have hb : b < s.heap.objs.size := Heap.lt_size e
          refine mv.heap b o (fun z => ?_) (Heap.get?_push_of_some _ (Heap.get?_push_of_some _ e))
          rcases List.mem_cons.mp z with z | z
          · exact absurd z (Nat.ne_of_lt hb)
          · have z2 := List.mem_singleton.mp z
            rw [z1] at z2
            exact absurd z2 (Nat.ne_of_lt (Nat.lt_succ_of_lt hb))
      · cases r2 with
        | error e => exact hr2
        | ok f2 =>
          cases f2 with
          | ret r =>
            obtain ⟨rfl, g, tk, c, rfl, R, hc, kp⟩ := hr2
            repeat (any_goals (first | assumption | wp_step))
            exact done _ _ _ R hc kp
          | _ => exact hr2.elim
    | _ => exact hr.elim
end
section
variable {X : Cx}
/-- sorted(set(e)): the members of the list e once each, ascending -/
def tSrtSet (K : PySem.W.Frag) (ta : TE) : TE := fun σ H Q => ta σ H fun x H1 => ∃ (l : Addr) (ns : List Int), x = V.ref l ∧ SqL K H1 l (ns.map V.int) ∧ ns.length < 64 ∧
  ∀ (ks : List Int) (p : Addr), ks.Pairwise (· < ·) → (∀ k, k ∈ ks ↔ k ∈ ns) → H1 p = none → Q (.ref p) (upd H1 p (.lst (ks.map V.int)))
theorem pe_srtSet {a : Expr} {ta : TE} {p p2 q pos : Pos} (hc : X.calm = true) (hg : Gl X "sorted") (hm : X.mg "sorted" = none) (hg2 : Gl X "set") (hm2 : X.mg "set" = none) (ha : PE X a ta)
    (na : starEach [a] X.env = (false, eval a X.env) :: starEach [] X.env := by rfl) : PE X (.Call (.Name "sorted" p) [.Call (.Name "set" p2) [a] [] q] [] pos) (tSrtSet X.K ta) := by
  refine ⟨fun pins s σ H Q I h => ?_⟩
  refine Call_ (ld_blt I hg hm PyProof.Rows.boot_sorted ?_)
  refine PyProof.Rows.callWith_builtin1 (PyProof.Rows.args_cons ?_ rfl) rfl rfl
  refine Call_ (ld_blt I hg2 hm2 PyProof.Rows.boot_set ?_)
  refine PyProof.Rows.callWith_type1 (PyProof.Rows.args_cons (thn (ha.run pins s σ H _ I h) fun v s1 ⟨x, H1, I1, r1, q1⟩ => PyProof.Rows.args_nil ?_) na) na rfl
  obtain ⟨l, ns, rfl, hq, few, post⟩ := q1
  cases r1
  obtain ⟨its, rv, pl, hz⟩ := I1.list hq
  refine set_of_list ns (I1.ok.hd hc) pl.isList (by simpa using rv.ints) (by unfold scanBound; omega) fun g tk c R hcn kp => ?_
  refine PyProof.Rows.args_nil ?_
  have I2 : Inv X pins σ H1 { s1 with heap := g, toks := tk } := I1.kept kp
  obtain ⟨s2, es2⟩ : ∃ s2 : Shared, s2 = { s1 with heap := g, toks := tk } := ⟨_, rfl⟩
  have R : SetR X.w s2.heap s1.heap.objs.size (fun j => decide (j ∈ ns)) c := by rw [es2]; exact R
  rw [← es2] at I2 ⊢
  refine sorted_set R (I2.ok.hd hc) (by omega) fun s3 b out c3 ks k3 g3 o3 hp hgt hi hs hm3 hl => ?_
  have hlen : (ks.map V.int).length ≤ sizeLine := by rw [List.length_map, hl, sizeLine_eq]; omega
  have hn : H1 b = none := I2.hok.fresh hp
  have J : Inv X pins σ (upd H1 b (.lst (ks.map V.int))) { s2 with heap := s3.heap, gens := s3.gens, drawn := s3.drawn, toks := s3.toks } :=
    I2.call (ch := []) (Un.laid k3 hp hn) (I2.hok.laid k3 hp ⟨hlen, out.toList, c3, vals_of_ints hi, hgt⟩) (by rw [g3]; exact I2.bare) (fun _ z => nomatch z)
  have e : s3 = { s2 with heap := s3.heap, gens := s3.gens, drawn := s3.drawn, toks := s3.toks } := by
    cases s3; cases s2; cases o3; rfl
  rw [e]
  exact ⟨.ref b, _, J, rfl, post ks b hs (fun k => (hm3 k).trans decide_eq_true_iff) hn⟩
end

/-! ### the same for data -/
def intsOf : List D → Option (List Int)
  | [] => some []
  | .int i :: r => (intsOf r).map (i :: ·)
  | _ :: _ => none
/-- ascending, each once -/
def ins (i : Int) : List Int → List Int
  | [] => [i]
  | k :: r => if i < k then i :: k :: r else if i = k then k :: r else k :: ins i r
def asc : List Int → List Int
  | [] => []
  | i :: r => ins i (asc r)
theorem mem_ins {i x : Int} : ∀ {l : List Int}, x ∈ ins i l ↔ x = i ∨ x ∈ l
  | [] => by unfold ins; simp
  | k :: r => by
    unfold ins
    split
    · simp
    · split
      · rename_i h; subst h; simp
      · rw [List.mem_cons, List.mem_cons, mem_ins]
        exact ⟨fun h => h.elim (fun h => .inr (.inl h)) fun h => h.elim .inl fun h => .inr (.inr h), fun h => h.elim (fun h => .inr (.inl h)) fun h => h.elim .inl fun h => .inr (.inr h)⟩
theorem mem_asc {x : Int} : ∀ {l : List Int}, x ∈ asc l ↔ x ∈ l
  | [] => .rfl
  | k :: r => by unfold asc; rw [mem_ins, mem_asc, List.mem_cons]
theorem pw_ins {i : Int} : ∀ {l : List Int}, l.Pairwise (· < ·) → (ins i l).Pairwise (· < ·)
  | [], _ => by unfold ins; exact List.pairwise_singleton _ _
  | k :: r, h => by
    obtain ⟨h1, h2⟩ := List.pairwise_cons.mp h
    unfold ins
    split
    · rename_i hk
      refine List.pairwise_cons.mpr ⟨fun x hx => ?_, h⟩
      rcases List.mem_cons.mp hx with e | e
      · rw [e]; exact hk
      · exact Int.lt_trans hk (h1 x e)
    · split
      · exact h
      · rename_i hk he
        refine List.pairwise_cons.mpr ⟨fun x hx => ?_, pw_ins h2⟩
        rcases mem_ins.mp hx with e | e
        · rw [e]; omega
        · exact h1 x e
theorem pw_asc : ∀ l : List Int, (asc l).Pairwise (· < ·)
  | [] => .nil
  | k :: r => by unfold asc; exact pw_ins (pw_asc r)
theorem asc_unique : ∀ {l m : List Int}, l.Pairwise (· < ·) → m.Pairwise (· < ·) → (∀ x, x ∈ l ↔ x ∈ m) → l = m
  | [], [], _, _, _ => rfl
  | [], k :: m, _, _, h => by have := (h k).mpr List.mem_cons_self; cases this
  | k :: l, [], _, _, h => by have := (h k).mp List.mem_cons_self; cases this
  | a :: l, b :: m, h1, h2, h => by
    obtain ⟨a1, a2⟩ := List.pairwise_cons.mp h1
    obtain ⟨b1, b2⟩ := List.pairwise_cons.mp h2
    have e : a = b := by
      rcases List.mem_cons.mp ((h a).mp List.mem_cons_self) with e | e
      · exact e
      · rcases List.mem_cons.mp ((h b).mpr List.mem_cons_self) with e2 | e2
        · exact e2.symm
        · have := b1 a e; have := a1 b e2; omega
    subst e
    rw [asc_unique a2 b2 fun x => ?_]
    refine ⟨fun hx => ?_, fun hx => ?_⟩
    · rcases List.mem_cons.mp ((h x).mp (List.mem_cons_of_mem _ hx)) with e | e
      · have := a1 x hx; omega
      · exact e
    · rcases List.mem_cons.mp ((h x).mpr (List.mem_cons_of_mem _ hx)) with e | e
      · have := b1 x hx; omega
      · exact e
theorem ins_len (i : Int) : ∀ l : List Int, (ins i l).length ≤ l.length + 1
  | [] => Nat.le_refl _
  | k :: r => by
    have := ins_len i r
    unfold ins
    split
    · exact Nat.le_refl _
    · split
      · exact Nat.le_succ _
      · simp only [List.length_cons]; omega
theorem asc_len : ∀ l : List Int, (asc l).length ≤ l.length
  | [] => Nat.le_refl _
  | i :: r => by
    have := asc_len r
    have := ins_len i (asc r)
    unfold asc
    simp only [List.length_cons]; omega
def srtSetL : D → Mo (List D)
  | .lst ds => match intsOf ds with
    | some ns => if ns.length < 64 then ret ((asc ns).map D.int) else bad
    | none => bad
  | _ => bad
theorem repsIs {Γ : Gx} {H : Hp} : ∀ {vs : List V} {ds : List D} {ns : List Int}, Reps Γ H vs ds → intsOf ds = some ns → vs = ns.map V.int
  | _, _, ns, .nil, e => by cases e; rfl
  | _, _, ns, .cons a b, e => by
    cases a with
    | int i =>
      simp only [intsOf] at e
      cases q : intsOf _ with
      | none => rw [q] at e; cases e
      | some r =>
        rw [q] at e
        cases e
        rw [repsIs b q]; rfl
    | _ => cases e
theorem int_reps {Γ : Gx} {H : Hp} : ∀ ns : List Int, Reps Γ H (ns.map V.int) (ns.map D.int)
  | [] => .nil
  | i :: r => .cons (.int i) (int_reps r)
section
variable {Γ : Gx} {E : XK}
theorem df_srtSet {ta : TE} {f : Ev → Mo D} (ha : DE Γ E ta f) : DF Γ E (tSrtSet Γ.K ta) (fun env => bnd (f env) srtSetL) := fun M O σ env H s x Q h => by
  refine ha M O σ env H s x _ (PostR.bnd h fun a s1 v H1 e1 t1 r1 h1 => ?_)
  cases r1 with
  | lst e l r =>
    rename_i a vs ds
    simp only [srtSetL] at h1
    cases q : intsOf ds with
    | none => rw [q] at h1; exact h1.elim
    | some ns =>
      rw [q] at h1
      simp only at h1
      by_cases few : ns.length < 64
      · rw [if_pos few] at h1
        have ev := repsIs r q
        subst ev
        refine ⟨_, ns, rfl, .of (msk_get e), few, fun ks p hs hm np => ?_⟩
        have ek : ks = asc ns := asc_unique hs (pw_asc ns) fun k => (hm k).trans mem_asc.symm
        subst ek
        have ok1 := x.ok.ext e1 t1
        have np0 : H p = none := x.ok.st.back t1 e1 np
        refine h1 _ _ (Ext.new np) (ok1.newSt np) ⟨p, _, rfl, np0, upd_same, ?_, int_reps _⟩
        rw [List.length_map]
        have := asc_len ns
        rw [sizeLine_eq]; omega
      · rw [if_neg few] at h1; exact h1.elim
  | _ => exact h1.elim
end
end G

namespace G
open PySem PySem.Spec PyProof.Rows L2

/-! ### comprehensions of two clauses -/
section
variable {Γ : Gx} {E : XK}
def lccD (h : D → Option (List D)) (js : List Nat) (ft : Ev → Mo Bool) (fi1 : Ev → Mo (List D)) (h1 : D → Option (List D)) (js1 : List Nat) (ft1 : Ev → Mo Bool) (fe : Ev → Mo D) (vs1 : List Nat) (env : Ev) : List D → Mo (List D)
  | [] => ret []
  | d :: r => bnd (optM (h d)) fun as => bnd (nox (ft (setsE js as env))) fun b =>
      if b then bnd (nox (fi1 (setsE js as env))) fun ds1 => if ds1.length ≤ 300 then bnd (lcD h1 js1 ft1 fe (wipeE (setsE js as env) vs1) ds1) fun ys => bnd (lccD h js ft fi1 h1 js1 ft1 fe vs1 env r) fun zs => ret (ys ++ zs) else bad
      else lccD h js ft fi1 h1 js1 ft1 fe vs1 env r
def compDD (fi : Ev → Mo (List D)) (h : D → Option (List D)) (js : List Nat) (ft : Ev → Mo Bool) (fi1 : Ev → Mo (List D)) (h1 : D → Option (List D)) (js1 : List Nat) (ft1 : Ev → Mo Bool) (fe : Ev → Mo D) (vs vs1 : List Nat) : Ev → Mo (List D) :=
  fun env => bnd (fi env) fun ds => if ds.length ≤ 300 then lccD h js ft fi1 h1 js1 ft1 fe vs1 (wipeE env vs) ds else bad
/-- the list under way grows outside what else is known -/
theorem RepX.more {N : Addr → Prop} {O : Ow} {σ : L2.St} {env : Ev} {H : Hp} {s : S} {L : Addr} {o o' : HO} (x : RepX Γ N O σ env H s) (mL : N L) (nS : L ≠ Γ.sa) (hL : H L = some o) (ow : ∀ i a, a ∈ O i → a ≠ L) (w : Pl o := by exact ⟨nofun, nofun, fun _ _ z => HO.noConfusion z⟩) (w' : Pl o' := by exact ⟨nofun, nofun, fun _ _ z => HO.noConfusion z⟩) : RepX Γ N O σ env (upd H L o') s := by
  have em : msk N (upd H L o') = msk N H := msk_upd mL
  refine ⟨fun i d hd => ?_, fun i sl hd hso => ?_, x.non, x.inM, x.nod, x.dis, x.ok.setM hL nS w w', x.len, x.mee⟩
  · obtain ⟨v, a, b⟩ := x.val i d hd
    exact ⟨v, a, by rw [em]; exact b⟩
  · obtain ⟨v, h1, h2⟩ := x.own i sl hd hso
    exact ⟨v, h1, h2.keep (fun a ha u hu => by rw [upd_ne (ow i a ha)]; exact hu) (by rw [em]; exact fun _ _ q => q)⟩
theorem df_lcc {E' : XK} {wi wi1 : TI} {g g1 : TG} {tt tt1 : TT} {te : TE} {vs vs1 : List Nat} {fi fi1 : Ev → Mo (List D)} {h h1 : D → Option (List D)} {js js1 : List Nat} {ft ft1 : Ev → Mo Bool} {fe : Ev → Mo D}
    (hi : DI Γ E wi fi) (hg : DG Γ g h js) (ht : DT Γ E' tt ft) (hi1 : DI Γ E' wi1 fi1) (hg1 : DG Γ g1 h1 js1) (ht1 : DT Γ E' tt1 ft1) (he : DE Γ E' te fe) (hv : ∀ j ∈ js, j ∈ vs) (hv1 : ∀ j ∈ js1, j ∈ vs1) :
    DF Γ E (tLc2 wi g tt wi1 g1 tt1 te vs vs1) (compDD fi h js ft fi1 h1 js1 ft1 fe vs vs1) := fun M O σ env H s x Q q => by
  unfold compDD at q
  refine hi M O σ env H s x _ (PostR.bnd q fun ds s1 J H1 e1 t1 r1 p1 => ?_)
  by_cases few : ds.length ≤ 300
  case neg => rw [if_neg few] at p1; exact p1.elim
  rw [if_pos few] at p1
  obtain ⟨gv, gd, rg, hz, it⟩ := r1
  intro L nL
  have x1 := x.ext e1 t1
  have nM : ¬ M L := x1.ok.fresh nL
  have nS : L ≠ Γ.sa := fun z => nM (by rw [z]; exact x1.ok.ms)
  have nL0 : H L = none := x.ok.st.back t1 e1 nL
  have up : ∀ p o, msk M H1 p = some o → msk (fun a => M a ∨ a = L) (upd H1 L (.lst [])) p = some o :=
    msk_more (fun p a b => a.elim (fun a => absurd a b) fun a => (by rw [a]; exact nL)) fun p o q => by
      rw [upd_ne (ne_of_none (msk_get q) nL)]
      exact msk_get q
  have ok0 : HpOk Γ (fun a => M a ∨ a = L) (upd H1 L (.lst [])) s1 := x1.ok.addM nL
  have xw := x1.wipe vs
  have x0 : RepX Γ (fun a => M a ∨ a = L) (O.clr vs) (wipe σ vs) (wipeE env vs) (upd H1 L (.lst [])) s1 :=
    ⟨fun i d hd => by
      obtain ⟨v, a, b⟩ := xw.val i d hd
      exact ⟨v, a, b.mono up⟩, fun i sl hd ho => by
      obtain ⟨v, h1, h2⟩ := xw.own i sl hd ho
      exact ⟨v, h1, h2.keep (fun a ha u hu => by rw [upd_ne (ne_of_none hu nL)]; exact hu) up⟩, xw.non, fun i a ha => ⟨.inl (xw.inM i a ha).1, (xw.inM i a ha).2⟩, xw.nod, xw.dis, ok0, xw.len, xw.mee⟩
  have ownL : ∀ i a, a ∈ (O.clr vs) i → a ≠ L := fun i a ha z => nM (by rw [← z]; exact (xw.inM i a ha).1)
  have mL : (fun a => M a ∨ a = L) L := .inr rfl
  refine ⟨fun i m H2 => m = ds.length - i ∧ i ≤ ds.length ∧ ∃ acc accd s2, RepX Γ (fun a => M a ∨ a = L) (O.clr vs) (wipe σ vs) (wipeE env vs) H2 s2 ∧ Ext Γ.sa H1 H2 ∧ H2 L = some (.lst acc) ∧ acc.length ≤ 300 * i ∧
    Reps Γ (msk (fun a => M a ∨ a = L) H2) acc accd ∧ Rep Γ (msk (fun a => M a ∨ a = L) H2) gv gd ∧ PostR Γ E M (RF Γ M H) H1 (bnd (lccD h js ft fi1 h1 js1 ft1 fe vs1 (wipeE env vs) (ds.drop i)) (fun ys => ret (accd ++ ys)) s2) Q, ⟨ds.length, ?_⟩, ?_⟩
  · exact ⟨by omega, Nat.zero_le _, [], [], s1, x0, Ext.new nL, upd_same, Nat.zero_le _, .nil, rg.mono up, by
      rw [show bnd (lccD h js ft fi1 h1 js1 ft1 fe vs1 (wipeE env vs) (ds.drop 0)) (fun ys => ret ([] ++ ys)) = lccD h js ft fi1 h1 js1 ft1 fe vs1 (wipeE env vs) ds from bnd_eta _]; exact p1⟩
  · rintro i m H2 ⟨rfl, hi2, acc, accd, s2, x2, e2, hL, hacc, racc, rg2, post⟩
    by_cases hlt : i < ds.length
    · have hd : ds[i]? = some ds[i] := List.getElem?_eq_getElem hlt
      obtain ⟨go, yld⟩ := (it _ H2 s2 x2.ok rg2 i).1 ds[i] hd
      rw [List.drop_eq_getElem_cons hlt] at post
      refine .inr ⟨go, fun H' => ∃ acc accd s2, RepX Γ (fun a => M a ∨ a = L) (O.clr vs) (wipe σ vs) (wipeE env vs) H' s2 ∧ Ext Γ.sa H1 H' ∧ H' L = some (.lst acc) ∧ acc.length ≤ 300 * (i + 1) ∧
        Reps Γ (msk (fun a => M a ∨ a = L) H') acc accd ∧ Rep Γ (msk (fun a => M a ∨ a = L) H') gv gd ∧ PostR Γ E M (RF Γ M H) H1 (bnd (lccD h js ft fi1 h1 js1 ft1 fe vs1 (wipeE env vs) (ds.drop (i + 1))) (fun ys => ret (accd ++ ys)) s2) Q,
        fun H' n => ⟨ds.length - (i + 1), by omega, rfl, hlt, n⟩, fun v H3 y => ?_⟩
      obtain ⟨e3, t3, rv⟩ := yld v H3 y
      have x3 := x2.ext e3 t3
      unfold lccD at post
      rw [bnd_assoc] at post
      obtain ⟨as, ha, post⟩ := PostR.step post
      obtain ⟨la, ga⟩ := hg _ H3 s2 v ds[i] as x3.ok rv ha
      refine ga _ _ fun ws rw' => ⟨wipe_sets hv, ?_⟩
      have x4 := x3.sets (js := js) rw'
      rw [bnd_assoc] at post
      refine ht _ _ _ _ H3 s2 x4 _ (nox_post post fun b s5 b' H5 e5 t5 rb post => ?_)
      subst rb
      cases b' with
      | false =>
        refine iteF ?_
        exact ⟨acc, accd, s5, x3.ext e5 t5, (e2.trans e3).trans e5, e5 _ _ (e3 _ _ hL nS nofun) nS nofun, by omega, x3.ok.reps e5 (x2.ok.reps e3 racc), x3.ok.rep e5 (x2.ok.rep e3 rg2), post⟩
      | true =>
        refine iteT ?_
        have x5 := x4.ext e5 t5
        simp only [if_true] at post
        rw [bnd_assoc] at post
        refine hi1 _ _ _ _ H5 s5 x5 _ (nox_post post fun ds1 s6 J1 H6 e6 t6 r6 post => ?_)
        by_cases few1 : ds1.length ≤ 300
        case neg => rw [if_neg few1] at post; exact post.elim
        rw [if_pos few1] at post
        obtain ⟨gv1, gd1, rg1, hz1, it1⟩ := r6
        have x6 := (x3.ext e5 t5).ext e6 t6
        have rw6 := (x3.ext e5 t5).ok.reps e6 (x3.ok.reps e5 rw')
        rw [bnd_assoc] at post
        have ek : (fun a => bnd (bnd (lccD h js ft fi1 h1 js1 ft1 fe vs1 (wipeE env vs) (ds.drop (i + 1))) fun zs => ret (a ++ zs)) fun ys => ret (accd ++ ys)) = fun ys => bnd (lccD h js ft fi1 h1 js1 ft1 fe vs1 (wipeE env vs) (ds.drop (i + 1))) fun zs => ret (accd ++ (ys ++ zs)) := by
          funext a
          rw [bnd_assoc]; rfl
        rw [ek] at post
        refine ⟨fun j k H7 => k = ds1.length - j ∧ j ≤ ds1.length ∧ ∃ acc accd s7, RepX Γ (fun a => M a ∨ a = L) (O.clr vs) (wipe σ vs) (wipeE env vs) H7 s7 ∧ Ext Γ.sa H1 H7 ∧ H7 L = some (.lst acc) ∧ acc.length ≤ 300 * i + j ∧
          Reps Γ (msk (fun a => M a ∨ a = L) H7) acc accd ∧ Rep Γ (msk (fun a => M a ∨ a = L) H7) gv gd ∧ Rep Γ (msk (fun a => M a ∨ a = L) H7) gv1 gd1 ∧ Reps Γ (msk (fun a => M a ∨ a = L) H7) ws as ∧
          PostR Γ E M (RF Γ M H) H1 (bnd (lcD h1 js1 ft1 fe (wipeE (setsE js as (wipeE env vs)) vs1) (ds1.drop j)) (fun ys => bnd (lccD h js ft fi1 h1 js1 ft1 fe vs1 (wipeE env vs) (ds.drop (i + 1))) fun zs => ret (accd ++ (ys ++ zs))) s7) Q, ⟨ds1.length, ?_⟩, ?_⟩
        · exact ⟨by omega, Nat.zero_le _, acc, accd, s6, x6, ((e2.trans e3).trans e5).trans e6, e6 _ _ (e5 _ _ (e3 _ _ hL nS nofun) nS nofun) nS nofun, by omega, x5.ok.reps e6 (x3.ok.reps e5 (x2.ok.reps e3 racc)), x5.ok.rep e6 (x3.ok.rep e5 (x2.ok.rep e3 rg2)), rg1, rw6, post⟩
        · clear post rw6 x6 racc hacc hL rg1
          rintro j k H7 ⟨rfl, hj, acc, accd, s7, x7, e7, hL, hacc, racc, rg7, rg1, rw7, post⟩
          by_cases jlt : j < ds1.length
          · have hd1 : ds1[j]? = some ds1[j] := List.getElem?_eq_getElem jlt
            obtain ⟨go1, yld1⟩ := (it1 _ H7 s7 x7.ok rg1 j).1 ds1[j] hd1
            rw [List.drop_eq_getElem_cons jlt] at post
            refine .inr ⟨go1, fun H' => ∃ acc accd s7, RepX Γ (fun a => M a ∨ a = L) (O.clr vs) (wipe σ vs) (wipeE env vs) H' s7 ∧ Ext Γ.sa H1 H' ∧ H' L = some (.lst acc) ∧ acc.length ≤ 300 * i + (j + 1) ∧
              Reps Γ (msk (fun a => M a ∨ a = L) H') acc accd ∧ Rep Γ (msk (fun a => M a ∨ a = L) H') gv gd ∧ Rep Γ (msk (fun a => M a ∨ a = L) H') gv1 gd1 ∧ Reps Γ (msk (fun a => M a ∨ a = L) H') ws as ∧
              PostR Γ E M (RF Γ M H) H1 (bnd (lcD h1 js1 ft1 fe (wipeE (setsE js as (wipeE env vs)) vs1) (ds1.drop (j + 1))) (fun ys => bnd (lccD h js ft fi1 h1 js1 ft1 fe vs1 (wipeE env vs) (ds.drop (i + 1))) fun zs => ret (accd ++ (ys ++ zs))) s7) Q,
              fun H' n => ⟨ds1.length - (j + 1), by omega, rfl, jlt, n⟩, fun v1 H8 y1 => ?_⟩
            obtain ⟨e8, t8, rv1⟩ := yld1 v1 H8 y1
            have x8 := x7.ext e8 t8
            have rw8 := x7.ok.reps e8 rw7
            unfold lcD at post
            rw [bnd_assoc] at post
            obtain ⟨bs, hb, post⟩ := PostR.step post
            obtain ⟨lb, gb⟩ := hg1 _ H8 s7 v1 ds1[j] bs x8.ok rv1 hb
            refine gb _ _ fun us ru => ⟨wipe_sets hv1, ?_⟩
            have x9 := ((x8.sets (js := js) rw8).wipe vs1).sets (js := js1) ru
            rw [bnd_assoc] at post
            refine ht1 _ _ _ _ H8 s7 x9 _ (nox_post post fun b s10 b' H10 e10 t10 rb post => ?_)
            subst rb
            cases b' with
            | false =>
              refine iteF ?_
              exact ⟨acc, accd, s10, x8.ext e10 t10, (e7.trans e8).trans e10, e10 _ _ (e8 _ _ hL nS nofun) nS nofun, by omega, x8.ok.reps e10 (x7.ok.reps e8 racc), x8.ok.rep e10 (x7.ok.rep e8 rg7), x8.ok.rep e10 (x7.ok.rep e8 rg1), x8.ok.reps e10 rw8, post⟩
            | true =>
              refine iteT ?_
              have x10 := x9.ext e10 t10
              simp only [if_true] at post
              rw [bnd_assoc] at post
              refine he _ _ _ _ H10 s10 x10 _ (nox_post post fun yd s11 yv H11 e11 t11 ry post => ?_)
              have hL11 : H11 L = some (.lst acc) := e11 _ _ (e10 _ _ (e8 _ _ hL nS nofun) nS nofun) nS nofun
              have x11 := (x8.ext e10 t10).ext e11 t11
              have em : msk (fun a => M a ∨ a = L) (upd H11 L (.lst (acc ++ [yv]))) = msk (fun a => M a ∨ a = L) H11 := msk_upd mL
              have k1 : ∀ {v : V} {d : D}, Rep Γ (msk (fun a => M a ∨ a = L) H7) v d → Rep Γ (msk (fun a => M a ∨ a = L) H11) v d := fun r => x10.ok.rep e11 (x8.ok.rep e10 (x7.ok.rep e8 r))
              have k2 : ∀ {v : List V} {d : List D}, Reps Γ (msk (fun a => M a ∨ a = L) H7) v d → Reps Γ (msk (fun a => M a ∨ a = L) H11) v d := fun r => x10.ok.reps e11 (x8.ok.reps e10 (x7.ok.reps e8 r))
              refine ⟨acc, hL11, by rw [sizeLine_eq]; omega, acc ++ [yv], accd ++ [yd], s11, x11.more mL nS hL11 ownL, ?_, upd_same, by rw [List.length_append, List.length_singleton]; omega, ?_, ?_, ?_, ?_, ?_⟩
              · intro p o ho hs
                by_cases hpL : p = L
                · rw [hpL, nL] at ho; cases ho
                · rw [upd_ne hpL]
                  exact ((e7.trans e8).trans (e10.trans e11)) p o ho hs
              · rw [em]; exact (k2 racc).append (.cons ry .nil)
              · rw [em]; exact k1 rg7
              · rw [em]; exact k1 rg1
              · rw [em]; exact k2 rw7
              · rw [bnd_assoc] at post
                have ef : (fun a => bnd (ret (yd :: a)) fun ys => bnd (lccD h js ft fi1 h1 js1 ft1 fe vs1 (wipeE env vs) (ds.drop (i + 1))) fun zs => ret (accd ++ (ys ++ zs))) = fun ys => bnd (lccD h js ft fi1 h1 js1 ft1 fe vs1 (wipeE env vs) (ds.drop (i + 1))) fun zs => ret ((accd ++ [yd]) ++ (ys ++ zs)) := by
                  funext a
                  rw [bnd_ret]
                  congr 1
                  funext zs
                  simp
                rw [ef] at post
                exact post
          · have ej : j = ds1.length := by omega
            subst ej
            refine .inl ⟨(it1 _ H7 s7 x7.ok rg1 _).2 (Nat.le_refl _), ?_⟩
            rw [List.drop_length] at post
            exact ⟨acc, accd, s7, x7, e7, hL, by omega, racc, rg7, post⟩
    · have ei : i = ds.length := by omega
      subst ei
      refine .inl ⟨(it _ H2 s2 x2.ok rg2 _).2 (Nat.le_refl _), ?_⟩
      rw [List.drop_length] at post
      have post : PostR Γ E M (RF Γ M H) H1 (ret (accd ++ []) s2) Q := post
      rw [List.append_nil] at post
      exact (post.later e2).here x2.ok.st ⟨L, acc, rfl, nL0, hL, by rw [sizeLine_eq]; omega, racc⟩
end
section
variable {ι : Type} {Γ : Gx} {X : ι → Cx} {k : Nat} {E : XK}
theorem ve_fn0 {lev : Nat} {x : Str} {g : List D → Mo D} {p pos : Pos} (gx : GX Γ X k E) (F : ∀ j, Fd (X j).prog (X j).w (X j).K (X j).mg (X j).base Γ x lev 0 g) (hk : lev ≤ k)
    (hg : ∀ j, Gl (X j) x := by intro _; rfl) (hdb : (x == ("__debug__" : Str)) = false := by decide) : VE Γ X E (.Call (.Name x p) [] [] pos) (opLD g nilA) := by
  refine ⟨tCall (spD Γ 0 g) [] E tNil, fun j => ?_, fun sa => de_fn da_nil fun env s ds s' h => by cases h; rfl⟩
  obtain ⟨fa, fd, ps, F1, F2, F3, F4⟩ := (F j).ex
  exact pe_call0 F1 ((gx.room j).mono hk) (hg j) F2 F3 F4 .nil (passes_call (gx.tk j) fun _ _ _ _ h => h) hdb
theorem vf_lcc {elt tg iter tg1 iter1 : Expr} {ifs ifs1 : List Expr} {scope : Scope} {own : List (Str × Nat)} {pos : Pos} {fi fi1 : Ev → Mo (List D)} {h h1 : D → Option (List D)} {js js1 : List Nat} {ft ft1 : Ev → Mo Bool} {fe : Ev → Mo D} (g : GX Γ X k E) (hi : VI Γ X E tg iter fi)
    (ok : ∀ j, BlkOk (X j).N (X j).env.scope scope own) (hg : VG Γ (blkF X scope) tg h js) (ht : VTs Γ (blkF X scope) E0 ifs ft) (hi1 : VI Γ (blkF X scope) E0 tg1 iter1 fi1) (hg1 : VG Γ (blkF X scope) tg1 h1 js1) (ht1 : VTs Γ (blkF X scope) E0 ifs1 ft1) (he : VE Γ (blkF X scope) E0 elt fe)
    (hv : ∀ j ∈ js, j ∈ own.map (·.2) := by decide) (hv2 : ∀ j ∈ js1, j ∈ own.map (·.2) := by decide)
    (hs : ∀ j x, foldedSetIterable iter (X j).env x = pure x := by intro _ _; rfl) (hs1 : ∀ env x, foldedSetIterable iter1 env x = pure x := by intro _ _; rfl) : VF Γ X E (.ListComp elt [⟨tg, iter, ifs, 0⟩, ⟨tg1, iter1, ifs1, 0⟩] scope pos) (compDD fi h js ft fi1 h1 js1 ft1 fe (own.map (·.2)) js1) := by
  obtain ⟨wi, pi, di⟩ := hi.ex
  obtain ⟨tg', pg, dg⟩ := hg.ex
  obtain ⟨tt, pt, dt⟩ := ht.ex
  obtain ⟨wi1, pi1, di1⟩ := hi1.ex
  obtain ⟨tg1', pg1, dg1⟩ := hg1.ex
  obtain ⟨tt1, pt1, dt1⟩ := ht1.ex
  obtain ⟨te, pe, de⟩ := he.ex
  exact ⟨_, fun j => pe_lc2 (vs1 := js1) (g.calm j) (g.nd j) (pi j) (ok j) hv2 (fun s H C cl fp => pg (j, s, H, C, cl, fp)) (fun s H C cl fp => pt (j, s, H, C, cl, fp)) (fun s H C cl fp => pi1 (j, s, H, C, cl, fp)) (fun s H C cl fp => pg1 (j, s, H, C, cl, fp)) (fun s H C cl fp => pt1 (j, s, H, C, cl, fp)) (fun s H C cl fp => pe (j, s, H, C, cl, fp)) (hs j) hs1,
    fun sa => df_lcc (di sa) (dg sa) (dt sa) (di1 sa) (dg1 sa) (dt1 sa) (de sa) hv fun _ h => h⟩
theorem vs_setLcc (i : Nat) {y : Str} {py : Pos} {elt tg iter tg1 iter1 : Expr} {ifs ifs1 : List Expr} {scope : Scope} {own : List (Str × Nat)} {pos spos : Pos} {fi fi1 : Ev → Mo (List D)} {h h1 : D → Option (List D)} {js js1 : List Nat} {ft ft1 : Ev → Mo Bool} {fe : Ev → Mo D} (g : GX Γ X k E) (hi : VI Γ X E tg iter fi)
    (ok : ∀ j, BlkOk (X j).N (X j).env.scope scope own) (hg : VG Γ (blkF X scope) tg h js) (ht : VTs Γ (blkF X scope) E0 ifs ft) (hi1 : VI Γ (blkF X scope) E0 tg1 iter1 fi1) (hg1 : VG Γ (blkF X scope) tg1 h1 js1) (ht1 : VTs Γ (blkF X scope) E0 ifs1 ft1) (he : VE Γ (blkF X scope) E0 elt fe)
    (hy : ∀ j, (X j).N[i]? = some y := by intro _; rfl) (hyl : ∀ j, (X j).env.scope.names.lookup y = some .local := by intro _; rfl)
    (hsw : ∀ j, swapsWith (.ListComp elt [⟨tg, iter, ifs, 0⟩, ⟨tg1, iter1, ifs1, 0⟩] scope pos) (some (.Name y py)) spos.line (X j).env = pure true := by intro _; exact sw_true rfl rfl rfl (by decide +kernel))
    (hv : ∀ j ∈ js, j ∈ own.map (·.2) := by decide) (hv2 : ∀ j ∈ js1, j ∈ own.map (·.2) := by decide)
    (hs : ∀ j x, foldedSetIterable iter (X j).env x = pure x := by intro _ _; rfl) (hs1 : ∀ env x, foldedSetIterable iter1 env x = pure x := by intro _ _; rfl) : VS Γ X E (.Assign [.Name y py] (.ListComp elt [⟨tg, iter, ifs, 0⟩, ⟨tg1, iter1, ifs1, 0⟩] scope pos) spos) (setS i (asL (compDD fi h js ft fi1 h1 js1 ft1 fe (own.map (·.2)) js1))) := by
  obtain ⟨wi, pi, di⟩ := hi.ex
  obtain ⟨tg', pg, dg⟩ := hg.ex
  obtain ⟨tt, pt, dt⟩ := ht.ex
  obtain ⟨wi1, pi1, di1⟩ := hi1.ex
  obtain ⟨tg1', pg1, dg1⟩ := hg1.ex
  obtain ⟨tt1, pt1, dt1⟩ := ht1.ex
  obtain ⟨te, pe, de⟩ := he.ex
  exact ⟨_, fun j => ps_setLc2 (vs1 := js1) (g.calm j) (g.nd j) (hy j) (hyl j) (hsw j) (pi j) (ok j) hv2 (fun s H C cl fp => pg (j, s, H, C, cl, fp)) (fun s H C cl fp => pt (j, s, H, C, cl, fp)) (fun s H C cl fp => pi1 (j, s, H, C, cl, fp)) (fun s H C cl fp => pg1 (j, s, H, C, cl, fp)) (fun s H C cl fp => pt1 (j, s, H, C, cl, fp)) (fun s H C cl fp => pe (j, s, H, C, cl, fp)) (hs j) hs1,
    fun sa => ds_set (de_new (df_lcc (di sa) (dg sa) (dt sa) (di1 sa) (dg1 sa) (dt1 sa) (de sa) hv fun _ h => h))⟩
theorem vf_srtSet {a : Expr} {f : Ev → Mo D} {p p2 q pos : Pos} (g : GX Γ X k E) (hm : ∀ j, (X j).mg "sorted" = none) (hm2 : ∀ j, (X j).mg "set" = none) (ha : VE Γ X E a f) (hg : ∀ j, Gl (X j) "sorted" := by intro _; rfl) (hg2 : ∀ j, Gl (X j) "set" := by intro _; rfl)
    (na : ∀ j, starEach [a] (X j).env = (false, eval a (X j).env) :: starEach [] (X j).env := by intro _; rfl) : VF Γ X E (.Call (.Name "sorted" p) [.Call (.Name "set" p2) [a] [] q] [] pos) (fun env => bnd (f env) srtSetL) := by
  obtain ⟨t, pt, dt⟩ := ha.ex
  exact ⟨tSrtSet Γ.K t, fun j => g.K j ▸ pe_srtSet (g.calm j) (hg j) (hm j) (hg2 j) (hm2 j) (pt j) (na j), fun sa => df_srtSet (Γ := Γ.at sa) (dt sa)⟩
theorem vr_2 {a b : Expr} {f f2 : Ev → Mo D} {p pos : Pos} (hm : ∀ j, (X j).mg "range" = none) (h : VE Γ X E a f) (h2 : VE Γ X E b f2) (hg : ∀ j, Gl (X j) "range" := by intro _; rfl)
    (na : ∀ j, starEach [a, b] (X j).env = (false, eval a (X j).env) :: starEach [b] (X j).env := by intro _; rfl) (nb : ∀ j, starEach [b] (X j).env = (false, eval b (X j).env) :: starEach [] (X j).env := by intro _; rfl) (hpl : ∀ j, (backTo pos (starEach [b] (X j).env)).any (·.1) = false := by intro _; rfl) :
    VR Γ X E (.Call (.Name "range" p) [a, b] [] pos) (fun env => bnd (f env) fun d => bnd (asInt d) fun m => bnd (f2 env) fun e => bnd (asInt e) fun n => ret (m, n)) := by
  obtain ⟨t, q, d⟩ := h.ex
  obtain ⟨t2, q2, d2⟩ := h2.ex
  exact ⟨_, fun j => prg_2 (hg j) (hm j) (q j) (q2 j) (na j) (nb j) (hpl j), fun sa => dr_2 (d sa) (d2 sa)⟩
end
end G

namespace G
open PySem PySem.Spec PyProof.Rows L2
/-! ### a, b = x, y -/
def parS (js : List Nat) (f : Ev → Mo (List D)) : Ev → Mo Fl := fun env => bnd (f env) fun ds => if ds.length = js.length then ret (.nx (setsE js ds env)) else bad
section
variable {Γ : Gx} {E : XK}
theorem two_of {α : Type} : ∀ {l : List α}, l.length = 2 → ∃ a b, l = [a, b]
  | [a, b], _ => ⟨a, b, rfl⟩
theorem three_of {α : Type} : ∀ {l : List α}, l.length = 3 → ∃ a b c, l = [a, b, c]
  | [a, b, c], _ => ⟨a, b, c, rfl⟩
theorem ds_par {ta : TA} {f : Ev → Mo (List D)} {i j : Nat} (a : DA Γ E ta f) : DS Γ E (tPar i j ta) (parS [i, j] f) := fun H0 M0 Gs O σ env H s N r q => by
  refine a _ O σ env H s r.x _ (PostS.bnd r q fun ds s1 vs H1 e1 t1 r1 h1 => ?_)
  by_cases hl : ds.length = [i, j].length
  · rw [if_pos hl] at h1
    have r2 := (r.later e1 t1).sets (js := [i, j]) r1
    obtain ⟨v, w, rfl⟩ := two_of (r1.length.trans hl)
    exact ⟨v, w, rfl, h1 _ _ H1 r2⟩
  · rw [if_neg hl] at h1; exact h1.elim
theorem ds_par3 {ta : TA} {f : Ev → Mo (List D)} {i j l : Nat} (a : DA Γ E ta f) : DS Γ E (tPar3 i j l ta) (parS [i, j, l] f) := fun H0 M0 Gs O σ env H s N r q => by
  refine a _ O σ env H s r.x _ (PostS.bnd r q fun ds s1 vs H1 e1 t1 r1 h1 => ?_)
  by_cases hl : ds.length = [i, j, l].length
  · rw [if_pos hl] at h1
    have r2 := (r.later e1 t1).sets (js := [i, j, l]) r1
    obtain ⟨u, v, w, rfl⟩ := three_of (r1.length.trans hl)
    exact ⟨u, v, w, rfl, h1 _ _ H1 r2⟩
  · rw [if_neg hl] at h1; exact h1.elim
end
section
variable {ι : Type} {Γ : Gx} {X : ι → Cx} {k : Nat} {E : XK}
theorem vs_par (i j : Nat) {x y : Str} {a b : Expr} {f : Ev → Mo (List D)} {px py pt pos : Pos} {kt k2 pt2} (g : GX Γ X k E) (ha : VA Γ X E [a, b] f) (hi : ∀ n, (X n).N[i]? = some x := by intro _; rfl) (hj : ∀ n, (X n).N[j]? = some y := by intro _; rfl) (hij : i ≠ j := by decide)
    (hx : ∀ n, (X n).env.scope.names.lookup x = some .local := by intro _; rfl) (hy : ∀ n, (X n).env.scope.names.lookup y = some .local := by intro _; rfl)
    (hw : ∀ n, swappedStores [.Tuple [.Name x px, .Name y py] kt pt] (.Tuple [a, b] k2 pt2) (X n).env = pure (some [x, y]) := by intro _; rfl)
    (hs : ∀ n, swapsWithSole [.Tuple [.Name x px, .Name y py] kt pt] (.Tuple [a, b] k2 pt2) pos.line (X n).env = pure false := by intro _; rfl) :
    VS Γ X E (.Assign [.Tuple [.Name x px, .Name y py] kt pt] (.Tuple [a, b] k2 pt2) pos) (parS [i, j] f) := by
  obtain ⟨t, p, d⟩ := ha.ex
  exact ⟨_, fun n => ps_par (g.calm n) (g.nd n) (hi n) (hj n) hij (hx n) (hy n) (p n) (hw n) (hs n), fun sa => ds_par (d sa)⟩
theorem vs_par3 (i j l : Nat) {x y z : Str} {a b c : Expr} {f : Ev → Mo (List D)} {px py pz pt pos : Pos} {kt k2 pt2} (g : GX Γ X k E) (ha : VA Γ X E [a, b, c] f) (hi : ∀ n, (X n).N[i]? = some x := by intro _; rfl) (hj : ∀ n, (X n).N[j]? = some y := by intro _; rfl) (hl : ∀ n, (X n).N[l]? = some z := by intro _; rfl) (hij : i ≠ j := by decide) (hil : i ≠ l := by decide) (hjl : j ≠ l := by decide)
    (hx : ∀ n, (X n).env.scope.names.lookup x = some .local := by intro _; rfl) (hy : ∀ n, (X n).env.scope.names.lookup y = some .local := by intro _; rfl) (hz : ∀ n, (X n).env.scope.names.lookup z = some .local := by intro _; rfl)
    (hw : ∀ n, swappedStores [.Tuple [.Name x px, .Name y py, .Name z pz] kt pt] (.Tuple [a, b, c] k2 pt2) (X n).env = pure (some [x, y, z]) := by intro _; rfl)
    (hs : ∀ n, swapsWithSole [.Tuple [.Name x px, .Name y py, .Name z pz] kt pt] (.Tuple [a, b, c] k2 pt2) pos.line (X n).env = pure false := by intro _; rfl) :
    VS Γ X E (.Assign [.Tuple [.Name x px, .Name y py, .Name z pz] kt pt] (.Tuple [a, b, c] k2 pt2) pos) (parS [i, j, l] f) := by
  obtain ⟨t, p, d⟩ := ha.ex
  exact ⟨_, fun n => ps_par3 (g.calm n) (g.nd n) (hi n) (hj n) (hl n) hij hil hjl (hx n) (hy n) (hz n) (p n) (hw n) (hs n), fun sa => ds_par3 (d sa)⟩
end
end G

namespace G
open PySem PySem.Spec PyProof.Rows L2
/-! ### denotations that give one value, whatever the state -/
section
variable {α β : Type}
theorem nox_ret (a : α) : nox (ret a) = ret a := rfl
theorem opt_some (a : α) : optM (some a) = ret a := rfl
theorem yes_ret (env : Ev) : yesT env = ret true := rfl
def eI (n : Nat) : D := .int (n : Nat)
theorem range_eI (n : Nat) : rangeL 0 n = (List.range n).map eI := by
  unfold rangeL eI
  exact List.map_congr_left fun x _ => by rw [Int.zero_add]
theorem lcf_eq {j : Nat} {ft : Ev → Mo Bool} {fe : Ev → Mo D} {env : Ev} {e : α → D} (p : α → Bool) (h : α → D) : ∀ l : List α, (∀ x ∈ l, ft (env.set j (.val (e x))) = ret (p x)) → (∀ x ∈ l, p x = true → fe (env.set j (.val (e x))) = ret (h x)) →
    lcD hName [j] ft fe env (l.map e) = ret ((l.filter p).map h)
  | [], _, _ => rfl
  | x :: l, h1, h2 => by
    have ih := lcf_eq p h l (fun y hy => h1 y (List.mem_cons_of_mem _ hy)) fun y hy => h2 y (List.mem_cons_of_mem _ hy)
    rw [List.map_cons]
    unfold lcD
    rw [show hName (e x) = some [e x] from rfl, opt_some, bnd_ret]
    show bnd (nox (ft (env.set j (.val (e x))))) _ = _
    rw [h1 x List.mem_cons_self, nox_ret, bnd_ret]
    cases hp : p x with
    | true =>
      rw [if_pos rfl]
      show bnd (nox (fe (env.set j (.val (e x))))) _ = _
      rw [h2 x List.mem_cons_self hp, nox_ret, bnd_ret, ih, bnd_ret, List.filter_cons, if_pos hp]; rfl
    | false =>
      rw [if_neg Bool.false_ne_true, ih, List.filter_cons, if_neg (by rw [hp]; exact Bool.false_ne_true)]
theorem lc_eq {j : Nat} {fe : Ev → Mo D} {env : Ev} {e : α → D} (h : α → D) (l : List α) (h2 : ∀ x ∈ l, fe (env.set j (.val (e x))) = ret (h x)) : lcD hName [j] yesT fe env (l.map e) = ret (l.map h) := by
  rw [lcf_eq (fun _ => true) h l (fun x _ => rfl) fun x hx _ => h2 x hx, List.filter_eq_self.mpr fun _ _ => rfl]
theorem lcc_eq {j j1 : Nat} {fi1 : Ev → Mo (List D)} {fe : Ev → Mo D} {env : Ev} {e : α → D} {e1 : β → D} {vs1 : List Nat} (k : α → List β) (h : α → β → D) : ∀ l : List α, (∀ x ∈ l, fi1 (env.set j (.val (e x))) = ret ((k x).map e1)) → (∀ x ∈ l, (k x).length ≤ 300) →
    (∀ x ∈ l, ∀ y ∈ k x, fe ((wipeE (env.set j (.val (e x))) vs1).set j1 (.val (e1 y))) = ret (h x y)) →
    lccD hName [j] yesT fi1 hName [j1] yesT fe vs1 env (l.map e) = ret (l.flatMap fun x => (k x).map (h x))
  | [], _, _, _ => rfl
  | x :: l, h1, h2, h3 => by
    have ih := lcc_eq k h l (fun y hy => h1 y (List.mem_cons_of_mem _ hy)) (fun y hy => h2 y (List.mem_cons_of_mem _ hy)) fun y hy => h3 y (List.mem_cons_of_mem _ hy)
    rw [List.map_cons]
    unfold lccD
    rw [show hName (e x) = some [e x] from rfl, opt_some, bnd_ret, yes_ret, nox_ret, bnd_ret, if_pos rfl]
    show bnd (nox (fi1 (env.set j (.val (e x))))) _ = _
    rw [h1 x List.mem_cons_self, nox_ret, bnd_ret, if_pos (by rw [List.length_map]; exact h2 x List.mem_cons_self)]
    show bnd (lcD hName [j1] yesT fe (wipeE (env.set j (.val (e x))) vs1) ((k x).map e1)) _ = _
    rw [lc_eq (h x) (k x) (h3 x List.mem_cons_self), bnd_ret, ih, bnd_ret, List.flatMap_cons]
end
/-! lists of natural numbers -/
theorem eL_eI (l : List Nat) : eL l = .tup (l.map eI) := rfl
theorem intsOf_eI : ∀ l : List Nat, intsOf (l.map eI) = some (l.map fun n : Nat => (n : Int))
  | [] => rfl
  | n :: l => by
    rw [List.map_cons]
    show (intsOf (l.map eI)).map ((n : Int) :: ·) = _
    rw [intsOf_eI l]; rfl
/-- the numbers below n that a test picks -/
def fl (n : Nat) (p : Nat → Bool) : List Nat := (List.range n).filter p
theorem mem_fl {n x : Nat} {p : Nat → Bool} : x ∈ fl n p ↔ x < n ∧ p x = true := by
  unfold fl; rw [List.mem_filter, List.mem_range]
theorem pw_range : ∀ n : Nat, (List.range n).Pairwise (· < ·) := fun n => List.pairwise_lt_range
theorem fl_congr {n : Nat} {p q : Nat → Bool} (h : ∀ x, x < n → p x = q x) : fl n p = fl n q := by
  unfold fl
  exact List.filter_congr fun x hx => h x (List.mem_range.mp hx)
theorem fl_inj {n : Nat} {p q : Nat → Bool} (h : fl n p = fl n q) : ∀ x, x < n → p x = q x := fun x hx => by
  have : (x ∈ fl n p) ↔ (x ∈ fl n q) := by rw [h]
  rw [mem_fl, mem_fl] at this
  have h1 : p x = true ↔ q x = true := ⟨fun z => (this.mp ⟨hx, z⟩).2, fun z => (this.mpr ⟨hx, z⟩).2⟩
  exact Bool.eq_iff_iff.mpr h1
theorem asc_eI {n : Nat} {l : List Nat} (h : ∀ x ∈ l, x < n) : asc (l.map fun n : Nat => (n : Int)) = (fl n fun x => decide (x ∈ l)).map fun n : Nat => (n : Int) := by
  refine asc_unique (pw_asc _) ?_ fun k => ?_
  · refine List.pairwise_map.mpr ?_
    unfold fl
    exact ((pw_range n).filter _).imp fun h => by omega
  · rw [mem_asc, List.mem_map, List.mem_map]
    refine ⟨fun ⟨x, hx, e⟩ => ⟨x, mem_fl.mpr ⟨h x hx, decide_eq_true hx⟩, e⟩, fun ⟨x, hx, e⟩ => ⟨x, of_decide_eq_true (mem_fl.mp hx).2, e⟩⟩
theorem srt_eI {n : Nat} {l : List Nat} (h : ∀ x ∈ l, x < n) (hl : l.length < 64) : srtSetL (.lst (l.map eI)) = ret ((fl n fun x => decide (x ∈ l)).map eI) := by
  show (match intsOf (l.map eI) with
    | some ns => if ns.length < 64 then ret ((asc ns).map D.int) else bad
    | none => bad) = _
  rw [intsOf_eI]
  show (if _ then _ else _) = _
  rw [if_pos (by rw [List.length_map]; exact hl), asc_eI h, List.map_map]; rfl
theorem inB_eI {x : Nat} : ∀ l : List Nat, inB (eI x) (l.map eI) = decide (x ∈ l)
  | [] => by simp [inB]
  | y :: l => by
    have ih := inB_eI (x := x) l
    unfold inB at ih ⊢
    rw [List.map_cons, List.any_cons, ih, show eqB (eI y) (eI x) = decide ((y : Int) = x) from rfl]
    by_cases h : y = x
    · subst h; simp
    · rw [decide_eq_false (by omega)]; simp [Ne.symm h]
theorem flat_eI : ∀ l : List Nat, (l.map eI).all flat = true
  | [] => rfl
  | y :: l => by rw [List.map_cons, List.all_cons, flat_eI l]; rfl
theorem inD_eI {neg : Bool} {x : Nat} {l : List Nat} : inD neg (eI x) (eL l) = ret (.bl (if neg then !decide (x ∈ l) else decide (x ∈ l))) := by
  show (if flat (eI x) && (l.map eI).all flat then (ret (D.bl (if neg then !inB (eI x) (l.map eI) else inB (eI x) (l.map eI))) : Mo D) else _) = _
  rw [flat_eI, show flat (eI x) = true from rfl, Bool.and_self, if_pos rfl, inB_eI]
theorem okD_eIs (l : List Nat) : okD (.lst (l.map eI)) = true := by
  obtain ⟨a, b⟩ := lay_ints l
  have p : plains (l.map eI) = true := plains_map (fun x => rfl) l
  unfold okD SeqAt.shaped toPy plain PyData.canLay0 PyData.depth
  rw [p, show PyData.canLayAll0 (toPys (l.map eI)) = true from a, decide_eq_true (by have : PyData.depthAll (toPys (l.map eI)) ≤ 1 := b; omega)]; rfl
theorem inD_eIs {neg : Bool} {x : Nat} {l : List Nat} : inD neg (eI x) (.lst (l.map eI)) = ret (.bl (if neg then !decide (x ∈ l) else decide (x ∈ l))) := by
  show (if okD (eI x) && okD (.lst (l.map eI)) then (ret (D.bl (if neg then !inB (eI x) (l.map eI) else inB (eI x) (l.map eI))) : Mo D) else bad) = _
  rw [okD_eIs, inB_eI]; rfl
theorem flat_map_eI {α β : Type} {f : β → D} (k : α → List β) (l : List α) : (l.flatMap fun x => (k x).map f) = (l.flatMap k).map f := by
  rw [List.map_flatMap]
end G
namespace G
open PySem PySem.Spec PyProof.Rows L2
theorem asInts_eI : ∀ l : List Nat, asInts (l.map eI) = some (l.map fun n : Nat => (n : Int))
  | [] => rfl
  | n :: l => by
    rw [List.map_cons]
    show (asInts (l.map eI)).map ((n : Int) :: ·) = _
    rw [asInts_eI l]; rfl
theorem sortI_id {l : List Int} (h : l.Pairwise (· ≤ ·)) : sortI l = l := sorted_unique (sortI_perm l) (sortI_sorted l) h
theorem sorted_fl {n : Nat} {p : Nat → Bool} : sortedD [.lst ((fl n p).map eI)] = ret (.lst ((fl n p).map eI)) := by
  show optM ((asInts ((fl n p).map eI)).map fun ns => D.lst ((sortI ns).map D.int)) = _
  rw [asInts_eI]
  show ret (D.lst ((sortI ((fl n p).map fun n : Nat => (n : Int))).map D.int)) = _
  rw [sortI_id]
  · rw [List.map_map]; rfl
  · refine List.pairwise_map.mpr ?_
    unfold fl
    exact ((pw_range n).filter _).imp fun h => by omega
/-- a list or tuple of numbers -/
def SqI (d : D) (l : List Nat) : Prop := d = eL l ∨ d = .lst (l.map eI)
theorem len_sq {d : D} {l : List Nat} (h : SqI d l) : lenD [d] = ret (eI l.length) := by
  rcases h with rfl | rfl
  · show ret (D.int ((l.map fun n : Nat => D.int (n : Nat)).length : Nat)) = _
    rw [List.length_map]; rfl
  · show ret (D.int ((l.map eI).length : Nat)) = _
    rw [List.length_map]; rfl
theorem isi_sq {d : D} {l : List Nat} (h : SqI d l) : isi2D "list" "tuple" d = ret (.bl true) := by
  rcases h with rfl | rfl <;> rfl
def asSeq : D → Mo (List D)
  | .lst ds => ret ds
  | .tup ds => ret ds
  | _ => bad
theorem overS_at (f : Ev → Mo D) (env : Ev) : overS f env = bnd (f env) asSeq := rfl
theorem over_sq {d : D} {l : List Nat} (h : SqI d l) : asSeq d = ret (l.map eI) := by
  rcases h with rfl | rfl <;> rfl
theorem list_sq {d : D} {l : List Nat} (h : SqI d l) : listL [d] = ret (l.map eI) := by
  rcases h with rfl | rfl <;> rfl
theorem eqD_nat {a b : Nat} : eqD (eI a) (eI b) = ret (.bl (decide (a = b))) := by
  unfold eI
  rw [eqD_int]
  by_cases h : a = b
  · rw [decide_eq_true h, decide_eq_true (by omega)]
  · rw [decide_eq_false h, decide_eq_false (by omega)]
theorem eqD_nat0 {a : Nat} : eqD (eI a) (.int 0) = ret (.bl (decide (a = 0))) := eqD_nat (b := 0)
theorem eqD_bl {a b : Bool} : eqD (.bl a) (.bl b) = ret (.bl (decide (a = b))) := by cases a <;> cases b <;> rfl
theorem neD_bl {a b : Bool} : neD (.bl a) (.bl b) = ret (.bl (!decide (a = b))) := by cases a <;> cases b <;> rfl
theorem neD_nat {a b : Nat} : neD (eI a) (eI b) = ret (.bl (!decide (a = b))) := by
  unfold eI
  rw [neD_int]
  by_cases h : a = b
  · rw [decide_eq_true h, decide_eq_true (by omega)]
  · rw [decide_eq_false h, decide_eq_false (by omega)]
theorem isI_int {v : Nat} : isiD "int" (eI v) = ret (.bl true) := rfl
theorem isI_bool {v : Nat} : isiD "bool" (eI v) = ret (.bl false) := rfl
theorem le0_nat {v : Nat} : leD (.int 0) (eI v) = ret (.bl true) := by
  show ret (D.bl (decide ((0 : Int) ≤ v))) = _
  rw [decide_eq_true (by omega)]
theorem lt_nat {v n : Nat} : ltD (eI v) (eI n) = ret (.bl (decide (v < n))) := by
  show ret (D.bl (decide ((v : Int) < n))) = _
  by_cases h : v < n
  · rw [decide_eq_true h, decide_eq_true (by omega)]
  · rw [decide_eq_false h, decide_eq_false (by omega)]
theorem lst_add {a b : List D} (h : a.length + b.length ≤ cap) : addD (.lst a) (.lst b) = ret (.lst (a ++ b)) := by
  show (if a.length + b.length ≤ cap then ret (D.lst (a ++ b)) else bad) = _
  rw [if_pos h]
theorem tup_add {a b : List D} (h : a.length + b.length ≤ cap) : addD (.tup a) (.tup b) = ret (.tup (a ++ b)) := by
  show (if a.length + b.length ≤ cap then ret (D.tup (a ++ b)) else bad) = _
  rw [if_pos h]
theorem ix_sq {d : D} {l : List Nat} (h : SqI d l) {i : Nat} (hi : i < l.length) : ixD d (eI i) = ret (eI (l.getD i 0)) := by
  have : (l.map eI)[i]? = some (eI (l.getD i 0)) := by
    rw [List.getElem?_map, List.getD_eq_getElem?_getD, List.getElem?_eq_getElem hi]; rfl
  rcases h with rfl | rfl
  · show optM (atI (l.map eI) (i : Int)) = _
    rw [atI_nat', this]; rfl
  · show optM (atI (l.map eI) (i : Int)) = _
    rw [atI_nat', this]; rfl
end G

namespace G
open PySem PySem.Spec PyProof.Rows L2
theorem seq_nx {f g : Ev → Mo Fl} {env e : Ev} (h : f env = ret (.nx e)) : seqS f g env = g e := by
  unfold seqS; rw [h]; rfl
theorem seq_rt {f g : Ev → Mo Fl} {env : Ev} {d : D} (h : f env = ret (.rt d)) : seqS f g env = ret (.rt d) := by
  unfold seqS; rw [h]; rfl
theorem seq_if0 {c : Ev → Mo Bool} {a g : Ev → Mo Fl} {env : Ev} (h : c env = ret false) : seqS (ifS c a nextS) g env = g env := by
  unfold seqS ifS nextS
  rw [h]; rfl
theorem if0 {c : Ev → Mo Bool} {a b : Ev → Mo Fl} {env : Ev} (h : c env = ret false) : ifS c a b env = b env := by
  unfold ifS
  rw [h]; rfl
theorem if1 {c : Ev → Mo Bool} {a b : Ev → Mo Fl} {env : Ev} (h : c env = ret true) : ifS c a b env = a env := by
  unfold ifS
  rw [h]; rfl
theorem for_at {fi : Ev → Mo (List D)} {h : D → Option (List D)} {js : List Nat} {b : Ev → Mo Fl} {env : Ev} {ds : List D} (e : fi env = ret ds) : forS fi h js b env = loopD h js b ds env := by
  unfold forS; rw [e]; rfl
theorem set_at {i : Nat} {f : Ev → Mo D} {env : Ev} {d : D} (e : f env = ret d) : setS i f env = ret (.nx (env.set i (.val d))) := by
  unfold setS; rw [e]; rfl
theorem run_rt {n : Nat} {s : Ev → Mo Fl} {ds : List D} {d : D} (h : s (ds.map Sl.val ++ List.replicate (n - ds.length) Sl.no) = ret (.rt d)) : runD n s ds = ret d := by
  unfold runD; rw [h]; rfl
theorem run_nx {n : Nat} {s : Ev → Mo Fl} {ds : List D} {e : Ev} (h : s (ds.map Sl.val ++ List.replicate (n - ds.length) Sl.no) = ret (.nx e)) : runD n s ds = ret .non := by
  unfold runD; rw [h]; rfl
theorem asSeq_lst {ds : List D} : asSeq (.lst ds) = ret ds := rfl
theorem asSeq_eL {l : List Nat} : asSeq (eL l) = ret (l.map eI) := rfl
/-! a walk that may leave with an answer -/
theorem find_eq {α : Type} {j : Nat} {body : Ev → Mo Fl} {e : α → D} {r : α → D} (p : α → Bool) : ∀ (l : List α) (env : Ev), (∀ x ∈ l, body (env.set j (.val (e x))) = if p x then ret (.rt (r x)) else ret (.nx (env.set j (.val (e x))))) →
    (∃ x, l.find? p = some x ∧ loopD hName [j] body (l.map e) env = ret (.rt (r x))) ∨ (l.find? p = none ∧ ∃ e', loopD hName [j] body (l.map e) env = ret (.nx e'))
  | [], env, _ => .inr ⟨rfl, env, rfl⟩
  | x :: l, env, h => by
    have hx := h x List.mem_cons_self
    rw [List.map_cons]
    unfold loopD
    rw [show hName (e x) = some [e x] from rfl, opt_some, bnd_ret]
    show (∃ y, List.find? p (x :: l) = some y ∧ bnd (body (env.set j (.val (e x)))) _ = _) ∨ (_ ∧ ∃ e', bnd (body (env.set j (.val (e x)))) _ = _)
    rw [hx]
    cases hp : p x with
    | true =>
      rw [List.find?_cons_of_pos hp]
      exact .inl ⟨x, rfl, rfl⟩
    | false =>
      rw [List.find?_cons_of_neg (by rw [hp]; exact Bool.false_ne_true)]
      exact find_eq p l (env.set j (.val (e x))) fun y hy => by
        have := h y (List.mem_cons_of_mem _ hy)
        rw [List.set_set]
        exact this
/-- a walk that changes a state b; what else changes is g -/
theorem fold_eq {α β γ : Type} {j : Nat} {body : Ev → Mo Fl} {e : α → D} (st : β → γ → Ev) (f : β → α → β) : ∀ (l : List α) (b : β) (g : γ),
    (∀ (p : List α) (x : α) (q : List α) (g : γ), l = p ++ x :: q → ∃ g', body ((st (p.foldl f b) g).set j (.val (e x))) = ret (.nx (st (f (p.foldl f b) x) g'))) →
    ∃ g', loopD hName [j] body (l.map e) (st b g) = ret (.nx (st (l.foldl f b) g'))
  | [], b, g, _ => ⟨g, rfl⟩
  | x :: l, b, g, h => by
    obtain ⟨g1, h1⟩ := h [] x l g rfl
    obtain ⟨g', ih⟩ := fold_eq (e := e) (body := body) st f l (f b x) g1 fun p y q g e => h (x :: p) y q g (by rw [e]; rfl)
    refine ⟨g', ?_⟩
    rw [List.map_cons]
    unfold loopD
    rw [show hName (e x) = some [e x] from rfl, opt_some, bnd_ret]
    show bnd (body ((st b g).set j (.val (e x)))) _ = _
    have h1 : body ((st b g).set j (.val (e x))) = ret (.nx (st (f b x) g1)) := h1
    rw [h1, bnd_ret]
    exact ih
theorem fold_count {α : Type} : ∀ (l : List α) (b : Nat), l.foldl (fun k _ => k + 1) b = b + l.length
  | [], b => rfl
  | x :: l, b => by rw [List.foldl_cons, fold_count l, List.length_cons]; omega
theorem fold_flat {α β : Type} (g : α → List β) : ∀ (l : List α) (b : List β), l.foldl (fun a x => a ++ g x) b = b ++ l.flatMap g
  | [], b => by simp
  | x :: l, b => by rw [List.foldl_cons, fold_flat g l, List.flatMap_cons, List.append_assoc]
theorem fold_all {α : Type} (p : α → Bool) : ∀ (l : List α) (b : Bool), l.foldl (fun a x => a && p x) b = (b && l.all p)
  | [], b => by simp
  | x :: l, b => by rw [List.foldl_cons, fold_all p l, List.all_cons, Bool.and_assoc]
theorem fold_if {α β : Type} (p : α → Bool) (g : α → β) : ∀ (l : List α) (b : List β), l.foldl (fun a x => if p x then a ++ [g x] else a) b = b ++ (l.filter p).map g
  | [], b => by simp
  | x :: l, b => by
    rw [List.foldl_cons, fold_if p g l, List.filter_cons]
    split
    · rw [List.map_cons, List.append_assoc]; rfl
    · rfl
theorem gt_nat {a b : Nat} : gtD (eI a) (eI b) = ret (.bl (decide (b < a))) := by
  show ret (D.bl (decide ((b : Int) < a))) = _
  by_cases h : b < a
  · rw [decide_eq_true h, decide_eq_true (by omega)]
  · rw [decide_eq_false h, decide_eq_false (by omega)]
theorem cut_from {ds : List D} {x : Nat} : cutL ds (some (x : Int)) none = ds.drop x := by
  unfold cutL
  rw [HT.sIx_nat, HT.sIx_none]
  by_cases h : x ≤ ds.length
  · rw [Nat.min_eq_left h, List.take_of_length_le (by rw [List.length_drop]; omega)]
  · rw [Nat.min_eq_right (by omega), List.drop_length, List.drop_eq_nil_of_le (by omega), List.take_nil]
theorem list_rangeI {n : Nat} (h : n ≤ 100) : rgD ((0 : Int), (n : Int)) = ret ((List.range n).map eI) := by
  unfold rgD
  rw [if_pos (by omega), ← range_eI]
  show ret (rangeL 0 ((n : Int) - 0).toNat) = _
  rw [Int.sub_zero, Int.toNat_natCast]
theorem ite_ret {b c : Bool} : (if b = true then (ret (D.bl c) : Mo D) else ret (D.bl false)) = ret (.bl (b && c)) := by cases b <;> rfl
theorem tupleL' {ds : List D} : tupleD [.lst ds] = ret (.tup ds) := rfl
theorem WP_ex' {m : Mo Fl} {s : S} {b : Fl} (h : WP m s fun a _ => a = b) : ∃ s', m s = .ok b s' := by
  unfold WP at h
  cases e : m s with
  | bad => rw [e] at h; exact h.elim
  | exc x s1 => rw [e] at h; exact h.elim
  | ok a s1 => rw [e] at h; exact ⟨s1, by rw [show a = b from h]⟩
end G

namespace G
open PySem PySem.Spec PyProof.Rows L2
/-! steps with what may draw -/
theorem WP_eq' {α : Type} {m : Mo α} {a : α} {s : S} {Q : α → S → Prop} (e : m = ret a) (q : Q a s) : WP m s Q := by rw [e]; exact q
theorem WP_seq_set' {i : Nat} {f : Ev → Mo D} {g : Ev → Mo Fl} {env : Ev} {s : S} {Q : Fl → S → Prop} (h : WP (f env) s fun d s' => WP (g (env.set i (.val d))) s' Q) : WP (seqS (setS i f) g env) s Q := by
  unfold seqS setS
  rw [WP_bnd, WP_bnd]
  exact h
theorem WP_seq_eq {f g : Ev → Mo Fl} {env e : Ev} {s : S} {Q : Fl → S → Prop} (h : f env = ret (.nx e)) (q : WP (g e) s Q) : WP (seqS f g env) s Q := by rw [seq_nx h]; exact q
theorem WP_seq_if0 {c : Ev → Mo Bool} {a g : Ev → Mo Fl} {env : Ev} {s : S} {Q : Fl → S → Prop} (h : c env = ret false) (q : WP (g env) s Q) : WP (seqS (ifS c a nextS) g env) s Q := by rw [seq_if0 h]; exact q
theorem WP_seq {f g : Ev → Mo Fl} {env : Ev} {s : S} {Q : Fl → S → Prop} (h : WP (f env) s fun o s' => ∃ e, o = .nx e ∧ WP (g e) s' Q) : WP (seqS f g env) s Q := by
  unfold seqS
  rw [WP_bnd]
  refine WP_mono h fun o s' ho => ?_
  obtain ⟨e, rfl, q⟩ := ho
  exact q
theorem WP_run {n : Nat} {b : Ev → Mo Fl} {ds : List D} {s : S} {Q : D → S → Prop} (h : WP (b (ds.map Sl.val ++ List.replicate (n - ds.length) Sl.no)) s fun o s' => ∃ d, o = .rt d ∧ Q d s') : WP (runD n b ds) s Q := by
  unfold runD
  rw [WP_bnd]
  refine WP_mono h fun o s' ho => ?_
  obtain ⟨d, rfl, q⟩ := ho
  exact q
theorem WP_rt {f : Ev → Mo D} {env : Ev} {s : S} {Q : Fl → S → Prop} (h : WP (f env) s fun d s' => Q (.rt d) s') : WP (retS f env) s Q := by
  unfold retS
  rw [WP_bnd]
  exact h
theorem lc2_eq {α : Type} {j : Nat} {fe : Ev → Mo (List D)} {env : Ev} {e : α → D} (h : α → List D) : ∀ l : List α, (∀ x ∈ l, fe (env.set j (.val (e x))) = ret (h x)) → lcD2 hName [j] fe env (l.map e) = ret (l.map h)
  | [], _ => rfl
  | x :: l, h2 => by
    have ih := lc2_eq h l fun y hy => h2 y (List.mem_cons_of_mem _ hy)
    rw [List.map_cons]
    unfold lcD2
    rw [show hName (e x) = some [e x] from rfl, opt_some, bnd_ret]
    show bnd (nox (fe (env.set j (.val (e x))))) _ = _
    rw [h2 x List.mem_cons_self, nox_ret, bnd_ret, ih, bnd_ret]; rfl
end G

namespace G
open PySem PySem.Spec PyProof.Rows L2
/-! ### errors of one class without a field: raised, and caught where a constant is returned -/
structure ExF (K : PySem.W.Frag) (mg : Str → Option Value) (x : Str) (C : Addr) : Prop where
  g : mg x = some (.ref C)
  q : PySem.W.excIn K C [.type "ValueError", .type "Exception", .type "BaseException", .type "object"] "ValueError.__new__" = true
  k : PySem.W.keepIn K (.ref C) = true
  b : PySem.W.subIn K (.ref C) (.type "BaseException") = some true
  t : PySem.W.typeIn K (.ref C) = some (.type "type")
  i : PySem.W.isClsIn K C = true
  s : PySem.W.subIn K (.ref C) (.ref C) = some true
theorem ExF.e {K : PySem.W.Frag} {mg : Str → Option Value} {x : Str} {C : Addr} (F : ExF K mg x C) : PySem.W.exmOne K (.ref C) (.ref C) = some true := by
  have i := F.i
  unfold PySem.W.isClsIn at i
  unfold PySem.W.exmOne PySem.W.kitCls
  rw [F.b]
  simp [F.t, F.s, i]
def raiseS : Ev → Mo Fl := fun _ => thr ⟨1, .non⟩
def tryS (f : Ev → Mo Fl) (v : D) : Ev → Mo Fl := fun env s => match f env s with
  | .exc x s' => if x.c = 1 then .ok (.rt v) s' else .bad
  | o => o
section
variable {Γ : Gx} {E : XK}
theorem ds_try {tb : XK → TS} {ts : Addr → Value → Option Addr → TS} {f : Ev → Mo Fl} {v : D} {u : V} (hu : ∀ H, Rep Γ H u v) (he : PySem.W.exmOne Γ.K (.ref (Γ.xc 1)) (.ref (Γ.xc 1)) = some true)
    (hs : ts = fun _ _ _ => tRet (tC u)) (hb : ∀ E', DS Γ E' (tb E') f) : DS Γ E (fun N σ H => tb (fun cls d H => ∀ σ, wOnly Γ.K (.ref (Γ.xc 1)) ts (fun cls d _ H => E cls d H) N cls d σ H) N σ H) (tryS f v) := fun H0 M0 Gs O σ env H s N r h => by
  subst hs
  refine hb _ H0 M0 Gs O σ env H s N r ?_
  unfold tryS at h
  cases e : f env s with
  | bad => rw [e] at h; exact h
  | ok o s1 =>
    rw [e] at h
    cases o <;> exact h
  | exc x s1 =>
    rw [e] at h
    simp only at h
    by_cases hc : x.c = 1
    · rw [if_pos hc] at h
      intro cls dx H1 e1 t1 xr σ1
      have hx : cls = .ref (Γ.xc 1) := by rw [xr.1, hc]
      subst hx
      exact ⟨true, he, fun _ a _ => h u H1 e1 t1 (hu _), fun z => (by cases z)⟩
    · rw [if_neg hc] at h; exact h.elim
end
section
variable {ι : Type} {Γ : Gx} {X : ι → Cx} {k : Nat} {E : XK}
theorem vs_raise {x m : Str} {j : Nat} {p p2 pos pos' : Pos} (g : GX Γ X k E) (F : ∀ j, ExF (X j).K (X j).mg x (Γ.xc 1)) (hg : ∀ j, Gl (X j) x := by intro _; rfl) (hdb : (x == ("__debug__" : Str)) = false := by decide) :
    VS Γ X E (.Raise (some (.Call (.Name x p) [.Constant (.str m) j p2] [] pos)) none pos') raiseS :=
  ⟨_, fun i => ps_raise (g.calm i) (g.tk i) (pmk_own PySem.F.excBase_ValueError (F i).q (F i).g (F i).k (raises_own (F i).b (F i).t) (hg i) hdb), fun sa H0 M0 Gs O σ env H s N r h => h _ _ H r.ext r.x.ok.st ⟨rfl, rfl⟩⟩
/-- the contexts of a try's body -/
def TrI (X : ι → Cx) (E' : XK) : Type := { p : ι × List (Addr × Obj) × (Value → Shared → Prop) // Takes ((X p.1).tr p.2.1 p.2.2) (fun cls d _ H => E' cls d H) ∧ PassesOwn (model (X p.1).prog (X p.1).w) (X p.1).A (X p.1).env p.2.2 }
abbrev trF (X : ι → Cx) (E' : XK) : TrI X E' → Cx := fun p => (X p.1.1).tr p.1.2.1 p.1.2.2
theorem GX.tr (g : GX Γ X k E) (E' : XK) : GX Γ (trF X E') k E' := ⟨fun p => g.K p.1.1, fun p => g.calm p.1.1, fun p => g.room p.1.1, fun p => g.nd p.1.1, fun p => p.2.1, fun p => p.2.2⟩
theorem vs_try {x : Str} {np pos pos' : Pos} {body : List Stmt} {c : Const} {j : Nat} {rp rp2 : Pos} {f : Ev → Mo Fl} {v : D} {u : V} (g : GX Γ X k E) (F : ∀ j, ExF (X j).K (X j).mg x (Γ.xc 1)) (he : PySem.W.exmOne Γ.K (.ref (Γ.xc 1)) (.ref (Γ.xc 1)) = some true) (hu : ∀ sa H, Rep (Γ.at sa) H u v) (hc : ∀ Y : Cx, PE Y (.Constant c j rp) (tC u))
    (hb : ∀ E', GX Γ (trF X E') k E' → VB Γ (trF X E') E' body f)
    (hs : ∀ j, (X j).stack = (X j).env :: (X j).outer := by intro _; rfl) (hf : ∀ j, (X j).env.frame = some (X j).env.locals := by intro _; rfl) (hg : ∀ j, Gl (X j) x := by intro _; rfl) (hdb : (x == ("__debug__" : Str)) = false := by decide) :
    VS Γ X E (.Try body [.ExceptHandler (some (.Name x np)) none [.Return (some (.Constant c j rp)) rp2] pos'] [] [] pos) (tryS f v) := by
  have hb2 : ∀ E', ∃ t, (∀ i, PSs (trF X E' i) body t) ∧ ∀ sa, DS (Γ.at sa) E' t f := fun E' => (hb E' (g.tr E')).ex
  refine ⟨fun N σ H => Classical.choose (hb2 (fun cls d H => ∀ σ, wOnly Γ.K (.ref (Γ.xc 1)) (fun _ _ _ => tRet (tC u)) (fun cls d _ H => E cls d H) N cls d σ H)) N σ H, fun i => ?_, fun sa => ?_⟩
  · have := ps_try_only (X := X i) (x := x) (np := np) (pos := pos) (pos' := pos') (c := .ref (Γ.xc 1)) (body := body) (suite := []) (b₀ := .Return (some (.Constant c j rp)) rp2) (tb := fun W => Classical.choose (hb2 (fun cls d H => ∀ σ, W cls d σ H))) (ts := fun _ _ _ => tRet (tC u)) (Wout := fun cls d _ H => E cls d H)
      (hs i) (hf i) ⟨hg i, hdb, .inl (F i).g⟩ (g.tk i) (fun W pn xe tk ps => (Classical.choose_spec (hb2 (fun cls d H => ∀ σ, W cls d σ H))).1 ⟨(i, pn, xe), tk.imp fun c d σ H h => h σ, ps⟩) (fun a oe cls d pn _ _ => pss_one (ps_ret (hc _)))
    rw [g.K i] at this
    exact this
  · exact ds_try (Γ := Γ.at sa) (hu sa) he rfl fun E' => (Classical.choose_spec (hb2 E')).2 sa
end
end G

namespace G
open PySem PySem.Spec PyProof.Rows L2
/-! ### a tuple, a text times a number -/
theorem tuple_mul1 (l : Addr) (items : Array Value) (n : Nat) (dd : Option Addr) (sl : Array (Option Value)) (u : Tok) :
    Meets (Builtin.«tuple.__mul__» ⟨[.ref l, .int 1 u], []⟩) (fun _ R s => s.heap.get? l = some { cls := .type "tuple", dict := dd, data := .seq items n, slots := sl } ∧ R (.ok (.ret (.ref l))) s) :=
  .of_wp fun prog w A R s h => by
    obtain ⟨hp, g, d, tk, os⟩ := s
    obtain ⟨hl, h⟩ := h
    have f1 := AutoSeq1.idx_int
    wp_walk using wpAny_loadPart' hl
    repeat (first
      | (refine wpAny_ite_false (decide_eq_false (by decide)) ?_; wp_walk using wpAny_loadPart' hl)
      | (refine wpAny_ite_true (decide_eq_true (by simp)) ?_; wp_walk using wpAny_loadPart' hl))
    all_goals exact ⟨_, rfl, h⟩
def rRep1 (K : PySem.W.Frag) : R2 := fun x y H Q => ∃ l xs, x = .ref l ∧ y = .int 1 ∧ SqT K H l xs ∧ Q (.ref l) H
theorem op_rep1 {X : Cx} : OpR X (binaryOp .Mult) (rRep1 X.K) := by
  intro pins s σ H x y v u Q I rx ry h
  obtain ⟨l, xs, rfl, rfl, hT, q⟩ := h
  cases rx
  obtain ⟨t, rfl⟩ := ry
  obtain ⟨its, r, ⟨⟨cls, dd, data, sl⟩, ho, hc, n, hd⟩, hs⟩ := I.tuple hT
  simp only at hc hd
  subst hc hd
  exact wpAny_binaryOp_repeat_ref (T := "tuple") (U := "int") (by decide) ⟨_, ho, rfl⟩ (fun s' => typeIs_int s' 1 t) noFill_tuple_mul F.fills_int_mul F.slot_int_rmul repeat_tuple F.slot_int_index.lookup
    (call_meets F.slot_int_rmul (typeIs_int s 1 t) F.entry_int_rmul (F.args_int_rmul_2 _ _) (int_rmul_tuple 1 t l its.toArray n dd sl)
      ⟨ho, rfl, ⟨_, ho, rfl⟩, call_meets F.slot_tuple_mul ⟨_, ho, rfl⟩ F.entry_tuple_mul (F.args_tuple_mul_2 _ _) (tuple_mul1 l its.toArray n dd sl t) ⟨ho, ⟨.ref l, H, I, rfl, q⟩⟩⟩)
def strTimes (x : Str) (k : Int) : Str := if (k == 1 || x.length == 0) = true then x else ⟨(List.replicate k.toNat x.cps).foldl (· ++ ·) #[]⟩
def rRepS : R2 := fun x y H Q => ∃ z k, x = .str z ∧ y = .int k ∧ 1 ≤ k ∧ k ≤ 1000 ∧ z.length ≤ 1000 ∧ (strTimes z k).length ≤ sizeLine ∧ Q (.str (strTimes z k)) H
theorem op_repS {X : Cx} : OpR X (binaryOp .Mult) rRepS := by
  intro pins s σ H x y v u Q I rx ry h
  obtain ⟨z, k, rfl, rfl, h1, h2, h3, h4, q⟩ := h
  obtain ⟨t, rfl⟩ := rx
  obtain ⟨t2, rfl⟩ := ry
  have hm : z.length * k.toNat ≤ 1000 * 1000 := Nat.mul_le_mul h3 (by omega)
  refine PySem.P.mul_str (by rw [decide_eq_false (by omega), decide_eq_false (by omega)]; rfl) (fun _ _ hb => ?_) (fun _ _ => ?_) ?_
  · have q1 : (1000 : Int) ≤ (2 ^ 63 - 1) / k := (Int.le_ediv_iff_mul_le (by omega)).mpr (by omega)
    omega
  · show decide (z.length * k.toNat > sizeLine) = false
    rw [sizeLine_eq]
    exact decide_eq_false (by omega)
  · rw [if_neg (by omega)]
    unfold strTimes at h4 q
    split
    · rename_i hc
      rw [if_pos hc] at q
      exact ⟨.str z, H, I, ⟨t, rfl⟩, q⟩
    · rename_i hc
      rw [if_neg hc] at h4 q
      exact ⟨h4, .str _, H, I.tok _, ⟨_, rfl⟩, q⟩
def rMulAll (K : PySem.W.Frag) : R2 := fun x y H Q => rRepT K x y H Q ∨ rRep1 K x y H Q ∨ rRepS x y H Q
theorem op_mulAll {X : Cx} : OpR X (binaryOp .Mult) (rMulAll X.K) := op_repT.or (op_rep1.or op_repS)
def timesD : D → D → Mo D
  | .tup ds, .int k => if k = 1 then ret (.tup ds) else if ds.length ≠ 0 ∧ 2 ≤ k ∧ k ≤ 1000 ∧ ds.length ≤ 1000 then ret (.tup (List.replicate k.toNat ds).flatten) else bad
  | .str z, .int k => if 1 ≤ k ∧ k ≤ 1000 ∧ z.length ≤ 1000 ∧ (strTimes z k).length ≤ cap then ret (.str (strTimes z k)) else bad
  | _, _ => bad
section
variable {Γ : Gx} {E : XK}
theorem reps_times {H : Hp} {vs : List V} {ds : List D} (r : Reps Γ H vs ds) : ∀ n : Nat, Reps Γ H (List.replicate n vs).flatten (List.replicate n ds).flatten
  | 0 => .nil
  | n + 1 => by
    rw [List.replicate_succ, List.replicate_succ, List.flatten_cons, List.flatten_cons]
    exact r.append (reps_times r n)
theorem o2_times : Op2 Γ E (rMulAll Γ.K) timesD := fun M H s x y a b ok ra rb Q h => by
  cases ra with
  | @tup ad vs ds e l r =>
    cases rb with
    | int k =>
      simp only [timesD] at h
      split at h
      · rename_i hk
        subst hk
        exact .inr (.inl ⟨_, _, rfl, rfl, .of (msk_get e), h.here ok.st (.tup e l r)⟩)
      · split at h
        · rename_i hk
          obtain ⟨k1, k2, k3, k4⟩ := hk
          have ln := r.length
          refine .inl ⟨_, _, vs, rfl, rfl, .of (msk_get e), fun z => k1 (by rw [← ln, z]; rfl), k2, k3, by rw [ln]; exact k4, fun p np => ?_⟩
          refine h _ _ (Ext.new np) (ok.newSt np) (ok.tupNew np ?_ (reps_times r k.toNat))
          rw [PyProof.Rows.lm_len_rep_flat, sizeLine_eq, ln]
          have a1 : k.toNat * ds.length ≤ 1000 * 1000 := Nat.mul_le_mul (by omega) k4
          omega
        · exact h.elim
    | _ => exact h.elim
  | str z =>
    cases rb with
    | int k =>
      simp only [timesD] at h
      split at h
      · rename_i hk
        obtain ⟨k1, k2, k3, k4⟩ := hk
        exact .inr (.inr ⟨z, k, rfl, rfl, k1, k2, k3, cap_line k4, h.here ok.st (.str _)⟩)
      · exact h.elim
    | _ => exact h.elim
  | _ => exact h.elim
end
section
variable {ι : Type} {Γ : Gx} {X : ι → Cx} {E : XK} {k : Nat}
theorem ve_times {a b : Expr} {fa fb : Ev → Mo D} {pos : Pos} (g : GX Γ X k E) (ha : VE Γ X E a fa) (hb : VE Γ X E b fb) : VE Γ X E (.BinOp a .Mult b pos) (op2D timesD fa fb) :=
  ve_op (r := rMulAll Γ.K) (fun j => g.K j ▸ op_mulAll) (fun sa => o2_times (Γ := Γ.at sa)) ha hb
end
/-! ### sorted of rows that ascend already -/
def rowOf : D → Option (List Int)
  | .tup ds => asInts ds
  | _ => none
def rowsOf : List D → Option (List (List Int))
  | [] => some []
  | d :: r => (rowOf d).bind fun x => (rowsOf r).map (x :: ·)
def upB : List (List Int) → Bool
  | [] => true
  | [_] => true
  | a :: b :: r => decide (TS.code 64 a < TS.code 64 b) && upB (b :: r)
def okRows (rs : List (List Int)) : Bool := decide (rs.length < 64) && upB rs && rs.all fun r => decide (1 ≤ r.length) && decide (r.length = (rs.headD []).length) && r.all fun z => decide (0 ≤ z) && decide (z < 64)
def sortedTD : List D → Mo D
  | [.lst ds] => match rowsOf ds with
    | some rs => if okRows rs = true then ret (.lst ds) else bad
    | none => bad
  | _ => bad
theorem up_pair : ∀ {rs : List (List Int)}, upB rs = true → rs.Pairwise (fun a b => TS.code 64 a < TS.code 64 b)
  | [], _ => .nil
  | [_], _ => by simp
  | a :: b :: r, h => by
    unfold upB at h
    rw [Bool.and_eq_true, decide_eq_true_eq] at h
    have ih := up_pair h.2
    rw [List.pairwise_cons] at ih ⊢
    refine ⟨fun c hc => ?_, List.pairwise_cons.mpr ih⟩
    rcases List.mem_cons.mp hc with rfl | hc
    · exact h.1
    · exact Int.lt_trans h.1 (ih.1 c hc)
def rSortE (K : PySem.W.Frag) : List V → Hp → VK → Prop := fun vs H Q => ∃ d, 1 ≤ d ∧ rSortU K d 64 vs H Q
theorem cr_sortE {X : Cx} : CallR X (.builtin "sorted") (rSortE X.K) := by
  intro pins s σ H vs us Q I r h
  obtain ⟨d, hd, h⟩ := h
  exact cr_sortT hd pins s σ H vs us Q I r h
section
variable {Γ : Gx} {E : XK}
def TupH (H : Hp) (v : V) (r : List Int) : Prop := ∃ t, v = .ref t ∧ H t = some (.tup (r.map V.int))
theorem TupH.one {H : Hp} {v : V} {r q : List Int} (h : TupH H v r) (h2 : TupH H v q) : r = q := by
  obtain ⟨t, rfl, e⟩ := h
  obtain ⟨u, e2, e3⟩ := h2
  cases e2
  rw [e] at e3
  injection e3 with e3
  injection e3 with e3
  exact (List.map_inj_right fun a b h => by injection h).mp e3
theorem TupH.i {K : PySem.W.Frag} {H : Hp} {v : V} {r : List Int} (h : TupH H v r) : TupI K H v r := by
  obtain ⟨t, rfl, e⟩ := h
  exact ⟨t, rfl, .of e⟩
theorem rows_at {M : Addr → Prop} {H : Hp} : ∀ {vs : List V} {ds : List D} {rs : List (List Int)}, Reps Γ (msk M H) vs ds → rowsOf ds = some rs → vs.length = rs.length ∧ ∀ (i : Nat) (v : V) (r : List Int), vs[i]? = some v → rs[i]? = some r → TupH H v r
  | [], _, rs, .nil, h => by
    cases (show some [] = some rs from h)
    exact ⟨rfl, fun i v r hv _ => by cases hv⟩
  | v :: vs, d :: ds, rs, .cons r t, h => by
    unfold rowsOf at h
    cases h1 : rowOf d with
    | none => rw [h1] at h; cases h
    | some x =>
      rw [h1] at h
      cases h2 : rowsOf ds with
      | none => rw [h2] at h; cases h
      | some xs =>
        rw [h2] at h
        cases h
        obtain ⟨l, ih⟩ := rows_at t h2
        refine ⟨by rw [List.length_cons, List.length_cons, l], fun i w q hw hq => ?_⟩
        cases i with
        | zero =>
          cases hw
          cases hq
          cases r with
          | tup e _ rr =>
            have := asInts_reps rr h1
            subst this
            exact ⟨_, rfl, msk_get e⟩
          | _ => cases h1
        | succ i => exact ih i w q hw hq
theorem pair_get {α : Type} {R : α → α → Prop} : ∀ {l : List α}, l.Pairwise R → ∀ {i j : Nat} {a b : α}, i < j → l[i]? = some a → l[j]? = some b → R a b
  | [], _, i, j, a, b, _, h, _ => by cases h
  | x :: l, h, 0, j + 1, a, b, _, h1, h2 => by
    cases h1
    exact (List.pairwise_cons.mp h).1 b (List.mem_of_getElem? h2)
  | x :: l, h, i + 1, j + 1, a, b, q, h1, h2 => pair_get (List.pairwise_cons.mp h).2 (by omega) h1 h2
theorem ol_sortedT : OpL Γ E (rSortE Γ.K) sortedTD := fun M H s xs as ok r Q h => by
  cases r with
  | nil => exact h.elim
  | cons ra rt =>
    cases rt with
    | cons _ _ => cases ra <;> exact h.elim
    | nil =>
      cases ra with
      | @lst a vs ds e l r =>
        simp only [sortedTD] at h
        cases hb : rowsOf ds with
        | none => rw [hb] at h; exact h.elim
        | some rs =>
          rw [hb] at h
          simp only at h
          split at h
          · rename_i hk
            unfold okRows at hk
            rw [Bool.and_eq_true, Bool.and_eq_true, decide_eq_true_eq, List.all_eq_true] at hk
            obtain ⟨⟨k1, k2⟩, k3⟩ := hk
            obtain ⟨ln, at'⟩ := rows_at r hb
            have up := up_pair k2
            have each : ∀ x ∈ rs, 1 ≤ x.length ∧ x.length = (rs.headD []).length ∧ TS.Bd 64 x := fun x hx => by
              have q := k3 x hx
              rw [Bool.and_eq_true, Bool.and_eq_true, decide_eq_true_eq, decide_eq_true_eq, List.all_eq_true] at q
              refine ⟨q.1.1, q.1.2, fun m hm => ?_⟩
              have q2 := q.2 m hm
              rw [Bool.and_eq_true, decide_eq_true_eq, decide_eq_true_eq] at q2
              exact q2
            have row : ∀ (i : Nat) (v : V), vs[i]? = some v → ∃ x, rs[i]? = some x := fun i v hv => by
              have : i < rs.length := by rw [← ln]; exact (List.getElem?_eq_some_iff.mp hv).1
              exact ⟨_, List.getElem?_eq_getElem this⟩
            refine ⟨max 1 (rs.headD []).length, by omega, a, vs, rfl, .of (msk_get e), by rw [ln]; exact k1, fun v hv => ?_, fun ys p pm sd np => ?_⟩
            · obtain ⟨i, hi⟩ := List.getElem?_of_mem hv
              obtain ⟨x, hx⟩ := row i v hi
              obtain ⟨z1, z2, z3⟩ := each x (List.mem_of_getElem? hx)
              exact ⟨x, (at' i v x hi hx).i, by omega, z3⟩
            · have em : ys = vs := by
                refine pm.eq_of_pairwise (le := fun x y => ∀ n m, TupH H x n → TupH H y m → TS.code 64 n ≤ TS.code 64 m) (fun x y hx hy h1 h2 => ?_) (sd.imp fun q n m a b => q n m a.i b.i) ?_
                · obtain ⟨i, hi⟩ := List.getElem?_of_mem (pm.mem_iff.mp hx)
                  obtain ⟨j, hj⟩ := List.getElem?_of_mem hy
                  obtain ⟨a1, ha1⟩ := row i x hi
                  obtain ⟨b1, hb1⟩ := row j y hj
                  have e1 := h1 _ _ (at' i x a1 hi ha1) (at' j y b1 hj hb1)
                  have e2 := h2 _ _ (at' j y b1 hj hb1) (at' i x a1 hi ha1)
                  rcases Nat.lt_trichotomy i j with q | q | q
                  · have := pair_get up q ha1 hb1
                    omega
                  · subst q
                    rw [hi] at hj
                    exact Option.some.inj hj
                  · have := pair_get up q hb1 ha1
                    omega
                · refine List.pairwise_iff_getElem.mpr fun i j hi hj hij n m tn tm => ?_
                  obtain ⟨a1, ha1⟩ := row i _ (List.getElem?_eq_getElem hi)
                  obtain ⟨b1, hb1⟩ := row j _ (List.getElem?_eq_getElem hj)
                  have := pair_get up hij ha1 hb1
                  rw [tn.one (at' i _ a1 (List.getElem?_eq_getElem hi) ha1), tm.one (at' j _ b1 (List.getElem?_eq_getElem hj) hb1)]
                  omega
              subst em
              exact h _ _ (Ext.new np) (ok.newSt np) (ok.lstNew np l r)
          · exact h.elim
      | _ => exact h.elim
end
end G

namespace G
open PySem PySem.Spec PyProof.Rows L2
/-! ### an own list popped at its end, an own list as a test -/
def asgPopS (i : Nat) (h : D → Option (List D)) (js : List Nat) : Ev → Mo Fl := fun env => bnd (ownD i env) fun es => bnd (optM es.getLast?) fun y => bnd (optM (h y)) fun ds => ret (.nx (setsE js ds (env.set i (.own es.dropLast))))
def truE (i : Nat) : Ev → Mo Bool := fun env => bnd (ownD i env) fun es => ret (!es.isEmpty)
section
variable {Γ : Gx} {E : XK}
theorem Reps.dropLast {H : Hp} {vs : List V} {ds : List D} (r : Reps Γ H vs ds) : Reps Γ H vs.dropLast ds.dropLast := by
  rw [List.dropLast_eq_take, List.dropLast_eq_take, r.length]
  exact r.take _
theorem ds_asgPop {i : Nat} {g : TG} {h : D → Option (List D)} {js : List Nat} (b : DG Γ g h js) : DS Γ E (tAsg (tBM0 Γ.K "list" rPop (tVar i)) g) (asgPopS i h js) := fun H0 M0 Gs O σ env H s N r q => by
  unfold asgPopS at q
  rcases ownD_cases i env with ⟨es, hi, ho⟩ | ho
  · rw [ho, bnd_ret] at q
    obtain ⟨y, hy, q⟩ := PostS.opt q
    obtain ⟨ds, hd, q⟩ := PostS.opt q
    obtain ⟨a', vs, k1, kO, k2, k3, k4, k5, k6⟩ := r.x.own1 hi
    rw [List.getLast?_eq_getElem?] at hy
    obtain ⟨yv, hyv, ry⟩ := k6.get hy
    have mj : Mof M0 O a' := .inr ⟨i, by rw [kO]; exact List.mem_cons_self⟩
    have r3 := r.mut1 (vs := vs.dropLast) hi k1 kO (Nat.le_trans (by rw [List.length_dropLast]; omega) k5) k6.dropLast
    refine ⟨.ref a', k1, .inl ⟨rfl, vs, .of k4⟩, a', vs, yv, rfl, rfl, k4, by rw [k6.length]; exact hyv, ?_⟩
    obtain ⟨l, p⟩ := b _ _ s yv y ds r3.x.ok (by rw [msk_upd mj]; exact ry) hd
    exact p σ _ fun ws rv => q _ _ _ (r3.sets rv)
  · rw [ho] at q; exact q.elim
theorem dt_truOwn {i : Nat} : DT Γ E (fun σ H Q => tVar i σ H fun x H' => ∃ k, TruV Γ.K x H' k ∧ Q k H') (truE i) := fun M O σ env H s x Q q => by
  unfold truE at q
  rcases ownD_cases i env with ⟨es, hi, ho⟩ | ho
  · rw [ho, bnd_ret] at q
    obtain ⟨a', vs, k1, kO, k2, k3, k4, k5, k6⟩ := x.own1 hi
    refine ⟨.ref a', k1, _, .inl ⟨vs, .of k4, rfl⟩, ?_⟩
    have e : vs.isEmpty = es.isEmpty := by
      cases k6 <;> rfl
    rw [e]
    exact q.here x.ok.st rfl
  · rw [ho] at q; exact q.elim
end
section
variable {ι : Type} {Γ : Gx} {X : ι → Cx} {k : Nat} {E : XK}
theorem vs_asgPop (i : Nat) {x : Str} {tg : Expr} {h : D → Option (List D)} {js : List Nat} {p p2 pos spos : Pos} (g : GX Γ X k E) (hg : VG Γ X tg h js)
    (hp : ∀ l, PE (X l) (.Call (.Attribute (.Name x p) "pop" p2) [] [] pos) (tBM0 (X l).K "list" rPop (tVar i)) := by
      intro _
      exact pe_bm0 PySem.F.plainAttrs_list PySem.F.slot_list_pop PySem.F.type_list_pop mt_pop (pe_var rfl (by first | exact Or.inl rfl | exact Or.inr (Or.inl rfl))))
    (hs : ∀ l, swapsWithSole [tg] (.Call (.Attribute (.Name x p) "pop" p2) [] [] pos) spos.line (X l).env = pure false := by intro _; rfl) (hw : ∀ l, swappedStores [tg] (.Call (.Attribute (.Name x p) "pop" p2) [] [] pos) (X l).env = pure none := by intro _; rfl)
    (h1 : ∀ l, (assignEach [tg] (X l).env).map (·.2) = [assign tg (X l).env] := by intro _; rfl) :
    VS Γ X E (.Assign [tg] (.Call (.Attribute (.Name x p) "pop" p2) [] [] pos) spos) (asgPopS i h js) := by
  obtain ⟨t, q, d⟩ := hg.ex
  exact ⟨tAsg (tBM0 Γ.K "list" rPop (tVar i)) t, fun l => g.K l ▸ ps_asg (hp l) (q l) (hs l) (hw l) (h1 l), fun sa => ds_asgPop (Γ := Γ.at sa) (d sa)⟩
theorem vt_truOwn (i : Nat) {x : Str} {pos : Pos} (g : GX Γ X k E) (hN : ∀ j, (X j).N[i]? = some x := by intro _; rfl)
    (hv : ∀ j, Vis (X j).env.scope x := by first | exact fun _ => Or.inl rfl | exact fun _ => Or.inr (Or.inl rfl) | exact fun _ => Or.inr (Or.inr rfl))
    (he : ∀ j whole, isTrue (.Name x pos) (X j).env whole = (do let v ← whole; standAt (Expr.pos (.Name x pos)); holding [v] (truthy v)) := by intro _ _; rfl)
    (hd : (x == ("__debug__" : Str)) = false := by decide) (hcd : (x == ("__classdict__" : Str)) = false := by decide) : VT Γ X E (.Name x pos) (truE i) :=
  ⟨fun σ H Q => tVar i σ H fun x H' => ∃ k, TruV Γ.K x H' k ∧ Q k H', fun j => by rw [← g.K j]; exact pt_truth (pe_var (hN j) (hv j) hd hcd) (he j), fun sa => dt_truOwn (Γ := Γ.at sa)⟩
end
end G

namespace G
open PySem PySem.Spec PyProof.Rows L2
/-! ### own dicts whose keys are numbers and texts -/
def owndD (i : Nat) (env : Ev) : Mo (List Key × List D) := match env[i]? with
  | some (.ownd ks ds) => ret (ks, ds)
  | _ => bad
theorem owndD_cases (i : Nat) (env : Ev) : (∃ ks ds, env[i]? = some (Sl.ownd ks ds) ∧ owndD i env = ret (ks, ds)) ∨ owndD i env = bad := by
  unfold owndD
  cases hi : env[i]? with
  | none => exact .inr rfl
  | some sl =>
    cases sl with
    | ownd ks ds => exact .inl ⟨ks, ds, rfl, rfl⟩
    | _ => exact .inr rfl
def keyD : D → Option Key
  | .int i => some (.inl i)
  | .str x => some (.inr x)
  | _ => none
theorem keyD_rep {Γ : Gx} {H : Hp} {v : V} {d : D} {k : Key} (r : Rep Γ H v d) (h : keyD d = some k) : v = kV k := by
  cases r <;> first | (cases h; rfl) | cases h
/-- the place of a key, whether it is there -/
def ixK (ks : List Key) (k : Key) : Nat := ks.findIdx fun a => decide (a = k)
def hasK (ks : List Key) (k : Key) : Bool := ks.any fun a => decide (a = k)
theorem hasK_lt {ks : List Key} {k : Key} : hasK ks k = true ↔ ixK ks k < ks.length := by
  unfold hasK ixK
  rw [List.findIdx_lt_length, List.any_eq_true]
theorem val_zip {k : Key} : ∀ {ks : List Key} {vs : List V}, ks.length = vs.length → valV (ks.zip vs) k = vs[ixK ks k]?
  | [], [], _ => rfl
  | [], _ :: _, h => by cases h
  | _ :: _, [], h => by cases h
  | a :: ks, v :: vs, h => by
    have ih := val_zip (k := k) (ks := ks) (vs := vs) (by simpa using h)
    unfold ixK at ih ⊢
    rw [List.zip_cons_cons, List.findIdx_cons]
    unfold valV at ih ⊢
    rw [List.find?_cons]
    cases e : decide (a = k) with
    | true => simp [e]
    | false => simp [e, ih]
theorem put_zip {k : Key} {v : V} : ∀ {ks : List Key} {vs : List V}, ks.length = vs.length → hasK ks k = false → putK (ks.zip vs) k v = (ks ++ [k]).zip (vs ++ [v]) := fun {ks vs} h n => by
  unfold putK
  have : ((ks.zip vs).any fun kv => decide (kv.1 = k)) = false := by
    rw [List.any_eq_false]
    intro x hx e
    have hm := (List.of_mem_zip hx).1
    have : hasK ks k = true := List.any_eq_true.mpr ⟨_, hm, e⟩
    rw [n] at this
    cases this
  rw [this, if_neg Bool.false_ne_true, List.zip_append h]
  rfl
def setOwndS (i : Nat) : Ev → Mo Fl := fun env => if i < env.length then ret (.nx (env.set i (.ownd [] []))) else bad
def setdefS (i : Nat) (f g : Ev → Mo D) : Ev → Mo Fl := fun env => bnd (owndD i env) fun kd => bnd (f env) fun d => bnd (optM (keyD d)) fun k => bnd (g env) fun v =>
  if kd.1.length ≤ cap then (if hasK kd.1 k = true then ret (.nx env) else ret (.nx (env.set i (.ownd (kd.1 ++ [k]) (kd.2 ++ [v]))))) else bad
def dgetE (i : Nat) (f : Ev → Mo D) : Ev → Mo D := fun env => bnd (owndD i env) fun kd => bnd (f env) fun d => bnd (optM (keyD d)) fun k => optM kd.2[ixK kd.1 k]?
def dlenE (i : Nat) : Ev → Mo D := fun env => bnd (owndD i env) fun kd => ret (.int kd.1.length)
section
variable {Γ : Gx} {E : XK} {H0 H H' : Hp} {M0 : Addr → Prop} {Gs : List (V × D)} {O : Ow} {σ : L2.St} {env : Ev} {s s' : S} {N : Ends}
theorem RepX.ownd1 {M : Addr → Prop} (x : RepX Γ M O σ env H s) {i : Nat} {ks : List Key} {ds : List D} (hi : env[i]? = some (Sl.ownd ks ds)) :
    ∃ a vs, σ[i]? = some (some (V.ref a)) ∧ O i = [a] ∧ M a ∧ a ≠ Γ.sa ∧ H a = some (.dK (ks.zip vs)) ∧ ks.length = vs.length ∧ vs.length ≤ sizeLine ∧ Reps Γ (msk M H) vs ds := by
  obtain ⟨v, hv, a, e1, e2, vs, h1, h2, h3, h4⟩ := x.own i _ hi rfl
  subst e1
  obtain ⟨m1, m2⟩ := x.inM i a (by rw [e2]; exact List.mem_cons_self)
  exact ⟨a, vs, hv, e2, m1, m2, h1, h2, h3, h4⟩
theorem ds_dnew {i : Nat} : DS Γ E (tAsg tDNewK (gName i)) (setOwndS i) := fun H0 M0 Gs O σ env H s N r q => by
  unfold setOwndS at q
  split at q
  · rename_i hi
    intro p np
    exact q _ _ _ (r.ownNew (as := [p]) (Ext.new np) (r.x.ok.newSt np) hi (List.nodup_cons.mpr ⟨List.not_mem_nil, List.nodup_nil⟩) (fun a ha => by rw [List.mem_singleton.mp ha]; exact np) ⟨p, rfl, rfl, [], upd_same, rfl, Nat.zero_le _, .nil⟩)
  · exact q.elim
theorem ds_setdef {i : Nat} {ty tx : TE} {f g : Ev → Mo D} (a : DE Γ E ty f) (b : DE Γ E tx g) : DS Γ E (tDrop (tDSetd (tVar i) ty tx)) (setdefS i f g) := fun H0 M0 Gs O σ env H s N r q => by
  unfold setdefS at q
  rcases owndD_cases i env with ⟨ks, ds, hi, ho⟩ | ho
  · rw [ho, bnd_ret] at q
    obtain ⟨p, vs, k1, kO, k2, k3, k4, k5, k6, k7⟩ := r.x.ownd1 hi
    refine ⟨.ref p, k1, p, rfl, .inl ⟨_, .inl k4⟩, ?_⟩
    refine a _ O σ env H s r.x _ (PostS.bnd r q fun d s1 v H1 e1 t1 r1 h1 => ?_)
    obtain ⟨k, hk, h1⟩ := PostS.opt h1
    have r2 := r.later e1 t1
    refine b _ O σ env H1 s1 r2.x _ (PostS.bnd r2 h1 fun d2 s2 w H2 e2 t2 rw2 h2 => ?_)
    have r3 := r2.later e2 t2
    have hp2 : H2 p = some (.dK (ks.zip vs)) := e2 _ _ (e1 _ _ k4 k3 nofun) k3 nofun
    split at h2
    · rename_i hc
      have hlz : (ks.zip vs).length < sizeLine := by
        rw [List.length_zip, ← k5, Nat.min_self]
        exact cap_lt hc
      refine ⟨_, k, hp2, keyD_rep r1 hk, hlz, fun u hu => ?_, fun hu => ?_⟩
      · rw [val_zip k5] at hu
        have hm : hasK ks k = true := by
          have := (List.getElem?_eq_some_iff.mp hu).1
          exact hasK_lt.mpr (by omega)
        rw [if_pos hm] at h2
        exact h2 _ _ _ r3
      · rw [val_zip k5] at hu
        have hm : hasK ks k = false := by
          cases z : hasK ks k with
          | false => rfl
          | true =>
            have := hasK_lt.mp z
            rw [List.getElem?_eq_none_iff] at hu
            omega
        rw [if_neg (by rw [hm]; exact Bool.false_ne_true)] at h2
        have mA : Mof M0 O p := .inr ⟨i, by rw [kO]; exact List.mem_cons_self⟩
        rw [put_zip k5 hm]
        refine h2 _ _ _ (r3.mut (v := .ref p) hi rfl k1 (fun x hx => upd_ne (fun z => hx (by rw [kO, z]; exact List.mem_cons_self))) ⟨p, rfl, kO, vs ++ [w], upd_same, by rw [List.length_append, List.length_append, k5]; rfl, ?_, ?_⟩)
        · rw [List.length_append, List.length_singleton, ← k5]
          exact cap_lt hc
        · rw [msk_upd mA]
          exact (r2.x.ok.reps e2 (r.x.ok.reps e1 k7)).append (.cons rw2 .nil)
    · exact h2.elim
  · rw [ho] at q; exact q.elim
theorem de_dget {i : Nat} {ty : TE} {f : Ev → Mo D} (a : DE Γ E ty f) : DE Γ E (tDGet (tVar i) ty) (dgetE i f) := fun M O σ env H s x Q q => by
  unfold dgetE at q
  rcases owndD_cases i env with ⟨ks, ds, hi, ho⟩ | ho
  · rw [ho, bnd_ret] at q
    obtain ⟨p, vs, k1, kO, k2, k3, k4, k5, k6, k7⟩ := x.ownd1 hi
    refine ⟨.ref p, k1, ?_⟩
    refine a M O σ env H s x _ (PostR.bnd q fun d s1 v H1 e1 t1 r1 h1 => ?_)
    obtain ⟨k, hk, h1⟩ := PostR.step h1
    obtain ⟨u, hu, h1⟩ := optM_post h1
    obtain ⟨uv, huv, ru⟩ := (x.ok.reps e1 k7).get hu
    have hp1 : H1 p = some (.dK (ks.zip vs)) := e1 _ _ k4 k3 nofun
    have e := keyD_rep r1 hk
    subst e
    exact ⟨p, uv, rfl, by rw [← huv, ← val_zip k5]; exact DGet.k hp1, h1.here t1 ru⟩
  · rw [ho] at q; exact q.elim
theorem de_dlen {i : Nat} : DE Γ E (tCB (fun xs H Q => ∃ a kvs, xs = [V.ref a] ∧ H a = some (.dK kvs) ∧ Q (.int kvs.length) H) (tCons (tVar i) tNil)) (dlenE i) := fun M O σ env H s x Q q => by
  unfold dlenE at q
  rcases owndD_cases i env with ⟨ks, ds, hi, ho⟩ | ho
  · rw [ho, bnd_ret] at q
    obtain ⟨p, vs, k1, kO, k2, k3, k4, k5, k6, k7⟩ := x.ownd1 hi
    refine ⟨.ref p, k1, p, ks.zip vs, rfl, k4, ?_⟩
    rw [List.length_zip, ← k5, Nat.min_self]
    exact q.here x.ok.st (.int _)
  · rw [ho] at q; exact q.elim
end
section
variable {ι : Type} {Γ : Gx} {X : ι → Cx} {k : Nat} {E : XK}
theorem vs_dnew (i : Nat) {x : Str} {pos pos' dpos : Pos} (g : GX Γ X k E) (hi : ∀ j, (X j).N[i]? = some x := by intro _; rfl) (hx : ∀ j, Loc (X j).env.scope x := by first | exact fun _ => Or.inl rfl | exact fun _ => Or.inr rfl)
    (hs : ∀ j, swapsWith (.Dict [] [] dpos) (some (.Name x pos')) pos.line (X j).env = pure false := by intro _; rfl) (hf : ∀ j, (X j).fn x = true ∨ (X j).env.scope.names.lookup x = some .local := by first | exact fun _ => .inl rfl | exact fun _ => .inr rfl) :
    VS Γ X E (.Assign [.Name x pos'] (.Dict [] [] dpos) pos) (setOwndS i) :=
  ⟨_, fun j => ps_set (g.nd j) (hi j) (hx j) pe_dnewK (hs j) (hf j), fun sa => ds_dnew⟩
theorem vs_setdef (i : Nat) {x : Str} {e e2 : Expr} {f h : Ev → Mo D} {p p2 pos spos : Pos} (g : GX Γ X k E) (he : VE Γ X E e f) (he2 : VE Γ X E e2 h)
    (hN : ∀ j, (X j).N[i]? = some x := by intro _; rfl)
    (hvs : ∀ j, Vis (X j).env.scope x := by first | exact fun _ => Or.inl rfl | exact fun _ => Or.inr (Or.inl rfl) | exact fun _ => Or.inr (Or.inr rfl)) (hd : (x == ("__debug__" : Str)) = false := by decide) (hcd : (x == ("__classdict__" : Str)) = false := by decide)
    (m : ∀ j, M2 (X j) (.Name x p) "setdefault" p2 e e2 pos := by intro _; exact ⟨rfl, rfl, rfl, rfl⟩)
    (hs : ∀ j, swapsWith (.Call (.Attribute (.Name x p) "setdefault" p2) [e, e2] [] pos) none spos.line (X j).env = pure false := by intro _; rfl) :
    VS Γ X E (.Expr (.Call (.Attribute (.Name x p) "setdefault" p2) [e, e2] [] pos) spos) (setdefS i f h) := by
  obtain ⟨t, q, d⟩ := he.ex
  obtain ⟨t2, q2, d2⟩ := he2.ex
  exact ⟨tDrop (tDSetd (tVar i) t t2), fun j => ps_expr (pe_dsetd (pe_var (hN j) (hvs j) hd hcd) (q j) (q2 j) (m j)) (hs j), fun sa => ds_setdef (Γ := Γ.at sa) (d sa) (d2 sa)⟩
theorem ve_dget (i : Nat) {x : Str} {e : Expr} {f : Ev → Mo D} {p pos : Pos} (g : GX Γ X k E) (he : VE Γ X E e f) (hN : ∀ j, (X j).N[i]? = some x := by intro _; rfl)
    (hvs : ∀ j, Vis (X j).env.scope x := by first | exact fun _ => Or.inl rfl | exact fun _ => Or.inr (Or.inl rfl) | exact fun _ => Or.inr (Or.inr rfl)) (hd : (x == ("__debug__" : Str)) = false := by decide) (hcd : (x == ("__classdict__" : Str)) = false := by decide)
    (hn : NoSl e := by intro _ _; rfl) : VE Γ X E (.Subscript (.Name x p) e pos) (dgetE i f) := by
  obtain ⟨t, q, d⟩ := he.ex
  exact ⟨tDGet (tVar i) t, fun j => pe_dget (by have := (g.room j).un; omega) (pe_var (hN j) (hvs j) hd hcd) (q j) hn, fun sa => de_dget (Γ := Γ.at sa) (d sa)⟩
theorem ve_dlen (i : Nat) {x y : Str} {p p2 pos : Pos} (g : GX Γ X k E) (hm : ∀ j, (X j).mg x = none) (hN : ∀ j, (X j).N[i]? = some y := by intro _; rfl)
    (hvs : ∀ j, Vis (X j).env.scope y := by first | exact fun _ => Or.inl rfl | exact fun _ => Or.inr (Or.inl rfl) | exact fun _ => Or.inr (Or.inr rfl)) (hd : (y == ("__debug__" : Str)) = false := by decide) (hcd : (y == ("__classdict__" : Str)) = false := by decide)
    (hg : ∀ j, Gl (X j) x := by intro _; rfl) (hv : bootBuiltins x = some (.builtin "len") := by decide +kernel) (hn : x ≠ "__name__" := by decide) (hdb : (x == ("__debug__" : Str)) = false := by decide)
    (he : ∀ j, starEach [.Name y p2] (X j).env = (false, eval (.Name y p2) (X j).env) :: starEach [] (X j).env := by intro _; rfl) (hpl : ∀ j, (backTo pos (starEach [] (X j).env)).any (·.1) = false := by intro _; rfl) :
    VE Γ X E (.Call (.Name x p) [.Name y p2] [] pos) (dlenE i) :=
  ⟨_, fun j => pe_callB call_lenD (hg j) (hm j) hv (pa_cons (pe_var (hN j) (hvs j) hd hcd) pa_nil (he j)) hn hdb (he j) (hpl j), fun sa => de_dlen (Γ := Γ.at sa)⟩
/-! isinstance of an own class -/
theorem kit_self {K : PySem.W.Frag} {C : Addr} : PySem.W.kitOne K (.ref C) (.ref C) = some true := by
  unfold PySem.W.kitOne
  simp
def isCD (c : Nat) : D → Mo D
  | .obj c' _ => if c' = c then ret (.bl true) else bad
  | _ => bad
theorem de_isC {c : Nat} {te : TE} {f : Ev → Mo D} (h : DE Γ E te f) : DE Γ E (tCB (fun xs H Q => ∃ a dx fs, xs = [V.ref a, V.ref (Γ.cl c)] ∧ H a = some (.ins (Γ.cl c) dx fs) ∧ Q (.bl true) H) (tCons te (tCons (tC (.ref (Γ.cl c))) tNil))) (op1D (isCD c) f) := fun M O σ env H s x Q q => by
  have q : PostR Γ E M (RD Γ M) H (bnd (f env) (isCD c) s) Q := q
  refine h M O σ env H s x _ (PostR.bnd q fun d s1 v H1 e1 t1 r1 h1 => ?_)
  cases r1 with
  | @obj a dx c' vs ds e l r =>
    have h1 : PostR Γ E M (RD Γ M) H1 ((if c' = c then ret (.bl true) else bad : Mo D) s1) Q := h1
    by_cases hc : c' = c
    · subst hc
      rw [if_pos rfl] at h1
      exact ⟨a, dx, _, rfl, (msk_iff.mp e).2, h1.here t1 (.bl true)⟩
    · rw [if_neg hc] at h1
      exact h1.elim
  | _ => exact h1.elim
theorem ve_isC (c : Nat) {x y : Str} {e : Expr} {f : Ev → Mo D} {p p2 pos : Pos} (g : GX Γ X k E) (hm : ∀ j, (X j).mg x = none) (I : C8.InsC Γ.K (Γ.cl c)) (hmy : ∀ j, (X j).mg y = some (.ref (Γ.cl c))) (he : VE Γ X E e f)
    (hdy : (y == ("__debug__" : Str)) = false := by decide) (hgy : ∀ j, Gl (X j) y := by intro _; rfl)
    (hg : ∀ j, Gl (X j) x := by intro _; rfl) (hv : bootBuiltins x = some (.builtin "isinstance") := by decide +kernel) (hn : x ≠ "__name__" := by decide) (hdb : (x == ("__debug__" : Str)) = false := by decide)
    (h1 : ∀ j, starEach [.Name y p2] (X j).env = (false, eval (.Name y p2) (X j).env) :: starEach [] (X j).env := by intro _; rfl)
    (hs : ∀ j, starEach [e, .Name y p2] (X j).env = (false, eval e (X j).env) :: starEach [.Name y p2] (X j).env := by intro _; rfl) (hpl : ∀ j, (backTo pos (starEach [.Name y p2] (X j).env)).any (·.1) = false := by intro _; rfl) :
    VE Γ X E (.Call (.Name x p) [e, .Name y p2] [] pos) (op1D (isCD c) f) := by
  obtain ⟨t, q, d⟩ := he.ex
  exact ⟨_, fun j => pe_callB (C8.call_isC (by rw [g.K j]; exact I)) (hg j) (hm j) hv (pa_cons (q j) (pa_cons (pe_glob (v := .ref (Γ.cl c)) (hgy j) (hmy j) rfl hdy) pa_nil (h1 j)) (hs j)) hn hdb (hs j) (hpl j), fun sa => de_isC (Γ := Γ.at sa) (d sa)⟩
end
end G

namespace G
open PySem PySem.Spec PyProof.Rows L2
/-! ### several except clauses, with and without a name -/
/-- what is so once an exception of a try's body has been met: s as it was raised, g the heap now -/
structure Met (X : Cx) (pins : List (Addr × Obj)) (σ : L2.St) (H : Hp) (cls : Value) (d : Option Addr) (a : Addr) (B : Heap) (sI s : Shared) (g : Heap) : Prop where
  inv : Inv X pins σ H sI
  keep : ∀ b o, sI.heap.get? b = some o → b ∉ frs X.stack → B.get? b = some o
  upto : sI.heap.UpToSlots g
  fly : HandSPX.FlyingZ B (X.env :: X.outer) a (Zc cls d) g
  none : H a = none
  os : s.os = sI.os
  bare : AllBare s.gens
def HdR (X : Cx) (hds : List ExceptHandler) (w : Ends → WX) : Prop := ∀ (pins : List (Addr × Obj)) (σ : L2.St) (H : Hp) (cls : Value) (d : Option Addr) (a : Addr) (B : Heap) (sI s : Shared) (g : Heap) (D : Ends),
  Met X pins σ H cls d a B sI s g → w D cls d σ H → wpAny (model X.prog X.w) X.A (handleBy (.ref a) X.env hds) (SP X pins D) X.xe { s with heap := g }
section
variable {X : Cx} (hs : X.stack = X.env :: X.outer) (hf : X.env.frame = some X.env.locals)
theorem Met.out {pins : List (Addr × Obj)} {σ : L2.St} {H : Hp} {cls : Value} {d : Option Addr} {a : Addr} {B : Heap} {sI s : Shared} {g : Heap} (m : Met X pins σ H cls d a B sI s g) : Inv X pins σ H { s with heap := g } := m.inv.landed m.keep m.fly.1 m.upto m.os m.bare
include hf in
theorem Met.far {pins : List (Addr × Obj)} {σ : L2.St} {H : Hp} {cls : Value} {d : Option Addr} {a : Addr} {B : Heap} {sI s : Shared} {g : Heap} (m : Met X pins σ H cls d a B sI s g) : ∃ oe vs, g.get? a = some oe ∧ Zc cls d oe ∧ oe.data = .fields vs ∧ a ≠ X.env.locals ∧ a ∉ X.fs := by
  obtain ⟨oe, vs, e1, e2, e3⟩ := m.fly.there
  have fr : a ∉ frs (X.env :: X.outer) := fun z => by
    obtain ⟨_, o', e', q⟩ := m.fly.2.2.1.mem z
    rw [e1] at e'; cases e'; exact q _ e3
  refine ⟨oe, vs, e1, e2, e3, fun z => ?_, fun z => ?_⟩
  · exact fr (List.mem_filterMap.mpr ⟨X.env, List.mem_cons_self, by rw [hf, z]⟩)
  · obtain ⟨e, he, q⟩ := List.mem_filterMap.mp z
    exact fr (List.mem_filterMap.mpr ⟨e, List.mem_cons_of_mem _ he, q⟩)
include hf hs in
/-- no clause is left: on it goes -/
theorem hdr_nil {Wout : WX} (tk : Takes X Wout) : HdR X [] (fun _ => Wout) := fun pins σ H cls d a B sI s g D m w => by
  refine wpAny_handleBy_nil ?_
  obtain ⟨_, _, _, oe, vs, T, oT, ts, x1, x2, x3, x4, x5⟩ := id m.fly
  unfold PySem.passOn
  refine wpAny_bind (wpAny_field x1 x3 x4 ?_)
  rw [if_neg (show ¬ ((Value.ref T == Value.none) = true) by simp)]
  have go : wpAny (model X.prog X.w) X.A (setFlight (.ref a) X.env.frame) (fun _ s2 => wpAny (model X.prog X.w) X.A (throw (.ref a) : Sem Flow) (SP X pins D) X.xe s2) X.xe { s with heap := g } := by
    rw [hf]
    exact HandSPX.setFlight_upZ m.fly fun g2 held up2 => wpAny_throw (tk _ _ ⟨a, B, sI, pins, σ, H, cls, d, rfl, m.inv, m.keep, m.upto.trans up2, .inr (.inr (hs ▸ held)), m.none, m.os, m.bare, w⟩)
  first
    | exact wpAny_bind (wpAny_pure (wpAny_bind go))
    | exact wpAny_bind go
/-- what a clause asks of the class that it names -/
theorem Met.test {pins : List (Addr × Obj)} {σ : L2.St} {H : Hp} {cls c : Value} {d : Option Addr} {a : Addr} {B : Heap} {sI s : Shared} {g : Heap} {x : Str} {np : Pos} {oe : Obj} {vs : Array Value} (m : Met X pins σ H cls d a B sI s g) (hc : Names X x c)
    (e1 : g.get? a = some oe) (e3 : oe.data = .fields vs) (nL : a ≠ X.env.locals) (nF : a ∉ X.fs) {Q : Value → Shared → Prop} {E : Value → Shared → Prop} (q : Q c { s with heap := g }) :
    wpAny (model X.prog X.w) (X.A.mark (some (.ref a))) (eval (.Name x np) X.env) Q E { s with heap := g } := by
  have S := m.out.suite e1 e3 m.none nL nF
  obtain ⟨h1, h2, h3 | ⟨h3, h4, h5⟩⟩ := hc
  · exact ld_glob (X := X.suite a ((a, oe) :: (X.pn ++ pins))) S h1 h3 q h2
  · exact ld_blt (X := X.suite a ((a, oe) :: (X.pn ++ pins))) S h1 h3 h4 q h5 h2
include hf in
/-- except x: -/
theorem hdr_one {x : Str} {c : Value} {b₀ : Stmt} {suite : List Stmt} {np pos : Pos} {hds : List ExceptHandler} {ts : Addr → Value → Option Addr → TS} {w : Ends → WX} (hc : Names X x c)
    (hsu : ∀ (a : Addr) (oe : Obj) (cls : Value) (d : Option Addr) (pn : List (Addr × Obj)), Zc cls d oe → (∃ vs, oe.data = .fields vs) → PSs (X.suite a ((a, oe) :: pn)) (b₀ :: suite) (ts a cls d)) (r : HdR X hds w) :
    HdR X (.ExceptHandler (some (.Name x np)) none (b₀ :: suite) pos :: hds) (fun D cls d σ H => ∃ b, PySem.W.exmOne X.K cls c = some b ∧ (b = true → ∀ a, H a = none → ts a cls d D σ H) ∧ (b = false → w D cls d σ H)) := fun pins σ H cls d a B sI s g D m ⟨b, hb, y, n⟩ => by
  have ok := m.inv.ok
  obtain ⟨oe, vs, e1, e2, e3, nL, nF⟩ := m.far hf
  refine wpAny_handleBy_cons (codeAny_handlers_test ?_) (by intro z; cases z)
  have lt : PySem.W.Looks (model X.prog X.w) g (typeOf (.ref a)) cls := fun A Q E t k q => wpAny_typeOf_ref (k _ _ e1) (by rw [e2.1]; exact q)
  refine m.test hc e1 e3 nL nF ((PySem.W.exm_one (M := model X.prog X.w) m.out.kIn lt hb).here ?_)
  cases b with
  | false => exact r pins σ H cls d a B sI s g D m (n rfl)
  | true =>
    refine codeAny_handlers_suite (HandSPX.lands_againZ m.fly fun g2 fly2 up2 => ?_)
    have m2 : Met X pins σ H cls d a B sI s g2 := ⟨m.inv, m.keep, m.upto.trans up2, fly2, m.none, m.os, m.bare⟩
    obtain ⟨o2, v2, f1, f2, f3, _, _⟩ := m2.far hf
    have S := m2.out.suite f1 f3 m.none nL nF
    refine wpAny_mono ((hsu a o2 cls d (X.pn ++ pins) f2 ⟨_, f3⟩).run [] _ _ H _ S (y rfl a m.none)) (fun f s6 z => ?_) (fun _ _ z => False.elim z)
    cases f with
    | next => obtain ⟨σ6, H6, S6, q6⟩ := z; exact ⟨_, _, S6.unsuite ok, q6⟩
    | brk => obtain ⟨σ6, H6, S6, q6⟩ := z; exact ⟨_, _, S6.unsuite ok, q6⟩
    | cont => obtain ⟨σ6, H6, S6, q6⟩ := z; exact ⟨_, _, S6.unsuite ok, q6⟩
    | ret u => obtain ⟨v6, σ6, H6, S6, r6, q6⟩ := z; exact ⟨_, _, _, S6.unsuite ok, r6, q6⟩
include hf in
/-- except x as n: -/
theorem hdr_as {x n : Str} {c : Value} {i : Nat} {b₀ : Stmt} {suite : List Stmt} {np pos : Pos} {hds : List ExceptHandler} {ts : Addr → Value → Option Addr → TS} {w : Ends → WX} (hN : X.N.Nodup) (hi : X.N[i]? = some n) (hl : X.env.kindOf n = some .local) (hc : Names X x c)
    (hsu : ∀ (a : Addr) (oe : Obj) (cls : Value) (d : Option Addr) (pn : List (Addr × Obj)), Zc cls d oe → (∃ vs, oe.data = .fields vs) → PSs (X.suite a ((a, oe) :: pn)) (b₀ :: suite) (ts a cls d)) (r : HdR X hds w) :
    HdR X (.ExceptHandler (some (.Name x np)) (some n) (b₀ :: suite) pos :: hds) (fun D cls d σ H => ∃ b, PySem.W.exmOne X.K cls c = some b ∧
      (b = true → ∀ a, H a = none → ts a cls d { nx := fun τ G => D.nx (τ.set i none) G, rt := D.rt, bk := fun τ G => D.bk (τ.set i none) G, ct := fun τ G => D.ct (τ.set i none) G } (σ.set i (some (.ref a))) H) ∧ (b = false → w D cls d σ H)) := fun pins σ H cls d a B sI s g D m ⟨b, hb, y, n'⟩ => by
  have ok := m.inv.ok
  obtain ⟨oe, vs, e1, e2, e3, nL, nF⟩ := m.far hf
  refine wpAny_handleBy_cons (codeAny_handlers_test ?_) (by intro z; cases z)
  have lt : PySem.W.Looks (model X.prog X.w) g (typeOf (.ref a)) cls := fun A Q E t k q => wpAny_typeOf_ref (k _ _ e1) (by rw [e2.1]; exact q)
  refine m.test hc e1 e3 nL nF ((PySem.W.exm_one (M := model X.prog X.w) m.out.kIn lt hb).here ?_)
  cases b with
  | false => exact r pins σ H cls d a B sI s g D m (n' rfl)
  | true =>
    refine codeAny_handlers_suite_as (HandSPX.lands_againZ m.fly fun g2 fly2 up2 => ?_)
    have m2 : Met X pins σ H cls d a B sI s g2 := ⟨m.inv, m.keep, m.upto.trans up2, fly2, m.none, m.os, m.bare⟩
    obtain ⟨o2, v2, f1, f2, f3, _, _⟩ := m2.far hf
    have S := m2.out.suite f1 f3 m.none nL nF
    refine store_ok (X := X.suite a ((a, o2) :: (X.pn ++ pins))) (v := .ref a) S hN hi (.inl hl) rfl (fun s5 S5 => ?_) (.inr hl)
    refine wpAny_mono ((hsu a o2 cls d (X.pn ++ pins) f2 ⟨_, f3⟩).run [] s5 _ H _ S5 (y rfl a m.none)) (fun f s6 z => ?_) (fun _ _ z => False.elim z)
    have gone : ∀ {τ : L2.St} {G : Hp} {Q : Shared → Prop}, Inv (X.suite a ((a, o2) :: (X.pn ++ pins))) [] τ G s6 → (∀ s7, Inv X pins (τ.set i none) G s7 → Q s7) → wpAny (model X.prog X.w) X.A (do bindName X.env n .none; unbindBehindTheSuite X.env n pos) (fun _ s7 => Q s7) X.xe s6 := fun S6 q => gone_ok (S6.unsuite ok) hN hi hl q
    cases f with
    | next => obtain ⟨σ6, H6, S6, q6⟩ := z; exact gone S6 fun s7 J => ⟨_, _, J, q6⟩
    | brk => obtain ⟨σ6, H6, S6, q6⟩ := z; exact gone S6 fun s7 J => ⟨_, _, J, q6⟩
    | cont => obtain ⟨σ6, H6, S6, q6⟩ := z; exact gone S6 fun s7 J => ⟨_, _, J, q6⟩
    | ret u => obtain ⟨v6, σ6, H6, S6, r6, q6⟩ := z; exact gone S6 fun s7 J => ⟨_, _, _, J, r6, q6⟩
include hf hs in
/-- try: body, except .. -/
theorem ps_try_hs {body : List Stmt} {h₀ : ExceptHandler} {hds : List ExceptHandler} {pos : Pos} {tb : WX → TS} {w : Ends → WX}
    (hb : ∀ (W : WX) (pn : List (Addr × Obj)) (xe : Value → Shared → Prop), Takes (X.tr pn xe) W → PassesOwn (model X.prog X.w) X.A X.env xe → PSs (X.tr pn xe) body (tb W)) (hh : HdR X (h₀ :: hds) w) :
    PS X (.Try body (h₀ :: hds) [] [] pos) (fun D σ H => tb (w D) D σ H) := ⟨fun pins s σ H D I h => by
  have ok := I.ok
  refine wpAny_Try_except (wpAny_mono ((hb (w D) (X.pn ++ pins) (fun e s₁ => wpAny (model X.prog X.w) X.A (noteFrame e X.env) (fun _ s₂ => wpAny (model X.prog X.w) X.A (setFlight e none) (fun _ s₃ => wpAny (model X.prog X.w) X.A (handleBy e X.env (h₀ :: hds)) (SP X pins D) X.xe s₃) X.xe s₂) X.xe s₁) (fun u s' xx => ?_) PassesOwn.looking).run [] s σ H D (I.toTry _) h) (fun f s1 z => ?_) (fun e s1 he => he))
  · obtain ⟨a, B, sI, p', σ', H', cls, d, rfl, J, nb, up, sky, na, os, ag, q⟩ := xx
    show wpAny _ X.A (noteFrame (.ref a) X.env) _ _ _
    exact Sky.land Zc.steady (by rw [ok.frames, hs]) hf (show Sky B (X.env :: X.outer) a (Zc cls d) X.env.locals s'.heap from hs ▸ sky) fun g fl up3 => hh pins σ' H' cls d a B sI s' g D ⟨J.ofTry ok, nb, up.trans up3, fl, na, os, ag⟩ q
  · cases f with
    | next => obtain ⟨σ', H', J, q⟩ := z; exact wpAny_execs_nil ⟨σ', H', J.ofTry ok, q⟩
    | brk => obtain ⟨σ', H', J, q⟩ := z; exact ⟨σ', H', J.ofTry ok, q⟩
    | cont => obtain ⟨σ', H', J, q⟩ := z; exact ⟨σ', H', J.ofTry ok, q⟩
    | ret u => obtain ⟨v, σ', H', J, r, q⟩ := z; exact ⟨v, σ', H', J.ofTry ok, r, q⟩⟩
end
end G

namespace G
open PySem PySem.Spec PyProof.Rows L2
/-! ### errors with a reason: raised, and caught by name where a value is returned -/
structure ExR (K : PySem.W.Frag) (mg : Str → Option Value) (x : Str) (C : Addr) : Prop where
  g : mg x = some (.ref C)
  T : OexC K C
  f : XfC K C
  no : PySem.W.findIn K (.ref C) "reason" = some none
  i : PySem.W.isClsIn K C = true
  s : PySem.W.subIn K (.ref C) (.ref C) = some true
theorem exm_of {K : PySem.W.Frag} {C D : Addr} {b : Bool} (h1 : PySem.W.subIn K (.ref C) (.type "BaseException") = some true) (h2 : PySem.W.isClsIn K C = true) (h3 : PySem.W.typeIn K (.ref C) = some (.type "type")) (h4 : PySem.W.subIn K (.ref D) (.ref C) = some b) : PySem.W.exmOne K (.ref D) (.ref C) = some b := by
  unfold PySem.W.isClsIn at h2
  unfold PySem.W.exmOne PySem.W.kitCls
  rw [h1]
  simp [h3, h4, h2]
theorem ExR.e {K : PySem.W.Frag} {mg : Str → Option Value} {x : Str} {C : Addr} (F : ExR K mg x C) : PySem.W.exmOne K (.ref C) (.ref C) = some true := exm_of F.T.exC F.i F.T.tyC F.s
def spRef (C : Addr) : Sp := fun vs H Q _ => ∃ (a : Addr) (y : V), vs = [.ref a, y] ∧ H a = some (exo a C none) ∧ ∀ dx, H dx = none → dx ≠ a → Q .non (upd (upd H dx (exd dx [("reason", y)])) a (exo a C (some dx)))
structure Fr (P : Program) (w : World) (K : PySem.W.Frag) (mg : Str → Option Value) (base : Heap) (Γ : Gx) : Prop where
  ex : ∃ fI fd, FnOk P w K mg base (L2.CX P w) 1 fI fd ["self", "reason"] (spRef (Γ.xc 2)) ∧ PySem.W.findIn K (.ref (Γ.xc 2)) "__init__" = some (some (.ref fI)) ∧ PySem.W.typeIn K (.ref fI) = some (.type "function") ∧ Binds K fd ["self", "reason"] []
theorem fr_mk {P : Program} {w : World} {K : PySem.W.Frag} {mg : Str → Option Value} {base : Heap} {Γ : Gx} {x qual : Str} {st : Stmt} {f : Addr} {fd : FuncData} {y : Str} {q1 q2 q3 q4 : Pos} (F : Fun K x qual st f fd) (S : FnScope ["self", "reason"] ["self", "reason"] (defScope st)) (R : ExR K mg y (Γ.xc 2))
    (hb : defBody st = [.Assign [.Attribute (.Name "self" q1) "reason" q2] (.Name "reason" q3) q4])
    (hl : Loc (defScope st) "self" := by exact .inl rfl) (hl2 : Loc (defScope st) "reason" := by exact .inl rfl)
    (h1 : PySem.W.findIn K (.ref (Γ.xc 2)) "__init__" = some (some (.ref f))) (h2 : PySem.W.typeIn K (.ref f) = some (.type "function")) (h3 : Binds K fd ["self", "reason"] []) : Fr P w K mg base Γ := by
  refine ⟨f, fd, F.okX (k := 0) S (fun vs H Q E h => ?_) (fun cdv A outer s H vs Q E hr h => ?_), h1, h2, h3⟩
  · obtain ⟨a, y, rfl, _⟩ := h; rfl
  · obtain ⟨a, y, rfl, ha, q⟩ := h
    refine ⟨tOst K "reason" (tVar 0) (tVar 1), ?_, ?_⟩
    · rw [hb]
      exact pss_one (ps_ost (pe_var (i := 0) rfl (hl.elim .inl (fun z => .inr (.inl z)))) (pe_var (i := 1) rfl (hl2.elim .inl (fun z => .inr (.inl z)))))
    · exact ⟨y, rfl, .ref a, rfl, a, Γ.xc 2, rfl, R.T, R.no, .inl ⟨ha, fun dx n ne => q dx n ne⟩⟩
def raiseRS (m : Str) : Ev → Mo Fl := fun _ => thr ⟨2, .str m⟩
section
variable {Γ : Gx} {E : XK}
theorem ds_raiseR {m : Str} : DS Γ E (fun _ σ H => tMkO (Γ.xc 2) (spRef (Γ.xc 2)) [] (tCons (tC (.str m)) tNil) σ H fun cls d H' => E cls d H') (raiseRS m) := fun H0 M0 Gs O σ env H s N r q => by
  have q : ∀ cls dx H', Ext Γ.sa H0 H' → StOk Γ H' s → XRep Γ (msk M0 H') ⟨2, .str m⟩ cls dx → E cls dx H' := q
  refine ⟨by show 1 ≤ 1000; decide, fun a na => ⟨a, .str m, rfl, upd_same, fun dx nd ne => ⟨rfl, dx, [("reason", .str m)], upd_same, by rw [upd_ne ne, upd_same], ?_, ?_⟩⟩⟩
  · rw [upd_ne ne] at nd; exact nd
  · have nd' : H dx = none := by rw [upd_ne ne] at nd; exact nd
    have st := r.x.ok.st
    have na' : Γ.sa ≠ a := fun z => by rw [← z, st.at_] at na; cases na
    have nx' : Γ.sa ≠ dx := fun z => by rw [← z, st.at_] at nd'; cases nd'
    have full : ∀ p o, H p = some o → (upd (del (upd (upd (upd H a (exo a (Γ.xc 2) none)) dx (exd dx [("reason", .str m)])) a (exo a (Γ.xc 2) (some dx))) a) dx (.xd [("reason", .str m)])) p = some o := fun p o hp => by
      have h1 : p ≠ dx := fun z => by rw [z, nd'] at hp; cases hp
      have h2 : p ≠ a := fun z => by rw [z, na] at hp; cases hp
      rw [upd_ne h1, del_ne h2, upd_ne h2, upd_ne h1, upd_ne h2]; exact hp
    have ext : Ext Γ.sa H _ := fun p o hp _ _ => full p o hp
    have e0 := r.ext.trans ext
    refine q _ _ _ e0 ?_ ⟨rfl, dx, .str m, rfl, msk_iff.mpr ⟨fun z => ?_, upd_same⟩, .str m⟩
    · refine st.like (by rw [upd_ne nx', del_ne na', upd_ne na', upd_ne nx', upd_ne na']) (fun p o e _ => full p o e) fun p o e n => ?_
      by_cases z1 : p = dx
      · rw [z1, upd_same] at e
        cases Option.some.inj e
        exact absurd (show Pl _ from ⟨fun _ z => (by cases z), fun _ z => (by cases z), fun _ _ z => HO.noConfusion z⟩) n
      · rw [upd_ne z1] at e
        by_cases z2 : p = a
        · rw [z2] at e
          simp [del] at e
        · rw [del_ne z2, upd_ne z2, upd_ne z1, upd_ne z2] at e; exact e
    · have h0 := r.dom0 dx z
      exact h0 (r.back0 nd')
def tryRS (v1 : Option D) (v : D → Mo D) (f : Ev → Mo Fl) : Ev → Mo Fl := fun env s => match f env s with
  | .exc x s' => if x.c = 2 then bnd (v x.arg) (fun d => ret (.rt d)) s' else if x.c = 1 then (match v1 with
    | some d => .ok (.rt d) s'
    | none => .bad) else .bad
  | o => o
end
theorem impL {X : Cx} {W W' : WX} (t : Takes X W) (h : ∀ c d σ H, σ.length = X.N.length → W' c d σ H → W c d σ H) : Takes X W' := fun u s' ⟨a, B, sI, pins, σ, H, cls, d, e, I, x1, x2, x3, x4, x5, x6, w⟩ =>
  t u s' ⟨a, B, sI, pins, σ, H, cls, d, e, I, x1, x2, x3, x4, x5, x6, h _ _ _ _ I.len w⟩
section
variable {ι : Type} {Γ : Gx} {X : ι → Cx} {k : Nat} {E : XK}
theorem vs_raiseR {x m : Str} {j : Nat} {p p2 pos pos' : Pos} (g : GX Γ X k E) (hk : 2 ≤ k) (R : ∀ j, ExR (X j).K (X j).mg x (Γ.xc 2)) (F : ∀ j, Fr (X j).prog (X j).w (X j).K (X j).mg (X j).base Γ)
    (hg : ∀ j, Gl (X j) x := by intro _; rfl) (hdb : (x == ("__debug__" : Str)) = false := by decide)
    (he : ∀ l, starEach [.Constant (.str m) j p2] (X l).env = (false, eval (.Constant (.str m) j p2) (X l).env) :: starEach [] (X l).env := by intro _; rfl) (hpl : ∀ l, (backTo pos (starEach [] (X l).env)).any (·.1) = false := by intro _; rfl) :
    VS Γ X E (.Raise (some (.Call (.Name x p) [.Constant (.str m) j p2] [] pos)) none pos') (raiseRS m) :=
  ⟨_, fun l => by
    obtain ⟨fI, fd, F1, h1, h2, h3⟩ := (F l).ex
    exact ps_raise (g.calm l) (g.tk l) (pmk_oex (R l).T h1 h2 F1 ((g.room l).mono hk) h3 .nil (passes_call (g.tk l) fun _ _ _ _ h => h.elim) (hg l) (R l).g (pa_cons pe_str pa_nil (he l)) hdb (he l) (hpl l)), fun sa => ds_raiseR (Γ := Γ.at sa)⟩
/-- what is returned where the error of the class C is in slot i -/
structure SuV (Γ : Gx) (X : ι → Cx) (E : XK) (i : Nat) (C : Addr) (e : Expr) (v : D → Mo D) : Prop where
  ex : ∃ tv : Addr → Value → Option Addr → TE, (∀ j (a : Addr) (oe : Obj) (cls : Value) (d : Option Addr) (pn : List (Addr × Obj)), Zc cls d oe → (∃ vs, oe.data = .fields vs) → PE ((X j).suite a ((a, oe) :: pn)) e (tv a cls d)) ∧
    ∀ (sa : Addr × Addr) (a dd : Addr) (y : V) (M : Addr → Prop) (H : Hp) (s : S) (r : D) (σ : L2.St) (Q : VK), HpOk (Γ.at sa) M H s → H dd = some (.xd [("reason", y)]) → Rep (Γ.at sa) (msk M H) y r → σ[i]? = some (some (.ref a)) → PostR (Γ.at sa) E M (RD (Γ.at sa) M) H (v r s) Q → tv a (.ref C) (some dd) σ H Q
theorem su_reason {i : Nat} {C : Addr} {x n : Str} {p pos : Pos} (R : ∀ j, ExR (X j).K (X j).mg x C) (hN : ∀ j, (X j).N[i]? = some n := by intro _; rfl)
    (hv : ∀ j, Vis (X j).env.scope n := by first | exact fun _ => Or.inl rfl | exact fun _ => Or.inr (Or.inl rfl) | exact fun _ => Or.inr (Or.inr rfl)) (hd : (n == ("__debug__" : Str)) = false := by decide) (hcd : (n == ("__classdict__" : Str)) = false := by decide)
    (hb : ∀ j, attributeBase (.Name n p) "reason" (X j).env (eval (.Name n p) (X j).env) = eval (.Name n p) (X j).env := by intro _; rfl) : SuV Γ X E i C (.Attribute (.Name n p) "reason" pos) ret :=
  ⟨fun a cls d => tXf a cls d C "reason" (tVar i), fun j a oe cls d pn hz hf => pe_xf (R j).f (R j).no hz hf (pe_var (X := (X j).suite a ((a, oe) :: pn)) (hN j) (hv j) hd hcd) (hb j), fun sa a dd y M H s r σ Q ok hx ry hi q =>
    ⟨.ref a, hi, rfl, rfl, dd, _, y, rfl, hx, by simp [List.lookup], q.here ok.st ry⟩⟩
theorem su_refused {i : Nat} {C : Addr} {m : Str} {j : Nat} {e : Expr} {p pos : Pos} (h : SuV Γ X E i C e ret) (he : ∀ l, starEach [e] (X l).env = (false, eval e (X l).env) :: starEach [] (X l).env := by intro _; rfl)
    (he2 : ∀ l, starEach [.Constant (.str m) j p, e] (X l).env = (false, eval (.Constant (.str m) j p) (X l).env) :: starEach [e] (X l).env := by intro _; rfl) : SuV Γ X E i C (.Tuple [.Constant (.str m) j p, e] k pos) (fun r => tupD [.str m, r]) := by
  obtain ⟨tv, h1, h2⟩ := h.ex
  refine ⟨fun a cls d => tTup (tCons (tC (.str m)) (tCons (tv a cls d) tNil)), fun l a oe cls d pn hz hf => pe_tup (pa_cons pe_str (pa_cons (h1 l a oe cls d pn hz hf) pa_nil (he l)) (he2 l)), fun sa a dd y M H s r σ Q ok hx ry hi q => ?_⟩
  refine h2 sa a dd y M H s r σ _ ok hx ry hi ?_
  intro v H1 e1 t1 r1
  have ok1 := ok.ext e1 t1
  have q : PostR (Γ.at sa) E M (RD (Γ.at sa) M) H (ret (.tup [.str m, r]) s) Q := q
  have l : [V.str m, v].length ≤ sizeLine := le_line (by show 2 ≤ 1000; decide)
  exact ⟨l, fun p np => q _ _ (e1.trans (Ext.new np)) (ok1.newSt np) (ok1.tupNew np l (.cons (.str m) (.cons r1 .nil)))⟩
theorem su_ne {i : Nat} {C : Addr} {m : Str} {j : Nat} {e : Expr} {p pos : Pos} (g : GX Γ X k E) (h : SuV Γ X E i C e ret) (hu : ∀ l (a : Addr) (pn : List (Addr × Obj)), ((X l).suite a pn).A.units + 64 < cLine := by intro l _ _; exact (g.room l).units) (hm : behindInMarks .NotEq (.Constant (.str m) j p) = false := by first | exact nomark _ | rfl) :
    SuV Γ X E i C (.Compare e [.NotEq] [.Constant (.str m) j p] pos) (fun r => neD r (.str m)) := by
  obtain ⟨tv, h1, h2⟩ := h.ex
  refine ⟨fun a cls d => tOp (rNeD Γ.K) (tv a cls d) (tC (.str m)), fun l a oe cls d pn hz hf => ?_, fun sa a dd y M H s r σ Q ok hx ry hi q => ?_⟩
  · rw [← g.K l]
    exact pe_cmpR (op_neD (X := (X l).suite a ((a, oe) :: pn)) (hu l a _)) (h1 l a oe cls d pn hz hf) pe_str hm
  · refine h2 sa a dd y M H s r σ _ ok hx ry hi ?_
    intro v H1 e1 t1 r1
    exact o2_ne (Γ := Γ.at sa) (E := E) M H1 s v (.str m) r (.str m) (ok.ext e1 t1) r1 (.str m) Q (q.later e1)
/-- what an exception of the body gives: behind an except clause for Malformed, or none -/
theorem ds_tryR {tb : XK → TS} {w : Ends → WX} {f : Ev → Mo Fl} {v1 : Option D} {v : D → Mo D} {i : Nat}
    (h2 : ∀ H0 M0 N (s1 : S) (r : D), (∀ p, M0 p → H0 p ≠ none) → Ms0 Γ M0 H0 → PostS Γ E H0 M0 [] (bnd (v r) (fun d => ret (.rt d)) s1) N → ∀ cls dx H1, Ext Γ.sa H0 H1 → StOk Γ H1 s1 → XRep Γ (msk M0 H1) ⟨2, r⟩ cls dx → ∀ σ : L2.St, i < σ.length → w N cls dx σ H1)
    (h1 : ∀ H0 M0 N (s1 : S) (d : D), v1 = some d → PostS Γ E H0 M0 [] (.ok (.rt d) s1) N → ∀ cls dx H1, Ext Γ.sa H0 H1 → StOk Γ H1 s1 → cls = .ref (Γ.xc 1) → ∀ σ : L2.St, i < σ.length → w N cls dx σ H1)
    (hb : ∀ E', DS Γ E' (tb E') f) : DS Γ E (fun N σ H => tb (fun cls d H => ∀ σ : L2.St, i < σ.length → w N cls d σ H) N σ H) (tryRS v1 v f) := fun H0 M0 Gs O σ env H s N r h => by
  refine hb _ H0 M0 Gs O σ env H s N r ?_
  unfold tryRS at h
  cases e : f env s with
  | bad => rw [e] at h; exact h
  | ok o s1 =>
    rw [e] at h
    cases o <;> exact h
  | exc x s1 =>
    rw [e] at h
    simp only at h
    intro cls dx H1 e1 t1 xr σ1 hσ
    obtain ⟨c, arg⟩ := x
    by_cases hc : c = 2
    · subst hc
      rw [if_pos rfl] at h
      refine h2 H0 M0 N s1 arg r.dom0 r.ms0 ?_ cls dx H1 e1 t1 xr σ1 hσ
      revert h
      show PostS Γ E H0 M0 Gs (bnd (v arg) (fun d => ret (.rt d)) s1) N → _
      unfold bnd
      cases v arg s1 <;> exact id
    · rw [if_neg hc] at h
      by_cases hc1 : c = 1
      · subst hc1
        rw [if_pos rfl] at h
        cases ev : v1 with
        | none => rw [ev] at h; exact h.elim
        | some d =>
          rw [ev] at h
          exact h1 H0 M0 N s1 d ev h cls dx H1 e1 t1 xr.1 σ1 hσ
      · rw [if_neg hc1] at h; exact h.elim
/-- the reading of the suite -/
theorem su_read {sa : Addr × Addr} {i : Nat} {tv : Addr → Value → Option Addr → TE} {v : D → Mo D}
    (h2 : ∀ (sa : Addr × Addr) (a dd : Addr) (y : V) (M : Addr → Prop) (H : Hp) (s : S) (r : D) (σ : L2.St) (Q : VK), HpOk (Γ.at sa) M H s → H dd = some (.xd [("reason", y)]) → Rep (Γ.at sa) (msk M H) y r → σ[i]? = some (some (.ref a)) → PostR (Γ.at sa) E M (RD (Γ.at sa) M) H (v r s) Q → tv a (.ref (Γ.xc 2)) (some dd) σ H Q)
    {H0 H1 : Hp} {M0 : Addr → Prop} {N : Ends} {s1 : S} {r : D} {cls : Value} {dx : Option Addr} {σ : L2.St} (dom : ∀ p, M0 p → H0 p ≠ none) (ms : Ms0 (Γ.at sa) M0 H0) (h : PostS (Γ.at sa) E H0 M0 [] (bnd (v r) (fun d => ret (.rt d)) s1) N) (e1 : Ext (Γ.at sa).sa H0 H1) (t1 : StOk (Γ.at sa) H1 s1) (xr : XRep (Γ.at sa) (msk M0 H1) ⟨2, r⟩ cls dx) (hσ : i < σ.length) (a : Addr) :
    cls = .ref (Γ.xc 2) ∧ tv a cls dx (σ.set i (some (.ref a))) H1 N.rt := by
  obtain ⟨x1, d, y, x2, x3, x4⟩ := xr
  subst x2
  refine ⟨x1, ?_⟩
  rw [show cls = .ref (Γ.xc 2) from x1]
  refine h2 sa a d y M0 H1 s1 r _ _ (ms.ok dom e1 t1) (msk_iff.mp x3).2 x4 (by rw [List.getElem?_set_self hσ]) ?_
  · unfold bnd at h
    cases e : v r s1 with
    | bad => rw [e] at h; exact h
    | ok d2 s2 =>
      rw [e] at h
      exact fun u H2 e2 t2 r2 => h u H2 (e1.trans e2) t2 r2
    | exc x s2 =>
      rw [e] at h
      exact fun cls dx H2 e2 t2 r2 => h cls dx H2 (e1.trans e2) t2 r2
/-- try: .., except Refused as n: return e -/
theorem vs_tryR (i : Nat) {x n : Str} {np rp pos pos' : Pos} {body : List Stmt} {e : Expr} {f : Ev → Mo Fl} {v : D → Mo D} (g : GX Γ X k E) (R : ∀ j, ExR (X j).K (X j).mg x (Γ.xc 2)) (eR : PySem.W.exmOne Γ.K (.ref (Γ.xc 2)) (.ref (Γ.xc 2)) = some true)
    (su : SuV Γ X E i (Γ.xc 2) e v) (hb : ∀ E', GX Γ (trF X E') k E' → VB Γ (trF X E') E' body f) (hi : ∀ j, (X j).N[i]? = some n := by intro _; rfl) (hl : ∀ j, (X j).env.kindOf n = some .local := by intro _; rfl)
    (hs : ∀ j, (X j).stack = (X j).env :: (X j).outer := by intro _; rfl) (hf : ∀ j, (X j).env.frame = some (X j).env.locals := by intro _; rfl) (hg : ∀ j, Gl (X j) x := by intro _; rfl) (hdb : (x == ("__debug__" : Str)) = false := by decide) :
    VS Γ X E (.Try body [.ExceptHandler (some (.Name x np)) (some n) [.Return (some e) rp] pos'] [] [] pos) (tryRS none v f) := by
  have hb2 : ∀ E', ∃ t, (∀ i, PSs (trF X E' i) body t) ∧ ∀ sa, DS (Γ.at sa) E' t f := fun E' => (hb E' (g.tr E')).ex
  obtain ⟨tv, p1, p2⟩ := su.ex
  let w : Ends → WX := fun D cls d σ H => ∃ b, PySem.W.exmOne Γ.K cls (.ref (Γ.xc 2)) = some b ∧
    (b = true → ∀ a, H a = none → tRet (tv a cls d) { nx := fun τ G => D.nx (τ.set i none) G, rt := D.rt, bk := fun τ G => D.bk (τ.set i none) G, ct := fun τ G => D.ct (τ.set i none) G } (σ.set i (some (.ref a))) H) ∧ (b = false → E cls d H)
  refine ⟨fun N σ H => Classical.choose (hb2 (fun cls d H => ∀ σ : L2.St, i < σ.length → w N cls d σ H)) N σ H, fun j => ?_, fun sa => ?_⟩
  · have hh := hdr_as (X := X j) (hf j) (ts := fun a cls d => tRet (tv a cls d)) (i := i) (x := x) (n := n) (np := np) (pos := pos') (suite := []) (b₀ := .Return (some e) rp) (g.nd j) (hi j) (hl j) ⟨hg j, hdb, .inl (R j).g⟩ (fun a oe cls d pn hz hf => pss_one (ps_ret (p1 j a oe cls d pn hz hf))) (hdr_nil (hs j) (hf j) (g.tk j))
    rw [g.K j] at hh
    exact ps_try_hs (X := X j) (hs j) (hf j) (w := w) (tb := fun W => Classical.choose (hb2 (fun cls d H => ∀ σ : L2.St, i < σ.length → W cls d σ H)))
      (fun W pn xe tk ps => (Classical.choose_spec (hb2 (fun cls d H => ∀ σ : L2.St, i < σ.length → W cls d σ H))).1 ⟨(j, pn, xe), impL tk (fun c d σ H hσ h => h σ (by rw [hσ]; exact (List.getElem?_eq_some_iff.mp (hi j)).1)), ps⟩) hh
  · refine ds_tryR (Γ := Γ.at sa) (w := w) (tb := fun E' => Classical.choose (hb2 E')) (fun H0 M0 N s1 r dom ms h cls dx H1 e1 t1 xr σ hσ => ?_) (fun H0 M0 N s1 d z => by cases z) fun E' => (Classical.choose_spec (hb2 E')).2 sa
    have hc : cls = .ref (Γ.xc 2) := xr.1
    refine ⟨true, by rw [hc]; exact eR, fun _ a na => ?_, fun z => by cases z⟩
    exact (su_read p2 dom ms h e1 t1 xr hσ a).2
/-- try: .., except Malformed: return c, except Refused as n: return e -/
theorem vs_tryMR (i : Nat) {x y n : Str} {np np' rp rp2 rp3 pos pos' pos2 : Pos} {body : List Stmt} {c : Const} {l : Nat} {e : Expr} {f : Ev → Mo Fl} {d1 : D} {u : V} {v : D → Mo D} (g : GX Γ X k E) (F : ∀ j, ExF (X j).K (X j).mg y (Γ.xc 1)) (R : ∀ j, ExR (X j).K (X j).mg x (Γ.xc 2))
    (eF : PySem.W.exmOne Γ.K (.ref (Γ.xc 1)) (.ref (Γ.xc 1)) = some true) (eX : PySem.W.exmOne Γ.K (.ref (Γ.xc 2)) (.ref (Γ.xc 1)) = some false) (eR : PySem.W.exmOne Γ.K (.ref (Γ.xc 2)) (.ref (Γ.xc 2)) = some true)
    (hu : ∀ sa H, Rep (Γ.at sa) H u d1) (hc : ∀ Y : Cx, PE Y (.Constant c l rp) (tC u))
    (su : SuV Γ X E i (Γ.xc 2) e v) (hb : ∀ E', GX Γ (trF X E') k E' → VB Γ (trF X E') E' body f) (hi : ∀ j, (X j).N[i]? = some n := by intro _; rfl) (hl : ∀ j, (X j).env.kindOf n = some .local := by intro _; rfl)
    (hs : ∀ j, (X j).stack = (X j).env :: (X j).outer := by intro _; rfl) (hf : ∀ j, (X j).env.frame = some (X j).env.locals := by intro _; rfl) (hg : ∀ j, Gl (X j) x := by intro _; rfl) (hdb : (x == ("__debug__" : Str)) = false := by decide)
    (hg2 : ∀ j, Gl (X j) y := by intro _; rfl) (hdb2 : (y == ("__debug__" : Str)) = false := by decide) :
    VS Γ X E (.Try body [.ExceptHandler (some (.Name y np')) none [.Return (some (.Constant c l rp)) rp2] pos2, .ExceptHandler (some (.Name x np)) (some n) [.Return (some e) rp3] pos'] [] [] pos) (tryRS (some d1) v f) := by
  have hb2 : ∀ E', ∃ t, (∀ i, PSs (trF X E' i) body t) ∧ ∀ sa, DS (Γ.at sa) E' t f := fun E' => (hb E' (g.tr E')).ex
  obtain ⟨tv, p1, p2⟩ := su.ex
  let w2 : Ends → WX := fun D cls d σ H => ∃ b, PySem.W.exmOne Γ.K cls (.ref (Γ.xc 2)) = some b ∧
    (b = true → ∀ a, H a = none → tRet (tv a cls d) { nx := fun τ G => D.nx (τ.set i none) G, rt := D.rt, bk := fun τ G => D.bk (τ.set i none) G, ct := fun τ G => D.ct (τ.set i none) G } (σ.set i (some (.ref a))) H) ∧ (b = false → E cls d H)
  let w : Ends → WX := fun D cls d σ H => ∃ b, PySem.W.exmOne Γ.K cls (.ref (Γ.xc 1)) = some b ∧ (b = true → ∀ a, H a = none → tRet (tC u) D σ H) ∧ (b = false → w2 D cls d σ H)
  refine ⟨fun N σ H => Classical.choose (hb2 (fun cls d H => ∀ σ : L2.St, i < σ.length → w N cls d σ H)) N σ H, fun j => ?_, fun sa => ?_⟩
  · have h2 := hdr_as (X := X j) (hf j) (ts := fun a cls d => tRet (tv a cls d)) (i := i) (x := x) (n := n) (np := np) (pos := pos') (suite := []) (b₀ := .Return (some e) rp3) (g.nd j) (hi j) (hl j) ⟨hg j, hdb, .inl (R j).g⟩ (fun a oe cls d pn hz hf => pss_one (ps_ret (p1 j a oe cls d pn hz hf))) (hdr_nil (hs j) (hf j) (g.tk j))
    have hh := hdr_one (X := X j) (hf j) (ts := fun _ _ _ => tRet (tC u)) (x := y) (np := np') (pos := pos2) (suite := []) (b₀ := .Return (some (.Constant c l rp)) rp2) ⟨hg2 j, hdb2, .inl (F j).g⟩ (fun a oe cls d pn _ _ => pss_one (ps_ret (hc _))) h2
    rw [g.K j] at hh
    exact ps_try_hs (X := X j) (hs j) (hf j) (w := w) (tb := fun W => Classical.choose (hb2 (fun cls d H => ∀ σ : L2.St, i < σ.length → W cls d σ H)))
      (fun W pn xe tk ps => (Classical.choose_spec (hb2 (fun cls d H => ∀ σ : L2.St, i < σ.length → W cls d σ H))).1 ⟨(j, pn, xe), impL tk (fun c d σ H hσ h => h σ (by rw [hσ]; exact (List.getElem?_eq_some_iff.mp (hi j)).1)), ps⟩) hh
  · refine ds_tryR (Γ := Γ.at sa) (w := w) (tb := fun E' => Classical.choose (hb2 E')) (fun H0 M0 N s1 r dom ms h cls dx H1 e1 t1 xr σ hσ => ?_) (fun H0 M0 N s1 d z h cls dx H1 e1 t1 hc σ hσ => ?_) fun E' => (Classical.choose_spec (hb2 E')).2 sa
    · have hc : cls = .ref (Γ.xc 2) := xr.1
      refine ⟨false, by rw [hc]; exact eX, (fun z => by cases z), fun _ => ⟨true, by rw [hc]; exact eR, fun _ a na => ?_, (fun z => by cases z)⟩⟩
      exact (su_read p2 dom ms h e1 t1 xr hσ a).2
    · cases z
      exact ⟨true, by rw [show cls = .ref (Γ.xc 1) from hc]; exact eF, fun _ a na => h u H1 e1 t1 (hu sa _), fun z => by cases z⟩
end
end G

namespace G
open PySem PySem.Spec PyProof.Rows L2 NdefX

theorem StOk.put {Γ : Gx} {H : Hp} {s : S} (h : StOk Γ H s) (x y : Int) : StOk Γ (L2.upd H Γ.sa (.lst [.int x, .int y])) (x, y) := by
  refine ⟨upd_same, fun t ht => ?_, fun q ps e => ?_⟩
  · obtain ⟨ps, a, b, c⟩ := h.tab t ht
    have ne : t.1 ≠ Γ.sa := fun z => by rw [z, h.at_] at a; cases a
    refine ⟨ps, by rw [upd_ne ne]; exact a, b, fun pos cv z => ?_⟩
    obtain ⟨k, z1, z2⟩ := c pos cv z
    have nk : k ≠ Γ.sa := fun w => by rw [w, h.at_] at z2; exact HO.noConfusion (Option.some.inj z2)
    exact ⟨k, z1, by rw [upd_ne nk]; exact z2⟩
  · by_cases z : q = Γ.sa
    · rw [z, upd_same] at e; cases e
    · rw [upd_ne z] at e; exact h.oth q ps e
/-! ### data that hold no closure -/
mutual
def noclo : D → Bool
  | .non => true
  | .bl _ => true
  | .int _ => true
  | .str _ => true
  | .lst xs => noclos xs
  | .tup xs => noclos xs
  | .obj _ xs => noclos xs
  | .dct _ xs => noclos xs
  | .rng _ _ => true
  | .dc2 _ xs => noclos xs
  | .clo _ _ => false
  | .st => true
def noclos : List D → Bool
  | [] => true
  | d :: ds => noclo d && noclos ds
end
section
variable {Γ : Gx} {H H' : Hp}
mutual
theorem Rep.nc (h : ∀ p o, H p = some o → (∀ φ, o ≠ .ext φ) → H' p = some o) : ∀ {v : V} {d : D}, Rep Γ H v d → noclo d = true → Rep Γ H' v d
  | _, _, .non, _ => .non
  | _, _, .bl b, _ => .bl b
  | _, _, .int i, _ => .int i
  | _, _, .str x, _ => .str x
  | _, _, .lst e l r, n => .lst (h _ _ e nofun) l (Reps.nc h r n)
  | _, _, .tup e l r, n => .tup (h _ _ e nofun) l (Reps.nc h r n)
  | _, _, .obj e l r, n => .obj (h _ _ e nofun) l (Reps.nc h r n)
  | _, _, .dct e l k r, n => .dct (h _ _ e nofun) l k (Reps.nc h r n)
  | _, _, .rng e, _ => .rng (h _ _ e nofun)
  | _, _, .dc2 e l k r, n => .dc2 (h _ _ e nofun) l k (Reps.nc h r n)
  | _, _, .clo _ _ _ _ _ _ _, n => by cases n
  | _, _, .st, _ => .st
theorem Reps.nc (h : ∀ p o, H p = some o → (∀ φ, o ≠ .ext φ) → H' p = some o) : ∀ {vs : List V} {ds : List D}, Reps Γ H vs ds → noclos ds = true → Reps Γ H' vs ds
  | _, _, .nil, _ => .nil
  | _, _, .cons a b, n => by
    have n := n
    unfold noclos at n
    rw [Bool.and_eq_true] at n
    exact .cons (Rep.nc h a n.1) (Reps.nc h b n.2)
end
theorem XRep.nc (h : ∀ p o, H p = some o → (∀ φ, o ≠ .ext φ) → H' p = some o) {x : Xn} {cls : Value} {dx : Option Addr} (r : XRep Γ H x cls dx) (n : noclo x.arg = true) : XRep Γ H' x cls dx := by
  obtain ⟨a, b⟩ := r
  refine ⟨a, ?_⟩
  cases e : xfs x.c with
  | none => rw [e] at b; exact b
  | some f =>
    rw [e] at b
    obtain ⟨d, v, h1, h2, h3⟩ := b
    exact ⟨d, v, h1, h _ _ h2 nofun, h3.nc h n⟩
end
def nocl (m : Mo D) : Mo D := fun s => match m s with
  | .bad => .bad
  | .ok d s' => if noclo d then .ok d s' else .bad
  | .exc x s' => if noclo x.arg then .exc x s' else .bad

/-! ### cells hidden, cells laid down -/
section
variable {Γ : Gx} {M : Addr → Prop} {H H1 H2 HL : Hp} {s s' : S} {cl : List (Str × Addr)} {fr : List Str} {ws : List V} {cs : List Addr}
theorem AllC.tbl (l : AllC cs H) {p : Addr} {ps : Array Value} (e : H p = some (.tbl ps)) : p ∉ cs := fun z => by
  obtain ⟨o, v, a, _⟩ := l p z
  rw [a] at e
  cases e
theorem StOk.hid (t : StOk Γ H s) (l : AllC cs H) (nc : ∀ c, c ∈ cs → ∀ q, H c ≠ some (LamX.CodeO c q)) : StOk Γ (hid H cs) s := by
  refine ⟨hid_keep l t.at_ nofun, fun x hx => ?_, fun p ps e => t.oth p ps (hid_some e).2⟩
  obtain ⟨ps, a, b, c⟩ := t.tab x hx
  refine ⟨ps, hid_keep l a nofun, b, fun pos cv z => ?_⟩
  obtain ⟨k, z1, z2⟩ := c pos cv z
  exact ⟨k, z1, by rw [hid_out fun m => nc k m _ z2]; exact z2⟩
theorem AllC.unm (l : AllC cs (msk M H)) {c : Addr} (h : c ∈ cs) : ¬ M c := by
  obtain ⟨o, v, a, _⟩ := l c h
  exact (msk_iff.mp a).1
theorem HpOk.hidC (ok : HpOk Γ M H s) (d : Held cl fr ws cs (msk M H)) : HpOk Γ M (hid H cs) s := by
  have d2 := d.mono (fun _ _ q => msk_get q)
  have out : ∀ p, M p → p ∉ cs := fun p hp z => d.all.unm z hp
  exact ⟨ok.st.hid d2.all d2.ncode, ok.ms, fun p hp => by rw [hid_out (out p hp)]; exact ok.dom p hp, ok.mt, fun p hp o z => ok.nt p hp o (by rw [hid_out (out p hp)] at z; exact z)⟩
theorem msk_hid (l : AllC cs H) : ∀ p o, msk M H p = some o → (∀ φ, o ≠ .ext φ) → msk M (hid H cs) p = some o := fun p o e n => by
  obtain ⟨a, b⟩ := msk_iff.mp e
  exact msk_iff.mpr ⟨a, hid_keep l b n⟩
theorem putb_up (g : ∀ b, b ∈ cs → H2 b = none) : ∀ p o, H2 p = some o → putb H2 H cs p = some o := fun p o e => by
  by_cases z : p ∈ cs
  · rw [g p z] at e; cases e
  · rw [putb_out z]; exact e
theorem StOk.putb (t : StOk Γ H2 s') (l : AllC cs H) (g : ∀ b, b ∈ cs → H2 b = none) : StOk Γ (putb H2 H cs) s' := t.more (putb_up g) fun p ps e => by
  by_cases z : p ∈ cs
  · rw [putb_in z] at e
    exact absurd z (l.tbl e)
  · rw [putb_out z] at e; exact e
theorem ext_putb (e : Ext Γ.sa (hid H cs) H2) : Ext Γ.sa H (putb H2 H cs) := fun p o a n t => by
  by_cases z : p ∈ cs
  · rw [putb_in z]; exact a
  · rw [putb_out z]; exact e p o (by rw [hid_out z]; exact a) n t
end

/-! ### a closure called where it was handed to -/
/-- what a closure of the kind n promises -/
def spC (Γ : Gx) (cdn : Nat → List D → List D → Mo D) (n : Nat) : List (Option V) → Sp := fun ws vs H Q E => ∃ us : List V, ws = us.map some ∧ ∃ sa M s caps as, HpOk (Γ.at sa) M H s ∧ Reps (Γ.at sa) (msk M H) us caps ∧ Reps (Γ.at sa) (msk M H) vs as ∧ PostR (Γ.at sa) E M (RD (Γ.at sa) M) H (cdn n caps as s) Q
structure CloOk (P : Program) (w : World) (K : PySem.W.Frag) (mg : Str → Option Value) (base : Heap) (Γ : Gx) (k : Nat) (cdn : Nat → List D → List D → Mo D) : Prop where
  ok : ∀ n f FO c q cl fr, Γ.cok n f FO c q cl fr → ∃ j, Clo P w K mg base (L2.CX P w) j f FO c q cl fr (spC Γ cdn n) ∧ j ≤ k
def callX (cdn : Nat → List D → List D → Mo D) (i : Nat) (fa : Ev → Mo (List D)) : Ev → Mo D := fun env => match env[i]? with
  | some (.val (.clo n caps)) => if noclos caps = true then bnd (fa env) fun as => if noclos as = true then nocl (nox (cdn n caps as)) else bad else bad
  | _ => bad
section
variable {ι : Type} {Γ : Gx} {X : ι → Cx} {E : XK} {k : Nat}
def tCallC (Γ : Gx) (cdn : Nat → List D → List D → Mo D) (i : Nat) (t : TA) : TE := fun σ H Q => ∃ f FO c q cl fr n, Γ.cok n f FO c q cl fr ∧ σ[i]? = some (some (.ref f)) ∧ H f = some FO ∧ t σ H fun vs H1 => H1 f = some FO ∧ H1 c = some (LamX.CodeO c q) ∧ ∃ ws cs, Held cl fr ws cs H1 ∧ f ∉ cs ∧ c ∉ cs ∧
  spC Γ cdn n (ws.map some) vs (hid H1 cs) (fun v H2 => (∀ b, b ∈ cs → H2 b = none) → Q v (putb H2 H1 cs)) fun _ _ _ => False
theorem de_callX {sa : Addr × Addr} {cdn : Nat → List D → List D → Mo D} {i : Nat} {t : TA} {fa : Ev → Mo (List D)} (h : DA (Γ.at sa) E t fa) : DE (Γ.at sa) E (tCallC Γ cdn i t) (callX cdn i fa) := fun M O σ env H s x Q q => by
  unfold callX at q
  cases e : env[i]? with
  | none => rw [e] at q; exact (show False from q).elim
  | some sl =>
    rw [e] at q
    cases sl with
    | val d =>
      cases d with
      | clo n caps =>
        dsimp only at q
        by_cases hc : noclos caps = true
        · rw [if_pos hc] at q
          obtain ⟨v, hv, r⟩ := x.val i _ e
          cases r with
          | clo ck hf hco d n1 n2 rc =>
            rename_i f c FO qn cl fr cs ws
            refine ⟨f, FO, c, qn, cl, fr, n, ck, hv, msk_get hf, ?_⟩
            refine h M O σ env H s x _ (PostR.bnd q fun as s1 vs H1 e1 t1 r1 h1 => ?_)
            have ok1 := x.ok.ext e1 t1
            have up := x.ok.mono e1
            have d1 := d.mono up
            have d2 := d1.mono (fun _ _ z => msk_get z)
            by_cases ha : noclos as = true
            · rw [if_pos ha] at h1
              refine ⟨msk_get (up _ _ hf), msk_get (up _ _ hco), ws, cs, d2, n1, n2, ws, rfl, sa, M, s1, caps, as, ok1.hidC d1, (rc.mono up).nc (msk_hid d2.all) hc, r1.nc (msk_hid d2.all) ha, ?_⟩
              unfold nocl nox at h1
              cases e3 : cdn n caps as s1 with
              | bad => rw [e3] at h1; exact (show False from h1).elim
              | exc y s2 => rw [e3] at h1; exact (show False from h1).elim
              | ok b s2 =>
                rw [e3] at h1
                dsimp only at h1
                by_cases hb : noclo b = true
                · rw [if_pos hb] at h1
                  intro v2 H2 e2 t2 r2 gone
                  exact h1 v2 _ (ext_putb (Γ := Γ.at sa) e2) (t2.putb d2.all gone) (r2.mono fun p o z => by
                    obtain ⟨a, b⟩ := msk_iff.mp z
                    exact msk_iff.mpr ⟨a, putb_up gone p o b⟩)
                · rw [if_neg hb] at h1
                  exact (show False from h1).elim
            · rw [if_neg ha] at h1
              exact (show False from h1).elim
        · rw [if_neg hc] at q
          exact (show False from q).elim
      | _ => exact (show False from q).elim
    | _ => exact (show False from q).elim
theorem ve_callX (i : Nat) {lev : Nat} {x : Str} {e : Expr} {es : List Expr} {fa : Ev → Mo (List D)} {cdn : Nat → List D → List D → Mo D} {p pos : Pos} (gx : GX Γ X k E) (F : ∀ j, CloOk (X j).prog (X j).w (X j).K (X j).mg (X j).base Γ lev cdn) (hk : lev ≤ k) (ha : VA Γ X E (e :: es) fa)
    (hN : ∀ j, (X j).N[i]? = some x := by intro _; rfl) (hv : ∀ j, Vis (X j).env.scope x := by first | exact fun _ => Or.inl rfl | exact fun _ => Or.inr (Or.inl rfl) | exact fun _ => Or.inr (Or.inr rfl))
    (n1 : (x == Str.ofString "__debug__") = false := by decide) (n2 : (x == Str.ofString "__classdict__") = false := by decide)
    (n3 : ∀ j, starEach (e :: es) (X j).env = (false, eval e (X j).env) :: starEach es (X j).env := by intro _; rfl) (n4 : ∀ j, ((backTo pos (starEach es (X j).env)).any fun x => x.fst) = false := by intro _; rfl) :
    VE Γ X E (.Call (.Name x p) (e :: es) [] pos) (callX cdn i fa) := by
  obtain ⟨t, pa, d⟩ := ha.ex
  refine ⟨tCallC Γ cdn i t, fun j => ⟨fun pins s σ H Q v h => ?_⟩, fun sa => de_callX (d sa)⟩
  obtain ⟨f, FO, c, q, cl, fr, n, ck, h⟩ := h
  obtain ⟨lv, o, hl⟩ := (F j).ok n f FO c q cl fr ck
  exact (pe_callX ((gx.room j).mono hk) (passes_call (gx.tk j) fun _ _ _ _ z => z.elim) (hN j) (hv j) (pa j) n1 n2 (n3 j) (n4 j)).run pins s σ H Q v ⟨f, FO, c, q, cl, fr, _, _, o, hl, h⟩
end
end G

namespace G
open PySem PySem.Spec PyProof.Rows L2 NdefX

/-! ### a closure made and handed on -/
section
variable {Γ : Gx} {M : Addr → Prop} {H H1 HL : Hp} {s : S} {cl : List (Str × Addr)} {fr : List Str} {ws : List V} {cs : List Addr}
theorem Made.x {f c : Addr} {FO : HO} {q : Str} (m : Made Γ.tabs H H1 f c FO q) (t : StOk Γ H s) : Ext Γ.sa H H1 ∧ StOk Γ H1 s := ⟨fun p o a _ n => m.ext p o a n, ⟨m.ext _ _ t.at_ nofun, m.tab, fun p ps e => by
  obtain ⟨qs, z⟩ := m.low p ps e
  exact t.oth p qs z⟩⟩
theorem cello_nt {c : Addr} {o : Obj} (ps : Array Value) : CellO c o ≠ .tbl ps := fun z => by unfold CellO at z; cases z
theorem Held.mask (d : Held cl fr ws cs HL) (n : ∀ c, c ∈ cs → ¬ M c) : Held cl fr ws cs (msk M HL) := by
  refine ⟨d.len, fun c hc => ?_, fun c hc q z => d.ncode c hc q (msk_get z), d.cov, d.inj, fun i y e => ?_⟩
  · obtain ⟨o, v, a, b⟩ := d.all c hc
    exact ⟨o, v, msk_iff.mpr ⟨n c hc, a⟩, b⟩
  · obtain ⟨c, o, u, v, e1, e2, e3⟩ := d.has i y e
    exact ⟨c, o, u, v, e1, msk_iff.mpr ⟨n c (d.cov y c e1), e2⟩, e3⟩
def capsO : List Nat → Ev → Option (List D)
  | [], _ => some []
  | j :: js, env => match env[j]? with
    | some (.val d) => (capsO js env).map (d :: ·)
    | _ => none
theorem capsO_rep {O : Ow} {σ : L2.St} {env : Ev} (x : RepX Γ M O σ env H s) : ∀ {js : List Nat} {ds : List D}, capsO js env = some ds → ∃ ws : List V, js.map (slotAt σ) = ws.map some ∧ Reps Γ (msk M H) ws ds
  | [], _, e => by cases e; exact ⟨[], rfl, .nil⟩
  | j :: js, ds, e => by
    unfold capsO at e
    split at e
    · rename_i d hd
      cases e2 : capsO js env with
      | none => rw [e2] at e; cases e
      | some es =>
        rw [e2] at e
        cases e
        obtain ⟨ws, h1, h2⟩ := capsO_rep x e2
        obtain ⟨v, h3, h4⟩ := x.val j d hd
        exact ⟨v :: ws, by rw [List.map_cons, List.map_cons, h1, slotAt_of h3], .cons h4 h2⟩
    · cases e
def tailH (g : List D → Mo D) (n : Nat) (js : List Nat) (d : D) (env : Ev) : Mo D := match capsO js env with
  | some cs => if (noclo d && noclos cs) = true then nocl (g [d, .clo n cs]) else bad
  | none => bad
def callH (g : List D → Mo D) (n : Nat) (js : List Nat) (fe : Ev → Mo D) : Ev → Mo D := fun env => bnd (fe env) fun d => tailH g n js d env
theorem call_core {sa : Addr × Addr} {E : XK} {g : List D → Mo D} {n : Nat} {js : List Nat} {d : D} {v : V} {f c : Addr} {FO : HO} {q : Str} {O : Ow} {σ : L2.St} {env : Ev} {Q : VK} (x : RepX (Γ.at sa) M O σ env H s) (hv : Rep (Γ.at sa) (msk M H) v d) (hf : msk M H f = some FO) (hc : msk M H c = some (LamX.CodeO c q))
    (hk : Γ.cok n f FO c q cl fr) (post : PostR (Γ.at sa) E M (RD (Γ.at sa) M) H (tailH g n js d env s) Q) :
    ∃ ws : List V, js.map (slotAt σ) = ws.map some ∧ ∀ HL cs, Held cl fr ws cs HL → (∀ c, c ∈ cs → H c = none) → (∀ a, a ∉ cs → HL a = H a) → spD Γ 2 g [v, .ref f] HL (QH cs HL Q) (EH cs HL E) := by
  unfold tailH at post
  cases e : capsO js env with
  | none => rw [e] at post; exact (show False from post).elim
  | some ds =>
    rw [e] at post
    dsimp only at post
    by_cases hn : (noclo d && noclos ds) = true
    · rw [if_pos hn] at post
      obtain ⟨ws, ew, rw'⟩ := capsO_rep x e
      refine ⟨ws, ew, fun HL cs hd non out => ?_⟩
      have nin : ∀ {p : Addr} {o : HO}, H p = some o → p ∉ cs := fun {p o} a z => by rw [non p z] at a; cases a
      have up : ∀ p o, H p = some o → HL p = some o := fun p o a => by rw [out p (nin a)]; exact a
      have unm : ∀ c, c ∈ cs → ¬ M c := fun c hc z => x.ok.dom c z (non c hc)
      have upm : ∀ p o, msk M H p = some o → msk M HL p = some o := fun p o a => by
        obtain ⟨a, b⟩ := msk_iff.mp a
        exact msk_iff.mpr ⟨a, up p o b⟩
      have okL : HpOk (Γ.at sa) M HL s := ⟨x.ok.st.more up fun p ps a => by
          by_cases z : p ∈ cs
          · exact absurd z (hd.all.tbl a)
          · rw [out p z] at a; exact a,
        x.ok.ms, fun p hp z => unm p (by
          by_cases y : p ∈ cs
          · exact y
          · rw [out p y] at z; exact absurd z (x.ok.dom p hp)) hp, x.ok.mt, fun p hp o z => by
          by_cases y : p ∈ cs
          · exact absurd hp (unm p y)
          · rw [out p y] at z; exact x.ok.nt p hp o z⟩
      refine ⟨rfl, sa, M, s, [d, .clo n ds], okL, .cons (hv.mono upm) (.cons (.clo hk (upm _ _ hf) (upm _ _ hc) (hd.mask unm) (nin (msk_get hf)) (nin (msk_get hc)) (rw'.mono upm)) .nil), ?_⟩
      have key : ∀ (H3 : Hp) (s2 : S), Ext (Γ.at sa).sa HL H3 → StOk (Γ.at sa) H3 s2 → (∀ c, c ∈ cs → H3 c = HL c) ∧ Ext (Γ.at sa).sa H (hid H3 cs) ∧ StOk (Γ.at sa) (hid H3 cs) s2 ∧ ∀ p o, msk M H3 p = some o → (∀ φ, o ≠ .ext φ) → msk M (hid H3 cs) p = some o := fun H3 s2 e3 t3 => by
        have st : ∀ c, c ∈ cs → H3 c = HL c := fun c hc => by
          obtain ⟨o, y, a, _⟩ := hd.all c hc
          rw [a]
          exact e3 c _ a (fun z => by rw [z] at hc; exact nin x.ok.st.at_ hc) cello_nt
        have all3 : AllC cs H3 := fun c hc => by
          obtain ⟨o, y, a, b⟩ := hd.all c hc
          exact ⟨o, y, by rw [st c hc]; exact a, b⟩
        exact ⟨st, fun p o a n t => by rw [hid_out (nin a)]; exact e3 p o (up p o a) n t, t3.hid all3 fun c hc q => by rw [st c hc]; exact hd.ncode c hc q, msk_hid all3⟩
      unfold nocl at post
      cases e2 : g [d, .clo n ds] s with
      | bad => rw [e2] at post; exact (show False from post).elim
      | exc y s2 =>
        rw [e2] at post
        dsimp only at post
        by_cases hb : noclo y.arg = true
        · rw [if_pos hb] at post
          intro cls dx H3 e3 t3 r3
          obtain ⟨k1, k2, k3, k4⟩ := key H3 s2 e3 t3
          exact ⟨k1, post cls dx _ k2 k3 (r3.nc k4 hb)⟩
        · rw [if_neg hb] at post
          exact (show False from post).elim
      | ok b s2 =>
        rw [e2] at post
        dsimp only at post
        by_cases hb : noclo b = true
        · rw [if_pos hb] at post
          intro v3 H3 e3 t3 r3
          obtain ⟨k1, k2, k3, k4⟩ := key H3 s2 e3 t3
          exact ⟨k1, post v3 _ k2 k3 (r3.nc k4 hb)⟩
        · rw [if_neg hb] at post
          exact (show False from post).elim
    · rw [if_neg hn] at post
      exact (show False from post).elim
end

/-! the making, as readings -/
def tMkE (T : List NTab) (FO : Addr → Addr → HO) (q : Str) : TE := fun σ H Q => TabsN T H ∧ ∀ f c H1, Made T H H1 f c (FO f c) q → Q (.ref f) H1
def tMkS (T : List NTab) (i : Nat) (FO : Addr → Addr → HO) (q : Str) : TS := fun D σ H => TabsN T H ∧ ∀ f c H1, Made T H H1 f c (FO f c) q → D.nx (σ.set i (some (.ref f))) H1
/-- the table of the running def's code object is among T -/
def MyTab (X : Cx) (T : List NTab) (q : Str) : Prop := ∃ c P nm, X.env.code = .ref c ∧ LamX.TabB X.base X.mg c P ∧ (P, nm) ∈ T ∧ (∀ p ∈ T, p.1 = P → p.2 = nm) ∧ ∀ l k, nm l k = q
section
variable {X : Cx} {T : List NTab}
theorem pe_mklam {params : Arguments} {body : Expr} {sc : Scope} {pos : Pos} (mt : MyTab X T (X.env.qual ++ "<lambda>")) (hdef : defaultsOf params X.env = ([], [])) (hfree : ∀ y ∈ sc.names, y.2 = .free → X.env.scope.names.lookup y.1 = some .cell ∨ X.env.scope.names.lookup y.1 = some .free) :
    PE X (.Lambda params body sc pos) (tMkE T (fun f c => LamO f ⟨"<lambda>", X.env.qual ++ "<lambda>", params, [], sc, cloFrom X.env.cells sc.names [], c⟩ body) (X.env.qual ++ "<lambda>")) := ⟨fun pins s σ H Q I h => by
  obtain ⟨hT, h⟩ := h
  obtain ⟨c, P, nm, h1, h2, h3, h4, h5⟩ := mt
  exact made_lam I h2 h1 h3 (h5 _ _) h4 hT hdef (fun y hy e => (hfree y hy e).elim (fun z => I.ok.has _ (.inl z)) fun z => I.ok.has _ (.inr z)) fun f c' H1 s' J m => ⟨.ref f, H1, J, rfl, h f c' H1 m⟩⟩
theorem ps_mkdef {name : Str} {params : Arguments} {body : List Stmt} {sc : Scope} {pos : Pos} (i : Nat) (mt : MyTab X T (X.env.qual ++ name)) (d0 : params.defaults = []) (k0 : params.kw_defaults = []) (an : annTrees params none X.env = []) (hfree : ∀ y ∈ sc.names, y.2 = .free → X.env.scope.names.lookup y.1 = some .cell ∨ X.env.scope.names.lookup y.1 = some .free)
    (nd : X.N.Nodup) (hi : X.N[i]? = some name) (hx : Loc X.env.scope name) (fn : ∀ x, X.fn x = true) :
    PS X (.FunctionDef name params body [] none [] sc none name pos) (tMkS T i (fun f c => FnO f ⟨name, X.env.qual ++ name, params, body, sc, cloFrom X.env.cells sc.names [], c⟩) (X.env.qual ++ name)) := ⟨fun pins s σ H D I h => by
  obtain ⟨hT, h⟩ := h
  obtain ⟨c, P, nm, h1, h2, h3, h4, h5⟩ := mt
  refine PySem.W.nestDef_K d0 k0 an ?_
  have eq : qualnameIn X.env name name = X.env.qual ++ name := by
    have kd : X.env.kindOf name = some .local ∨ X.env.kindOf name = some .cell := hx
    unfold qualnameIn
    rcases kd with k | k <;> rw [k] <;> first | rfl | exact if_neg (by decide)
  rw [eq]
  refine made_def I h2 h1 h3 (h5 _ _) h4 hT (fun y hy e => (hfree y hy e).elim (fun z => I.ok.has _ (.inl z)) fun z => I.ok.has _ (.inr z)) fun f c' H1 s' J m => ?_
  exact store_ok J nd hi hx (v := .ref f) rfl (fun s2 J2 => ⟨_, H1, J2, h f c' H1 m⟩) (.inl (fn name))⟩
end
section
variable {Γ : Gx} {M : Addr → Prop} {O : Ow} {σ : L2.St} {env : Ev} {H : Hp} {s : S}
theorem RepX.none (x : RepX Γ M O σ env H s) (i : Nat) (o : Option V) : RepX Γ M (O.clr [i]) (σ.set i o) (env.set i .no) H s where
  val j e h := by
    rcases set_cases h with ⟨_, he⟩ | ⟨hj, he⟩
    · cases he
    · rw [List.getElem?_set_ne hj]; exact x.val j e he
  own j sl h ho := by
    rcases set_cases h with ⟨_, he⟩ | ⟨hj, he⟩
    · rw [← he] at ho; cases ho
    · obtain ⟨w, q, r⟩ := x.own j sl he ho
      exact ⟨w, by rw [List.getElem?_set_ne hj]; exact q, by rw [Ow.clr_of (fun z => hj (List.mem_singleton.mp z).symm)]; exact r⟩
  non j h := by
    unfold Ow.clr
    split
    · rfl
    · rename_i hj
      refine x.non j fun sl hs => h sl ?_
      rw [List.getElem?_set_ne (fun e => hj (List.mem_singleton.mpr e.symm))]; exact hs
  inM j a h := x.inM j a (Ow.mem_clr h).1
  nod j := by
    unfold Ow.clr
    split
    · exact List.nodup_nil
    · exact x.nod j
  dis j k a h1 h2 := x.dis j k a (Ow.mem_clr h1).1 (Ow.mem_clr h2).1
  ok := x.ok
  len := by rw [List.length_set, List.length_set]; exact x.len
  mee j h := by
    rcases set_cases h with ⟨_, he⟩ | ⟨hj, he⟩
    · cases he
    · rw [List.getElem?_set_ne hj]; exact x.mee j he
theorem HpOk.isC (ok : HpOk Γ M H s) {c : Addr} {q : Str} (e : H c = some (LamX.CodeO c q)) : msk M H c = some (LamX.CodeO c q) := msk_iff.mpr ⟨fun z => (ok.nt c z _ e).2 _ _ rfl, e⟩
end
section
variable {Γ : Gx} {X : Cx} {E : XK} {k : Nat}
def ndefS (i : Nat) (f : Ev → Mo D) : Ev → Mo Fl := fun env => if i < env.length then retS f (env.set i .no) else bad
/-- x(e, lambda ..: ..) -/
theorem ve_lamH (n : Nat) (js : List Nat) (fr : List Str) {lev : Nat} {g : List D → Mo D} {x : Str} {e body : Expr} {params : Arguments} {sc : Scope} {fe : Ev → Mo D} {p lpos pos : Pos} (gx : GX Γ (fun _ : Unit => X) k E) (F : Fd X.prog X.w X.K X.mg X.base Γ x lev 2 g) (hk : lev ≤ k) (he : VE Γ (fun _ : Unit => X) E e fe)
    (mt : MyTab X Γ.tabs (X.env.qual ++ "<lambda>")) (ck : ∀ f c, Γ.cok n f (LamO f ⟨"<lambda>", X.env.qual ++ "<lambda>", params, [], sc, cloFrom X.env.cells sc.names [], c⟩ body) c (X.env.qual ++ "<lambda>") (cloFrom X.env.cells sc.names []) fr)
    (look : ndefB X.env.scope sc fr = true) (hjs : js.map (fun j => X.N[j]?) = fr.map some := by rfl) (hdef : defaultsOf params X.env = ([], []) := by rfl) (fn : ∀ x, X.fn x = true := by intro _; rfl) (hg : Gl X x := by rfl) (n1 : (x == Str.ofString "__debug__") = false := by decide)
    (s1 : starEach [e, .Lambda params body sc lpos] X.env = (false, eval e X.env) :: starEach [.Lambda params body sc lpos] X.env := by rfl) (s2 : starEach [.Lambda params body sc lpos] X.env = (false, eval (.Lambda params body sc lpos) X.env) :: starEach [] X.env := by rfl)
    (pl : ((backTo pos (starEach [.Lambda params body sc lpos] X.env)).any fun x => x.fst) = false := by rfl) :
    VE Γ (fun _ : Unit => X) E (.Call (.Name x p) [e, .Lambda params body sc lpos] [] pos) (callH g n js fe) := by
  obtain ⟨t, pt, d⟩ := he.ex
  obtain ⟨fa, fd, ps, F1, F2, F3, F4⟩ := F.ex
  refine ⟨tCallH (cloFrom X.env.cells sc.names []) fr js (spD Γ 2 g) E (tCons t (tCons (tMkE Γ.tabs (fun f c => LamO f ⟨"<lambda>", X.env.qual ++ "<lambda>", params, [], sc, cloFrom X.env.cells sc.names [], c⟩ body) (X.env.qual ++ "<lambda>")) tNil)), fun _ => ?_, fun sa M O σ env H s x Q q => ?_⟩
  · exact pe_callH F1 ((gx.room ()).mono hk) hg F2 F3 F4 (passes_call (gx.tk ()) fun _ _ _ _ h => h) fn (fun ok => Caps.made ok (ndef_free look) (ndef_fr look) hjs) (pa_cons (pt ()) (pa_cons (pe_mklam mt hdef (ndef_free look)) pa_nil s2) s1) n1 s1 pl
  · refine d sa M O σ env H s x _ (PostR.bnd q fun a s1 v H1 e1 t1 r1 h1 => ?_)
    refine ⟨t1.tab, fun f c H2 m => ?_⟩
    obtain ⟨e2, t2⟩ := Made.x (Γ := Γ.at sa) m t1
    have x1 := x.ext e1 t1
    have x2 := x1.ext e2 t2
    exact call_core x2 (x1.ok.rep e2 r1) (msk_iff.mpr ⟨x1.ok.fresh m.fre, m.isF⟩) (x2.ok.isC m.isC) (ck f c) (PostR.later h1 e2)
/-- def name(..): ..; return x(e, name) -/
theorem vb_ndefH (i n : Nat) (js : List Nat) (fr : List Str) {lev : Nat} {g : List D → Mo D} {x name : Str} {e : Expr} {params : Arguments} {body : List Stmt} {sc : Scope} {fe : Ev → Mo D} {p p2 pos pos1 pos3 : Pos} (gx : GX Γ (fun _ : Unit => X) k E) (F : Fd X.prog X.w X.K X.mg X.base Γ x lev 2 g) (hk : lev ≤ k) (he : VE Γ (fun _ : Unit => X) E e fe)
    (mt : MyTab X Γ.tabs (X.env.qual ++ name)) (ck : ∀ f c, Γ.cok n f (FnO f ⟨name, X.env.qual ++ name, params, body, sc, cloFrom X.env.cells sc.names [], c⟩) c (X.env.qual ++ name) (cloFrom X.env.cells sc.names []) fr)
    (look : ndefB X.env.scope sc fr = true) (hjs : js.map (fun j => X.N[j]?) = fr.map some := by rfl) (d0 : params.defaults = [] := by rfl) (k0 : params.kw_defaults = [] := by rfl) (an : annTrees params none X.env = [] := by rfl) (hi : X.N[i]? = some name := by rfl) (hx : Loc X.env.scope name := by first | exact Or.inl rfl | exact Or.inr rfl)
    (fn : ∀ x, X.fn x = true := by intro _; rfl) (hg : Gl X x := by rfl) (n1 : (x == Str.ofString "__debug__") = false := by decide) (n2 : (name == Str.ofString "__debug__") = false := by decide) (n3 : (name == Str.ofString "__classdict__") = false := by decide)
    (s1 : starEach [e, .Name name p2] X.env = (false, eval e X.env) :: starEach [.Name name p2] X.env := by rfl) (s2 : starEach [.Name name p2] X.env = (false, eval (.Name name p2) X.env) :: starEach [] X.env := by rfl)
    (pl : ((backTo pos (starEach [.Name name p2] X.env)).any fun x => x.fst) = false := by rfl) :
    VB Γ (fun _ : Unit => X) E [.FunctionDef name params body [] none [] sc none name pos1, .Return (some (.Call (.Name x p) [e, .Name name p2] [] pos)) pos3] (ndefS i (callH g n js fe)) := by
  obtain ⟨t, pt, d⟩ := he.ex
  obtain ⟨fa, fd, ps, F1, F2, F3, F4⟩ := F.ex
  have vis : Vis X.env.scope name := hx.elim .inl fun z => .inr (.inl z)
  refine ⟨tSeq (tMkS Γ.tabs i (fun f c => FnO f ⟨name, X.env.qual ++ name, params, body, sc, cloFrom X.env.cells sc.names [], c⟩) (X.env.qual ++ name)) (tRet (tCallH (cloFrom X.env.cells sc.names []) fr js (spD Γ 2 g) E (tCons t (tCons (tVar i) tNil)))), fun _ => ?_, fun sa H0 M0 Gs O σ env H s N r post => ?_⟩
  · exact pss_cons (ps_mkdef i mt d0 k0 an (ndef_free look) (gx.nd ()) hi hx fn) (pss_one (ps_ret (pe_callH F1 ((gx.room ()).mono hk) hg F2 F3 F4 (passes_call (gx.tk ()) fun _ _ _ _ h => h) fn (fun ok => Caps.made ok (ndef_free look) (ndef_fr look) hjs) (pa_cons (pt ()) (pa_cons (pe_var hi vis n2 n3) pa_nil s2) s1) n1 s1 pl)))
  · unfold ndefS at post
    by_cases hi2 : i < env.length
    case neg => rw [if_neg hi2] at post; exact (show False from post).elim
    rw [if_pos hi2] at post
    refine ⟨r.x.ok.st.tab, fun f c H1 m => ?_⟩
    obtain ⟨e1, t1⟩ := Made.x (Γ := Γ.at sa) m r.x.ok.st
    have r1 := r.later e1 t1
    have li : i < σ.length := r.x.len ▸ hi2
    have x1 := r1.x.none i (some (.ref f))
    have q : PostR (Γ.at sa) E (Mof M0 O) (RD (Γ.at sa) (Mof M0 O)) H1 (callH g n js fe (env.set i .no) s) (fun v H' => N.rt v H') := PostS.bnd r1 post (fun d s2 v H2 e2 t2 rv h2 => h2 v H2 (r1.ext.trans e2) t2 (rv.mono (msk_less fun p hp => .inl hp)))
    refine d sa _ _ _ _ H1 s x1 _ (PostR.bnd q fun a s2 v H2 e2 t2 r2 h2 => ?_)
    have x2 := x1.ext e2 t2
    refine ⟨.ref f, List.getElem?_set_self li, ?_⟩
    have hf : msk (Mof M0 O) H1 f = some _ := msk_iff.mpr ⟨r.x.ok.fresh m.fre, m.isF⟩
    exact call_core x2 r2 (x1.ok.mono e2 _ _ hf) (x1.ok.mono e2 _ _ (x1.ok.isC m.isC)) (ck f c) h2
end
end G

namespace G
open PySem PySem.Spec PyProof.Rows L2 NdefX

/-! ### the words of a lambda -/
def lamA : Expr → Arguments
  | .Lambda a _ _ _ => a
  | _ => default
def lamB : Expr → Expr
  | .Lambda _ b _ _ => b
  | e => e
def lamS : Expr → Scope
  | .Lambda _ _ s _ => s
  | _ => default
def lastArg : Stmt → Expr
  | .Return (some (.Call _ [_, e] _ _)) _ => e
  | _ => .Constant .none 0 ⟨0, 0, 0, 0⟩
/-! ### the body of a closure -/
def cloD (p q : Nat) (run : List D → Mo D) (caps as : List D) : Mo D := if as.length = p ∧ caps.length = q then run (as ++ caps) else bad
def runE (n : Nat) (f : Ev → Mo D) : List D → Mo D := fun ds => f (ds.map Sl.val ++ List.replicate (n - ds.length) Sl.no)
theorem startF_start {N : List Str} {vs ws : List V} : startF N vs (ws.map some) = L2.start N (vs ++ ws) := by
  unfold startF L2.start
  rw [List.map_append, List.append_assoc, List.length_append, List.length_map, Nat.sub_sub]
theorem mof_nil {M : Addr → Prop} : Mof M (fun _ => ([] : List Addr)) = M := by
  funext a
  exact propext ⟨fun h => h.elim id fun ⟨i, z⟩ => absurd z List.not_mem_nil, .inl⟩
section
variable {P : Program} {w : World} {K : PySem.W.Frag} {mg : Str → Option Value} {base : Heap} {Γ : Gx} {N ps fr : List Str} {F : NF} {f : Addr} {k n : Nat} {cdn : Nat → List D → List D → Mo D}
theorem spC_len {run : List D → Mo D} {p q : Nat} (hd : cdn n = cloD p q run) {ws : List (Option V)} {vs : List V} {H : Hp} {Q : VK} {E : XK} (h : spC Γ cdn n ws vs H Q E) : vs.length = p := by
  obtain ⟨us, rfl, sa, M, s0, caps, as, ok, rc, ra, post⟩ := h
  rw [hd] at post
  unfold cloD at post
  by_cases z : as.length = p ∧ caps.length = q
  · exact ra.length.trans z.1
  · rw [if_neg z] at post
    exact (show False from post).elim
theorem clo_lamD {e : Expr} {b : Ev → Mo D} (S : NScope N ps fr F.scope) (bs : ∀ (pm tv : Value) (us : List Value), us.length = ps.length → bindArgs (PySem.W.kla_fn F.name F.qual F.params e F.scope F.cl pm (.ref F.c) tv) ⟨us, []⟩ = pure (ps.zip us)) (hK : Γ.K = K) (hl : ps.length + fr.length ≤ N.length)
    (hd : cdn n = cloD ps.length fr.length (runE N.length b))
    (hb : ∀ (A : Around) (out : List Env) (s : Shared) (H : Hp) (E : XK), Room k (A.deeper (envF F f s.heap.objs.size)) → GX Γ (fun _ : Unit => ncx (L2.CX P w) P w K mg base N F f A out s H E) k E → VE Γ (fun _ : Unit => ncx (L2.CX P w) P w K mg base N F f A out s H E) E e b) :
    Clo P w K mg base (L2.CX P w) (k + 1) f (LamO f F e) F.c F.qual F.cl fr (spC Γ cdn n) := by
  refine clo_lam S bs (fun ws vs H Q E h => spC_len hd h) fun A out s H vs ws Q E hr h wl => ?_
  obtain ⟨us, rfl, sa, M, s0, caps, as, ok, rc, ra, post⟩ := h
  rw [hd] at post
  unfold cloD at post
  by_cases z : as.length = ps.length ∧ caps.length = fr.length
  · rw [if_pos z] at post
    obtain ⟨t, pt, dt⟩ := (hb A out s H E hr ⟨fun _ => hK.symm, fun _ => rfl, fun _ => hr, fun _ => S.nd, fun _ => takes_of rfl rfl rfl rfl, fun _ => passes_of rfl⟩).ex
    refine ⟨t, pt (), ?_⟩
    have r := (start_rep ok (ra.append rc) (N := N) rfl (by rw [List.length_append, z.1, z.2]; exact hl)).x
    rw [mof_nil] at r
    rw [startF_start]
    exact dt sa M _ _ _ H s0 r Q post
  · rw [if_neg z] at post
    exact (show False from post).elim
theorem clo_defD {b : Ev → Mo Fl} (S : NScope N ps fr F.scope) (bs : ∀ (doc pm ctv : Value) (us : List Value), us.length = ps.length → bindArgs (F.fd doc pm ctv) ⟨us, []⟩ = pure (ps.zip us)) (hK : Γ.K = K) (hl : ps.length + fr.length ≤ N.length)
    (hd : cdn n = cloD ps.length fr.length (runD N.length b))
    (hb : ∀ (A : Around) (out : List Env) (s : Shared) (H : Hp) (E : XK), Room k (A.deeper (envF F f s.heap.objs.size)) → GX Γ (fun _ : Unit => ncx (L2.CX P w) P w K mg base N F f A out s H E) k E → VB Γ (fun _ : Unit => ncx (L2.CX P w) P w K mg base N F f A out s H E) E F.body b) :
    Clo P w K mg base (L2.CX P w) (k + 1) f (FnO f F) F.c F.qual F.cl fr (spC Γ cdn n) := by
  refine Clo.of (nok_of S bs (fun ws vs H Q E h => spC_len hd h) fun A out s H vs ws Q E hr _ _ wl h => ?_)
  obtain ⟨us, rfl, sa, M, s0, caps, as, ok, rc, ra, post⟩ := h
  rw [hd] at post
  unfold cloD at post
  by_cases z : as.length = ps.length ∧ caps.length = fr.length
  · rw [if_pos z] at post
    obtain ⟨t, pt, dt⟩ := (hb A out s H E hr ⟨fun _ => hK.symm, fun _ => rfl, fun _ => hr, fun _ => S.nd, fun _ => takes_of rfl rfl rfl rfl, fun _ => passes_of rfl⟩).ex
    refine ⟨t, pt (), ?_⟩
    rw [startF_start]
    refine dt sa H M [] _ _ _ H s0 _ (start_rep ok (ra.append rc) rfl (by rw [List.length_append, z.1, z.2]; exact hl)) ?_
    unfold runD bnd at post
    cases e : b ((as ++ caps).map Sl.val ++ List.replicate (N.length - (as ++ caps).length) Sl.no) s0 with
    | bad => rw [e] at post; exact post
    | exc x s1 => rw [e] at post; exact post
    | ok o s1 =>
      rw [e] at post
      cases o with
      | nx env1 => exact fun O1 σ1 H1 r1 => post .non H1 r1.ext r1.x.ok.st .non
      | rt d => exact post
      | bk _ => exact post.elim
      | ct _ => exact post.elim
  · rw [if_neg z] at post
    exact (show False from post).elim
/-- a def that makes closures: its code object is known -/
theorem fnDC {x qual : Str} {st : Stmt} {fd : FuncData} {b : Ev → Mo Fl} {m : Nat} (F : Fun K x qual st f fd) (S : FnScope N ps (defScope st)) (hK : Γ.K = K) (hn : N.length = m) (hp : ps.length ≤ m)
    (hb : ∀ (A : Around) (outer : List Env) (s : Shared) (H : Hp) (E : XK), Room k (A.deeper (envOfC qual (defScope st) s.heap.objs.size f fd.code)) →
      GX Γ (fun _ : Unit => cxOf (L2.CX P w) P w K mg base N qual (defScope st) f fd.code A outer s H E) k E → VB Γ (fun _ : Unit => cxOf (L2.CX P w) P w K mg base N qual (defScope st) f fd.code A outer s H E) E (defBody st) b) :
    FnOk P w K mg base (L2.CX P w) (k + 1) f fd ps (spD Γ ps.length (runD m b)) := by
  obtain ⟨oc, od, kV, doc, pm, an, cdv, ct, osl, rfl, lk, hcd⟩ := F.ex
  refine fn_of lk hcd S (fun vs H Q E h => h.1) fun A outer s H vs Q E hr h => ?_
  obtain ⟨hl, sa, M, s0, ds, ok, r, post⟩ := h
  obtain ⟨t, pt, dt⟩ := (hb A outer s H E hr ⟨fun _ => hK.symm, fun _ => rfl, fun _ => hr, fun _ => S.nd, fun _ => takes_of rfl rfl rfl rfl, fun _ => passes_of rfl⟩).ex
  refine ⟨t, pt (), ?_⟩
  have hds : ds.length = ps.length := r.length.symm.trans hl
  refine dt sa H M [] _ _ _ H s0 _ (start_rep ok r hn (by omega)) ?_
  unfold runD bnd at post
  cases e : b (ds.map Sl.val ++ List.replicate (m - ds.length) Sl.no) s0 with
  | bad => rw [e] at post; exact post
  | exc x s1 => rw [e] at post; exact post
  | ok o s1 =>
    rw [e] at post
    cases o with
    | nx env1 => exact fun O1 σ1 H1 r1 => post .non H1 r1.ext r1.x.ok.st .non
    | rt d => exact post
    | bk _ => exact post.elim
    | ct _ => exact post.elim
end

/-! ### the end of a law whose defs make closures -/
theorem law_tabs {P : Program} {w : World} {K : PySem.W.Frag} {mg mb : Str → Option Value} {CX : CXT} {k : Nat} {fa a : Addr} {cs : List (Addr × Addr)} {fd : FuncData} {x : Str} {sp : Sp} {s : Shared} {us : List Value} {ns : List Int}
    (kin : K.In s.heap) (g : s.heap.Ns mainGlobals mg) (gb : s.heap.Ns builtinsNs mb) (bb : ∀ y : Str, y ≠ "__name__" → mb y = bootBuiltins y) (nol : s.heap.NoLimit) (gens : s.gens = #[])
    (T : ∀ p ∈ cs, s.heap.get? p.2 = some { cls := .none, data := .fields #[] }) (nT : ∀ p ∈ cs, K.lookup p.2 = none) (C : ∀ p ∈ cs, PySem.W.CodeHd s.heap p.1 p.2)
    (bm : ∃ (bm : Addr) (ob : Obj), mg "__builtins__" = some (.ref bm) ∧ bm ≠ builtinsNs ∧ s.heap.get? bm = some ob ∧ ob.cls = .type "module" ∧ ob.dict = some builtinsNs ∧ ob.data = .plain)
    (ha : s.heap.get? a = some { cls := .type "list", data := .seq us.toArray }) (hi : IntsAre us ns) (hl : ns.length ≤ sizeLine) (hr : Room k callerA)
    (F : ∀ base : Heap, K.In base → base.Ns mainGlobals mg → (∀ p ∈ cs, LamX.TabB base mg p.1 p.2) → FnOk P w K mg base CX k fa fd [x] sp) (bind : ∀ (s : Shared) (u : Value), BindsTo s fd ⟨[u], []⟩ [(x, u)])
    (hsp : ∀ H : Hp, (∀ p ∈ cs, H p.2 = some (.tbl #[])) → (∀ b qs, H b = some (.tbl qs) → ∃ p ∈ cs, p.2 = b) → SqL K H a (ns.map V.int) → sp [.ref a] H (fun v _ => v = .bl true) fun _ _ _ => False)
    (hCX : ∀ H e s', CX [] H s (fun _ _ _ => False) e s' → False) :
    codeAny (model P w) callerA (.call (.ref fa) ⟨[.ref a], []⟩) (fun r s' => r = .ok (.ret (.bool true)) ∧ OldK s.heap s'.heap ∧ s'.os = s.os ∧ AllBare s'.gens) s := by
  have tabAt : ∀ {b : Addr}, b ∈ cs.map Prod.snd → s.heap.get? b = some { cls := .none, data := .fields #[] } ∧ K.lookup b = none := fun {b} m => by
    obtain ⟨p, hp, rfl⟩ := List.mem_map.mp m
    exact ⟨T p hp, nT p hp⟩
  have go : ∀ H : Hp, (∀ b, b ∈ cs.map Prod.snd → H b = some (.tbl #[])) → (∀ b o, H b = some o → (b ∈ cs.map Prod.snd ∧ o = .tbl #[]) ∨ (b = a ∧ b ∉ cs.map Prod.snd ∧ o = .frz { cls := .type "list", data := .seq us.toArray } (.lst (ns.map V.int)) ∧ K.lookup a = none)) → SqL K H a (ns.map V.int) →
      codeAny (model P w) callerA (.call (.ref fa) ⟨[.ref a], []⟩) (fun r s' => r = .ok (.ret (.bool true)) ∧ OldK s.heap s'.heap ∧ s'.os = s.os ∧ AllBare s'.gens) s := by
    intro H tb only sq
    have hok : HOk P w H s.heap := fun b o z => by
      rcases only b o z with ⟨m, rfl⟩ | ⟨rfl, _, rfl, _⟩
      · exact (tabAt m).1
      · exact ⟨ha, by rw [List.length_map]; exact hl, us, _, vals_ints hi, ha⟩
    have kindOf : ∀ {b : Addr} {o : Obj}, s.heap.get? b = some o → o.data ≠ .fields #[] → (∀ vs n, o.data ≠ .seq vs n) → H b = none := fun {b o} z n1 n2 => by
      cases y : H b with
      | none => rfl
      | some t =>
        rcases only b t y with ⟨m, _⟩ | ⟨m, _⟩
        · rw [(tabAt m).1] at z
          cases z
          exact absurd rfl n1
        · rw [m, ha] at z
          cases z
          exact absurd rfl (n2 _ _)
    have there : ∀ {b : Addr} {o : Obj}, s.heap.get? b = some o → o.data ≠ .fields #[] → (∀ vs n, o.data ≠ .seq vs n) → (hidT s.heap H).get? b = some o := fun z n1 n2 => hidT_get z (kindOf z n1 n2)
    have ns : ∀ {b : Addr} {m : Str → Option Value}, s.heap.Ns b m → (hidT s.heap H).Ns b m := fun {b m} ⟨o, es, ep, z, d, r⟩ => ⟨o, es, ep, there z (by rw [d]; exact nofun) (by intro vs n; rw [d]; exact nofun), d, r⟩
    have hKb : K.In (hidT s.heap H) := fun b o z => hidT_get (kin b o z) (by
      cases y : H b with
      | none => rfl
      | some t =>
        rcases only b t y with ⟨m, _⟩ | ⟨m, _, _, m2⟩
        · rw [(tabAt m).2] at z; cases z
        · rw [m, m2] at z; cases z)
    have TB : ∀ p ∈ cs, LamX.TabB (hidT s.heap H) mg p.1 p.2 := fun p hp => by
      refine ⟨?_, ?_, fun z => ?_⟩
      · obtain ⟨o, vs, file, tf, flags, tg, inF, text, tt, e1, r1, r2, r3, r⟩ := C p hp
        refine ⟨o, vs, file, tf, flags, tg, inF, text, tt, there e1 (fun z => ?_) (fun vs n z => ?_), r1, r2, r3, r⟩
        · rw [r2] at z
          cases z
          simp at r3
        · rw [r2] at z
          cases z
      · obtain ⟨m, ob, b1, b2, b3, b4, b5, b6⟩ := bm
        refine ⟨m, ob, b1, b2, fun z => ?_, fun z => ?_, there b3 (by rw [b6]; exact nofun) (by intro vs n; rw [b6]; exact nofun), b4, b5, b6⟩
        · obtain ⟨o, es, ep, y, hd, _⟩ := g
          rw [z, y] at b3
          cases b3
          rw [hd] at b6
          cases b6
        · rw [z, T p hp] at b3
          cases b3
          cases b6
      · obtain ⟨o, es, ep, y, hd, _⟩ := g
        rw [z, T p hp] at y
        cases y
        cases hd
    have mod : L2.Mod K mg (hidT s.heap H) := ⟨hKb, ns g, ⟨mb, ns gb, bb⟩, let ⟨mc, h1, h2⟩ := nol; ⟨mc, ns h1, h2⟩⟩
    have e0 : Env0 P w K mg (hidT s.heap H) callerA [] s H := ⟨rfl, mod, fun b o z => of_hidT z, Nat.le_of_eq (hidT_size _ _), trivial, fun b hb => absurd hb (by exact List.not_mem_nil), hok, .of_eq gens⟩
    have q := hsp H (fun p hp => tb _ (List.mem_map.mpr ⟨p, hp, rfl⟩)) (fun b qs z => by
      rcases only b _ z with ⟨m, _⟩ | ⟨_, _, z, _⟩
      · obtain ⟨p, hp, y⟩ := List.mem_map.mp m
        exact ⟨p, hp, y⟩
      · cases z) sq
    refine codeAny_mono ((F _ hKb (ns g) TB).run callerA [] s H ⟨[.ref a], []⟩ [.ref a] [.ref a] _ _ hr e0 (bind s (.ref a)) (.cons rfl .nil) q) fun r s2 h => ?_
    cases r with
    | error e => exact (hCX H e s2 h).elim
    | ok fl =>
      cases fl with
      | ret u =>
        obtain ⟨v, H2, os, bare, un, hok2, rv, z⟩ := h
        have z : v = .bl true := z
        subst z
        have ru : u = Value.bool true := rv
        subst ru
        have keep : ∀ b o, b ∉ cs.map Prod.snd → s.heap.get? b = some o → s2.heap.get? b = some o := fun b o nb z => by
          cases y : H b with
          | none => exact un.keep b o z y List.not_mem_nil List.not_mem_nil
          | some t =>
            rcases only b t y with ⟨m, _⟩ | ⟨m, _, m2, _⟩
            · exact absurd m nb
            · subst m2
              have y2 := (hok2 b _ (un.frzs b _ _ y)).1
              have y1 := (hok b _ y).1
              rw [z] at y1
              cases y1
              exact y2
        have grow : ∀ p ∈ cs, ∃ more : Array Value, s2.heap.get? p.2 = some { cls := .none, data := .fields more } := fun p hp => by
          obtain ⟨more, z⟩ := un.tbls p.2 #[] (tb _ (List.mem_map.mpr ⟨p, hp, rfl⟩))
          exact ⟨_, hok2 p.2 _ z⟩
        refine ⟨rfl, ⟨fun b o z => ?_, fun b o z => ?_⟩, os, bare⟩
        · by_cases m : b ∈ cs.map Prod.snd
          · obtain ⟨p, hp, rfl⟩ := List.mem_map.mp m
            obtain ⟨more, y⟩ := grow p hp
            rw [T p hp] at z
            cases z
            exact .inr (.inl ⟨((C p hp).tab (T p hp)).isCodeTable, rfl, #[], more, rfl, by rw [Array.empty_append]; exact y⟩)
          · exact .inl (keep b o m z)
        · by_cases m : b ∈ cs.map Prod.snd
          · obtain ⟨p, hp, rfl⟩ := List.mem_map.mp m
            obtain ⟨more, y⟩ := grow p hp
            exact ⟨_, y⟩
          · exact ⟨o, keep b o m z⟩
      | _ => exact False.elim h
  have na : a ∉ cs.map Prod.snd := fun m => by
    have z := (tabAt m).1
    rw [ha] at z
    cases z
  cases hk : K.lookup a with
  | some o =>
    have z := kin a o hk
    rw [ha] at z
    cases z
    refine go (fun b => if b ∈ cs.map Prod.snd then some (.tbl #[]) else none) (fun b m => if_pos m) (fun b o z => ?_) (.inr ⟨_, us.toArray, _, hk, rfl, rfl, rfl, by rw [List.size_toArray, hi.length]; exact hl, by simpa using vals_ints hi⟩)
    by_cases m : b ∈ cs.map Prod.snd
    · exact .inl ⟨m, (Option.some.inj ((if_pos m).symm.trans z)).symm⟩
    · exact absurd ((if_neg m).symm.trans z) nofun
  | none =>
    refine go (fun b => if b ∈ cs.map Prod.snd then some (.tbl #[]) else if b = a then some (.frz { cls := .type "list", data := .seq us.toArray } (.lst (ns.map V.int))) else none) (fun b m => if_pos m) (fun b o z => ?_) (.inl (.inr ⟨_, (if_neg na).trans (if_pos rfl)⟩))
    by_cases m : b ∈ cs.map Prod.snd
    · exact .inl ⟨m, (Option.some.inj ((if_pos m).symm.trans z)).symm⟩
    · have z := (if_neg m).symm.trans z
      by_cases y : b = a
      · exact .inr ⟨y, m, (Option.some.inj ((if_pos y).symm.trans z)).symm, hk⟩
      · exact absurd ((if_neg y).symm.trans z) nofun
/-- the table of the def of this name is empty at the start -/
def EmptyTab (K : PySem.W.Frag) (mg : Str → Option Value) (name : Str) (h : Heap) : Prop := ∀ (f c t : Addr) (o : Obj) (fd : FuncData) (e : Value) (dd : Option Addr) (vs : Array Value) (sl : Array (Option Value)), mg name = some (.ref f) → K.lookup f = some o → o.data = .func fd → fd.code = .ref c → K.lookup c = some ⟨e, dd, .fields vs, sl⟩ → vs[11]? = some (.ref t) →
  h.get? t = some { cls := .none, data := .fields #[] }
theorem walk_tab {l : PySem.W.OpenLaw} {n k : Nat} {q : Program} {loose : List Str} {XP : (Str → Option Value) → Heap → Prop} {YP : World → Heap → Prop} {d : DefRec} {K : Params → PySem.W.Frag} {CX : World → CXT} {x : Str} {names : List Str}
    (most : l.most = some n) (line : n ≤ sizeLine) (nodef : d.params.defaults = []) (hr : Room k callerA) (recs : (names.all fun y => (recsOf q).any fun e => e.name == y) = true) (hY : ∀ (w : World) (h : Heap), YP w h → (K w.params).In h)
    (F : ∀ (w : World) (mg : Str → Option Value) (fa : Addr) (h : Heap), (K w.params).In h → h.Ns mainGlobals mg → mg d.name = some (.ref fa) → (∀ y ∈ names, EmptyTab (K w.params) mg y h) →
      ∃ (fd : FuncData) (cs : List (Addr × Addr)) (sp : Sp), (∀ p ∈ cs, h.get? p.2 = some { cls := .none, data := .fields #[] }) ∧ (∀ p ∈ cs, (K w.params).lookup p.2 = none) ∧ (∀ p ∈ cs, PySem.W.CodeHd h p.1 p.2) ∧ (∀ (s : Shared) (u : Value), BindsTo s fd ⟨[u], []⟩ [(x, u)]) ∧
        (∀ (H : Hp) (a : Addr) (ns : List Int), ns.length ≤ n → (∀ p ∈ cs, H p.2 = some (.tbl #[])) → (∀ b qs, H b = some (.tbl qs) → ∃ p ∈ cs, p.2 = b) → SqL (K w.params) H a (ns.map V.int) → sp [.ref a] H (fun v _ => v = .bl true) fun _ _ _ => False) ∧
        ∀ base : Heap, (K w.params).In base → base.Ns mainGlobals mg → (∀ p ∈ cs, LamX.TabB base mg p.1 p.2) → FnOk l.prog w (K w.params) mg base (CX w) k fa fd [x] sp)
    (hCX : ∀ (w : World) (H : Hp) (s : Shared) (e : Value) (s' : Shared), CX w [] H s (fun _ _ _ => False) e s' → False) :
    PySem.W.WalkO q loose XP YP l.row.toRowW d [] (fun f vs => PySem.call f vs) := by
  refine Att.attach_callB most nodef fun w s₀ s mg mb fa o pm cd doc a us ns G Y ho hd hcd hmg hobj hints hlen hbits hg => ?_
  have kin := hY w _ Y
  have tabs : ∀ y ∈ names, EmptyTab (K w.params) mg y s.heap := fun y hy f c t o2 fd2 e dd vs sl m1 m2 m3 m4 m5 m6 => by
    obtain ⟨r, r1, r2⟩ := List.any_eq_true.mp (List.all_eq_true.mp recs y hy)
    obtain ⟨f', o', fd', c', t', h1, h2, h3, h4, h5, ⟨oc, vc, e1, _, e3, e4⟩, h6⟩ := G.T.tab r r1
    have r2 : r.name = y := beq_iff_eq.mp r2
    rw [r2, m1] at h1
    cases h1
    rw [kin _ _ m2] at h2
    cases h2
    rw [m3] at h3
    cases h3
    rw [m4] at h4
    cases h4
    rw [kin _ _ m5] at e1
    cases e1
    cases e3
    rw [m6] at e4
    cases e4
    exact h6
  obtain ⟨fd, cs, sp, hT, nT, C, hb, hsp, hF⟩ := F w mg fa _ kin G.T.g hmg tabs
  exact law_tabs kin G.T.g G.T.b G.T.builtins G.T.nolimit hg hT nT C G.T.bmain hobj hints (Nat.le_trans hlen line) hr hF hb (fun H h1 h2 h3 => hsp H a ns hlen h1 h2 h3) fun H e s' => hCX w H s e s'
end G

namespace G
open PySem PySem.Spec PyProof.Rows L2
def topS (i : Nat) : Stmt := PySem.Challenge.pw_reesblocks_k07_named_semigroups.main.body.getD i (.Pass ⟨0, 0, 0, 0⟩)
def kf_0 (cl : List (Str × Addr)) (c : Addr) : NdefX.NF := ⟨"<lambda>", (("null_semigroup" : Str) ++ ".<locals>." ++ "<lambda>"), lamA (lastArg ((defBody (topS 16)).getD 1 (.Pass ⟨0, 0, 0, 0⟩))), [], lamS (lastArg ((defBody (topS 16)).getD 1 (.Pass ⟨0, 0, 0, 0⟩))), cl, c⟩
def ke_0 : Expr := lamB (lastArg ((defBody (topS 16)).getD 1 (.Pass ⟨0, 0, 0, 0⟩)))
def kf_1 (cl : List (Str × Addr)) (c : Addr) : NdefX.NF := ⟨"<lambda>", (("left_zero" : Str) ++ ".<locals>." ++ "<lambda>"), lamA (lastArg ((defBody (topS 17)).getD 1 (.Pass ⟨0, 0, 0, 0⟩))), [], lamS (lastArg ((defBody (topS 17)).getD 1 (.Pass ⟨0, 0, 0, 0⟩))), cl, c⟩
def ke_1 : Expr := lamB (lastArg ((defBody (topS 17)).getD 1 (.Pass ⟨0, 0, 0, 0⟩)))
def kf_2 (cl : List (Str × Addr)) (c : Addr) : NdefX.NF := ⟨"<lambda>", (("right_zero" : Str) ++ ".<locals>." ++ "<lambda>"), lamA (lastArg ((defBody (topS 18)).getD 1 (.Pass ⟨0, 0, 0, 0⟩))), [], lamS (lastArg ((defBody (topS 18)).getD 1 (.Pass ⟨0, 0, 0, 0⟩))), cl, c⟩
def ke_2 : Expr := lamB (lastArg ((defBody (topS 18)).getD 1 (.Pass ⟨0, 0, 0, 0⟩)))
def kf_3 (cl : List (Str × Addr)) (c : Addr) : NdefX.NF := ⟨"<lambda>", (("cyclic_group" : Str) ++ ".<locals>." ++ "<lambda>"), lamA (lastArg ((defBody (topS 19)).getD 1 (.Pass ⟨0, 0, 0, 0⟩))), [], lamS (lastArg ((defBody (topS 19)).getD 1 (.Pass ⟨0, 0, 0, 0⟩))), cl, c⟩
def ke_3 : Expr := lamB (lastArg ((defBody (topS 19)).getD 1 (.Pass ⟨0, 0, 0, 0⟩)))
def kf_4 (cl : List (Str × Addr)) (c : Addr) : NdefX.NF := ⟨"<lambda>", (("rectangular_band" : Str) ++ ".<locals>." ++ "<lambda>"), lamA (lastArg ((defBody (topS 20)).getD 1 (.Pass ⟨0, 0, 0, 0⟩))), [], lamS (lastArg ((defBody (topS 20)).getD 1 (.Pass ⟨0, 0, 0, 0⟩))), cl, c⟩
def ke_4 : Expr := lamB (lastArg ((defBody (topS 20)).getD 1 (.Pass ⟨0, 0, 0, 0⟩)))
def kf_5 (cl : List (Str × Addr)) (c : Addr) : NdefX.NF := ⟨"times", (("monogenic" : Str) ++ ".<locals>." ++ "times"), C8.fnArgs ((defBody (topS 21)).getD 2 (.Pass ⟨0, 0, 0, 0⟩)), C8.fnBody ((defBody (topS 21)).getD 2 (.Pass ⟨0, 0, 0, 0⟩)), C8.fnScope ((defBody (topS 21)).getD 2 (.Pass ⟨0, 0, 0, 0⟩)), cl, c⟩
def kf_6 (cl : List (Str × Addr)) (c : Addr) : NdefX.NF := ⟨"times", (("brandt" : Str) ++ ".<locals>." ++ "times"), C8.fnArgs ((defBody (topS 22)).getD 2 (.Pass ⟨0, 0, 0, 0⟩)), C8.fnBody ((defBody (topS 22)).getD 2 (.Pass ⟨0, 0, 0, 0⟩)), C8.fnScope ((defBody (topS 22)).getD 2 (.Pass ⟨0, 0, 0, 0⟩)), cl, c⟩
def cokK : Nat → Addr → HO → Addr → Str → List (Str × Addr) → List Str → Prop
  | 0, f, FO, c, q, cl, fr => FO = LamO f (kf_0 cl c) ke_0 ∧ q = (("null_semigroup" : Str) ++ ".<locals>." ++ "<lambda>") ∧ fr = ([] : List Str)
  | 1, f, FO, c, q, cl, fr => FO = LamO f (kf_1 cl c) ke_1 ∧ q = (("left_zero" : Str) ++ ".<locals>." ++ "<lambda>") ∧ fr = ([] : List Str)
  | 2, f, FO, c, q, cl, fr => FO = LamO f (kf_2 cl c) ke_2 ∧ q = (("right_zero" : Str) ++ ".<locals>." ++ "<lambda>") ∧ fr = ([] : List Str)
  | 3, f, FO, c, q, cl, fr => FO = LamO f (kf_3 cl c) ke_3 ∧ q = (("cyclic_group" : Str) ++ ".<locals>." ++ "<lambda>") ∧ fr = (["n"] : List Str)
  | 4, f, FO, c, q, cl, fr => FO = LamO f (kf_4 cl c) ke_4 ∧ q = (("rectangular_band" : Str) ++ ".<locals>." ++ "<lambda>") ∧ fr = (["k"] : List Str)
  | 5, f, FO, c, q, cl, fr => FO = NdefX.FnO f (kf_5 cl c) ∧ q = (("monogenic" : Str) ++ ".<locals>." ++ "times") ∧ fr = (["index", "period", "n"] : List Str)
  | 6, f, FO, c, q, cl, fr => FO = NdefX.FnO f (kf_6 cl c) ∧ q = (("brandt" : Str) ++ ".<locals>." ++ "times") ∧ fr = (["m", "last"] : List Str)
  | _, _, _, _, _, _, _ => False
structure Tx (K : PySem.W.Frag) (mg : Str → Option Value) (Γ : Gx) (base : Heap) : Prop where
  hK : Γ.K = K
  hC : Γ.cok = cokK
  c_0 : ClsF Γ 0
  m_Semigroup : mg "Semigroup" = some (.ref (Γ.cl 0))
  i_0 : C8.InsC Γ.K (Γ.cl 0)
  x_Malformed : ExF K mg "Malformed" (Γ.xc 1)
  x_Refused : ExR K mg "Refused" (Γ.xc 2)
  f_Refused___init__ : ∃ f fd, Fun K "__init__" "Refused.__init__" (inClass (topS 4) 0) f fd ∧ PySem.W.findIn K (.ref (Γ.xc 2)) "__init__" = some (some (.ref f)) ∧ PySem.W.typeIn K (.ref f) = some (.type "function") ∧ Binds K fd ["self", "reason"] []
  n_21 : PySem.W.exmOne K (.ref (Γ.xc 2)) (.ref (Γ.xc 1)) = some false
  m_MOST : ∃ u, mg "MOST" = some (.int (24) u)
  n_abs : mg "abs" = none
  n_all : mg "all" = none
  n_bool : mg "bool" = none
  n_enumerate : mg "enumerate" = none
  n_int : mg "int" = none
  n_isinstance : mg "isinstance" = none
  n_len : mg "len" = none
  n_list : mg "list" = none
  n_range : mg "range" = none
  n_tuple : mg "tuple" = none
  f__law_state : ∃ f fd, Fun K "_law_state" "_law_state" (topS 26) f fd ∧ mg "_law_state" = some (.ref f) ∧ Binds K fd ["script"] []
  f__law_take : ∃ f fd, Fun K "_law_take" "_law_take" (topS 27) f fd ∧ mg "_law_take" = some (.ref f) ∧ Binds K fd ["state", "m"] []
  f_is_integer : ∃ f fd, Fun K "is_integer" "is_integer" (topS 6) f fd ∧ mg "is_integer" = some (.ref f) ∧ Binds K fd ["value"] []
  f__need_sizes : ∃ f fd, Fun K "_need_sizes" "_need_sizes" (topS 24) f fd ∧ mg "_need_sizes" = some (.ref f) ∧ Binds K fd ["sizes"] []
  f_refuse_large : ∃ f fd, Fun K "refuse_large" "refuse_large" (topS 13) f fd ∧ mg "refuse_large" = some (.ref f) ∧ Binds K fd ["many"] []
  f_is_below : ∃ f fd, Fun K "is_below" "is_below" (topS 7) f fd ∧ mg "is_below" = some (.ref f) ∧ Binds K fd ["value", "n"] []
  f_is_table : ∃ f fd, Fun K "is_table" "is_table" (topS 11) f fd ∧ mg "is_table" = some (.ref f) ∧ Binds K fd ["value"] []
  f_is_associative : ∃ f fd, Fun K "is_associative" "is_associative" (topS 12) f fd ∧ mg "is_associative" = some (.ref f) ∧ Binds K fd ["rows"] []
  f_Semigroup___init__ : ∃ f fd, Fun K "__init__" "Semigroup.__init__" (inClass (topS 10) 0) f fd ∧ Mk K (Γ.cl 0) f ∧ Binds K fd ["self", "table"] []
  f__by_rule : ∃ f fd, Fun K "_by_rule" "_by_rule" (topS 23) f fd ∧ mg "_by_rule" = some (.ref f) ∧ Binds K fd ["n", "times"] []
  f_null_semigroup : ∃ f fd, Fun K "null_semigroup" "null_semigroup" (topS 16) f fd ∧ mg "null_semigroup" = some (.ref f) ∧ Binds K fd ["n"] [] ∧ (∃ c P nm, fd.code = .ref c ∧ LamX.TabB base mg c P ∧ (P, nm) ∈ Γ.tabs ∧ (∀ p ∈ Γ.tabs, p.1 = P → p.2 = nm) ∧ ∀ l k, nm l k = (("null_semigroup" : Str) ++ ".<locals>." ++ "<lambda>"))
  f_left_zero : ∃ f fd, Fun K "left_zero" "left_zero" (topS 17) f fd ∧ mg "left_zero" = some (.ref f) ∧ Binds K fd ["n"] [] ∧ (∃ c P nm, fd.code = .ref c ∧ LamX.TabB base mg c P ∧ (P, nm) ∈ Γ.tabs ∧ (∀ p ∈ Γ.tabs, p.1 = P → p.2 = nm) ∧ ∀ l k, nm l k = (("left_zero" : Str) ++ ".<locals>." ++ "<lambda>"))
  f_right_zero : ∃ f fd, Fun K "right_zero" "right_zero" (topS 18) f fd ∧ mg "right_zero" = some (.ref f) ∧ Binds K fd ["n"] [] ∧ (∃ c P nm, fd.code = .ref c ∧ LamX.TabB base mg c P ∧ (P, nm) ∈ Γ.tabs ∧ (∀ p ∈ Γ.tabs, p.1 = P → p.2 = nm) ∧ ∀ l k, nm l k = (("right_zero" : Str) ++ ".<locals>." ++ "<lambda>"))
  f_cyclic_group : ∃ f fd, Fun K "cyclic_group" "cyclic_group" (topS 19) f fd ∧ mg "cyclic_group" = some (.ref f) ∧ Binds K fd ["n"] [] ∧ (∃ c P nm, fd.code = .ref c ∧ LamX.TabB base mg c P ∧ (P, nm) ∈ Γ.tabs ∧ (∀ p ∈ Γ.tabs, p.1 = P → p.2 = nm) ∧ ∀ l k, nm l k = (("cyclic_group" : Str) ++ ".<locals>." ++ "<lambda>"))
  f_brandt : ∃ f fd, Fun K "brandt" "brandt" (topS 22) f fd ∧ mg "brandt" = some (.ref f) ∧ Binds K fd ["m"] [] ∧ (∃ c P nm, fd.code = .ref c ∧ LamX.TabB base mg c P ∧ (P, nm) ∈ Γ.tabs ∧ (∀ p ∈ Γ.tabs, p.1 = P → p.2 = nm) ∧ ∀ l k, nm l k = (("brandt" : Str) ++ ".<locals>." ++ "times"))
  f_rectangular_band : ∃ f fd, Fun K "rectangular_band" "rectangular_band" (topS 20) f fd ∧ mg "rectangular_band" = some (.ref f) ∧ Binds K fd ["m", "k"] [] ∧ (∃ c P nm, fd.code = .ref c ∧ LamX.TabB base mg c P ∧ (P, nm) ∈ Γ.tabs ∧ (∀ p ∈ Γ.tabs, p.1 = P → p.2 = nm) ∧ ∀ l k, nm l k = (("rectangular_band" : Str) ++ ".<locals>." ++ "<lambda>"))
  f_monogenic : ∃ f fd, Fun K "monogenic" "monogenic" (topS 21) f fd ∧ mg "monogenic" = some (.ref f) ∧ Binds K fd ["index", "period"] [] ∧ (∃ c P nm, fd.code = .ref c ∧ LamX.TabB base mg c P ∧ (P, nm) ∈ Γ.tabs ∧ (∀ p ∈ Γ.tabs, p.1 = P → p.2 = nm) ∧ ∀ l k, nm l k = (("monogenic" : Str) ++ ".<locals>." ++ "times"))
  f__law_reason : ∃ f fd, Fun K "_law_reason" "_law_reason" (topS 28) f fd ∧ mg "_law_reason" = some (.ref f) ∧ Binds K fd ["which", "n", "k"] []
  f__law_refusals : ∃ f fd, Fun K "_law_refusals" "_law_refusals" (topS 31) f fd ∧ mg "_law_refusals" = some (.ref f) ∧ Binds K fd [] []
  f__law_band : ∃ f fd, Fun K "_law_band" "_law_band" (topS 29) f fd ∧ mg "_law_band" = some (.ref f) ∧ Binds K fd ["m", "k"] []
  f__law_brandt : ∃ f fd, Fun K "_law_brandt" "_law_brandt" (topS 30) f fd ∧ mg "_law_brandt" = some (.ref f) ∧ Binds K fd ["m"] []
  f_law : ∃ f fd, Fun K "law" "law" (topS 32) f fd ∧ mg "law" = some (.ref f) ∧ Binds K fd ["script"] []

section
variable {P : Program} {w : World} {K : PySem.W.Frag} {mg : Str → Option Value} {base : Heap} {Γ : Gx}

theorem sc_Refused___init__ : FnScope ["self", "reason"] ["self", "reason"] (defScope (inClass (topS 4) 0)) := ⟨rfl, rfl, rfl, by decide +kernel, rfl, by decide +kernel, by decide +kernel⟩
theorem okx_Refused (T : Tx K mg Γ base) : Fr P w K mg base Γ := by
  obtain ⟨f, fd, F, h1, h2, hb⟩ := T.f_Refused___init__
  exact fr_mk F sc_Refused___init__ T.x_Refused rfl (h1 := h1) (h2 := h2) (h3 := hb)

/-! _law_state -/
theorem sc__law_state : FnScope ["script", "seed", "total", "cell"] ["script"] (defScope (topS 26)) := ⟨rfl, rfl, rfl, by decide +kernel, rfl, by decide +kernel, by decide +kernel⟩
theorem ok__law_state {f : Addr} {fd : FuncData} (F : Fun K "_law_state" "_law_state" (topS 26) f fd) (ma : mg "abs" = none) (mI : mg "int" = none) : FnOk P w K mg base (L2.CX P w) 1 f fd ["script"] (spState K) := by
  refine F.okX (k := 0) sc__law_state (fun vs H Q E h => ?_) (fun cdv A outer s H vs Q E hr h => ?_)
  · obtain ⟨a, ns, rfl, _⟩ := h
    rfl
  · obtain ⟨a, ns, rfl, hS, hl, q⟩ := h
    have ps : PassesOwn (model P w) (A.deeper (envOfC "_law_state" (defScope (topS 26)) s.heap.objs.size f cdv)) (envOfC "_law_state" (defScope (topS 26)) s.heap.objs.size f cdv) (cxOf (L2.CX P w) P w K mg base ["script", "seed", "total", "cell"] "_law_state" (defScope (topS 26)) f cdv A outer s H E).xe := passes_of rfl
    refine ⟨_, pss_cons (ps_set (i := 1) sc__law_state.nd rfl (.inl rfl) pe_int) (pss_cons (ps_set (i := 2) sc__law_state.nd rfl (.inl rfl) pe_int)
      (pss_cons (ps_for ps rfl (pi_list (pe_slice sl_list (pv 0) po_none (po_some pe_int))) (pg_name (i := 3) sc__law_state.nd rfl (.inl rfl))
        (pss_cons (ps_set (i := 1) sc__law_state.nd rfl (.inl rfl) (pe_op op_add (pe_op op_mul (pv 1) pe_int) (pe_callB call_abs (by rfl) ma (by decide +kernel) (pa_cons (pv 3) pa_nil))))
        (pss_one (ps_set (i := 2) sc__law_state.nd rfl (.inl rfl) (pe_op op_mod (pe_callTy call_int1 (by rfl) mI (by decide +kernel) (pa_cons (pe_op op_add (pe_op op_mul (pv 2) pe_int) (pv 3)) pa_nil)) pe_int)))))
      (pss_one (ps_ret (pe_lst (pa_cons (pv 1) (pa_cons (pv 2) pa_nil))))))), ?_⟩
    refine ⟨.ref a, rfl, 63, rfl, a, ns.map V.int, rfl, hS, fun c nc => ?_⟩
    obtain ⟨ks, hk⟩ := cut_ints ns none (some 63)
    rw [hk]
    have hC : SqL K (upd H c (.lst (ks.map V.int))) c (ks.map V.int) := .inl (.inl upd_same)
    refine ⟨c, rfl, ⟨_, hC⟩, fun i m σ H3 => ∃ x y z, σ = [some (.ref a), some (.int x), some (.int y), z] ∧ i + m = ks.length ∧ H3 = upd H c (.lst (ks.map V.int)), ⟨ks.length, 0, 1, none, rfl, by omega, rfl⟩, fun i m σ H3 hW => ?_⟩
    obtain ⟨x, y, z, rfl, em, rfl⟩ := hW
    by_cases hi : i < ks.length
    · have g : (ks.map V.int)[i]? = some (.int ks[i]) := by
        rw [List.getElem?_map, List.getElem?_eq_getElem hi]
        rfl
      refine .inr ⟨⟨_, _, hC, g⟩, fun σ' H' => ∃ x y z, σ' = [some (.ref a), some (.int x), some (.int y), z] ∧ H' = upd H c (.lst (ks.map V.int)), fun σ' H' hN => ?_, fun v H' hy => ?_⟩
      · obtain ⟨x', y', z', e1, e2⟩ := hN
        exact ⟨m - 1, by omega, x', y', z', e1, by omega, e2⟩
      · obtain ⟨rfl, fv⟩ := hy
        have ev : v = .int ks[i] := Option.some.inj ((fv _ hC).symm.trans g)
        subst ev
        refine ⟨.int x, rfl, x, 1000003, rfl, rfl, .inr ⟨by decide, by decide⟩, .int ks[i], rfl, ks[i], rfl, _, _, rfl, rfl, ?_⟩
        refine ⟨.int y, rfl, y, 48271, rfl, rfl, .inr ⟨by decide, by decide⟩, .int ks[i], rfl, _, _, rfl, rfl, .inl ⟨_, rfl, _, 2147483647, rfl, rfl, (by show (0 : Int) < 2147483647; decide), ?_⟩⟩
        exact ⟨_, _, _, rfl, rfl⟩
    · refine .inl ⟨⟨_, hC, ?_⟩, ?_⟩
      · rw [List.length_map]
        omega
      · refine ⟨.int x, rfl, .int y, rfl, le_line (by show 2 ≤ 1000; omega), fun p np => ?_⟩
        have np2 : H p = none := by
          by_cases hpc : p = c
          · rw [hpc]; exact nc
          · rw [upd_ne hpc] at np; exact np
        refine q _ p x y np2 (fun q o e => by rw [upd_ne (ne_of_none e np2), upd_ne (ne_of_none e nc)]; exact e) (fun q ps e => ?_) upd_same
        by_cases z1 : q = p
        · rw [z1, upd_same] at e; cases e
        · rw [upd_ne z1] at e
          by_cases z2 : q = c
          · rw [z2, upd_same] at e; cases e
          · rw [upd_ne z2] at e; exact e

/-! _law_take -/
def g__law_take : List D → Mo D
  | [.st, .int m] => fun s => if 0 < m ∧ m < 1073741824 then (if s.1 > 0 then .ok (.int (s.1 % m)) (s.1 / m, s.2) else .ok (.int ((s.2 * 48271 + 11) % 2147483647 / 7 % m)) (s.1, (s.2 * 48271 + 11) % 2147483647)) else .bad
  | _ => bad
theorem sc__law_take : FnScope ["state", "m", "value"] ["state", "m"] (defScope (topS 27)) := ⟨rfl, rfl, rfl, by decide +kernel, rfl, by decide +kernel, by decide +kernel⟩
theorem ok__law_take (T : Tx K mg Γ base) : Fd P w K mg base Γ "_law_take" 1 2 g__law_take := by
  obtain ⟨f, fd, F, hm, hb⟩ := T.f__law_take
  refine ⟨f, fd, _, F.okX (k := 0) (sp := spD Γ 2 g__law_take) sc__law_take (fun vs H Q E h => h.1) (fun cdv A outer s H vs Q E hr h => ?_), hm, F.kp, hb⟩
  obtain ⟨hl, ⟨sa, me⟩, M, st, ds, ok, r, post⟩ := h
  have mI := T.n_int
  refine ⟨_, pss_cons (ps_if (pt_cmpR op_gt (pe_ix ix_list (pv 0) pe_int (fun _ _ => rfl)) pe_int (nomark _))
      (pss_cons (ps_set (i := 2) sc__law_take.nd rfl (.inl rfl) (pe_op op_mod (pe_callTy call_int1 (by rfl) mI (by decide +kernel) (pa_cons (pe_ix ix_list (pv 0) pe_int (fun _ _ => rfl)) pa_nil)) (pv 1)))
      (pss_cons (ps_asg (pe_op op_fdiv (pe_ix ix_list (pv 0) pe_int (fun _ _ => rfl)) (pv 1)) (pg_sub (pv 0) pe_int set_list))
      (pss_one (ps_ret (pv 2))))) pss_nil)
    (pss_cons (ps_asg (pe_op op_mod (pe_callTy call_int1 (by rfl) mI (by decide +kernel) (pa_cons (pe_op op_add (pe_op op_mul (pe_ix ix_list (pv 0) pe_int (fun _ _ => rfl)) pe_int) pe_int) pa_nil)) pe_int) (pg_sub (pv 0) pe_int set_list))
    (pss_one (ps_ret (pe_op op_mod (pe_callTy call_int1 (by rfl) mI (by decide +kernel) (pa_cons (pe_op op_fdiv (pe_ix ix_list (pv 0) pe_int (fun _ _ => rfl)) pe_int) pa_nil)) (pv 1))))), ?_⟩
  obtain ⟨s1, s2⟩ := st
  cases r with
  | nil => cases hl
  | cons ra rt =>
    cases rt with
    | nil => cases hl
    | cons rb rt =>
      cases rt with
      | cons _ _ => cases hl
      | nil =>
        cases ra with
        | st =>
          cases rb with
          | int m =>
            have hs : H sa = some (.lst [.int s1, .int s2]) := ok.st.at_
            simp only [g__law_take] at post
            split at post
            · rename_i hm2
              have fin : ∀ (x y z : Int), PostR (Γ.at (sa, me)) E M (RD (Γ.at (sa, me)) M) H (.ok (.int z) (x, y)) Q → Q (.int z) (upd H sa (.lst [.int x, .int y])) := fun x y z p =>
                p (.int z) _ (fun b o hb nb _ => by rw [upd_ne (show b ≠ sa from nb)]; exact hb) (ok.st.put x y) (.int z)
              refine ⟨.ref sa, rfl, sa, _, 0, .int s1, rfl, rfl, .of hs, rfl, s1, 0, rfl, rfl, _, rfl, ?_⟩
              by_cases h0 : s1 > 0
              · rw [if_pos h0] at post
                rw [decide_eq_true (show (0 : Int) < s1 from h0)]
                refine iteT ?_
                refine ⟨.ref sa, rfl, sa, _, 0, .int s1, rfl, rfl, .of hs, rfl, .inl ⟨s1, rfl, .int m, rfl, s1, m, rfl, rfl, hm2.1, ?_⟩⟩
                refine ⟨.ref sa, rfl, sa, _, 0, .int s1, rfl, rfl, .of hs, rfl, .int m, rfl, s1, m, rfl, rfl, hm2, .ref sa, rfl, sa, _, 0, 0, rfl, rfl, hs, rfl, ?_⟩
                exact ⟨.int (s1 % m), rfl, fin _ _ _ post⟩
              · rw [if_neg h0] at post
                rw [decide_eq_false (show ¬ (0 : Int) < s1 from h0)]
                refine iteF ?_
                refine ⟨.ref sa, rfl, sa, _, 1, .int s2, rfl, rfl, .of hs, rfl, s2, 48271, rfl, rfl, .inr ⟨by decide, by decide⟩, s2 * 48271, 11, rfl, rfl, .inl ⟨s2 * 48271 + 11, rfl, s2 * 48271 + 11, 2147483647, rfl, rfl, (by show (0 : Int) < 2147483647; decide), ?_⟩⟩
                refine ⟨.ref sa, rfl, sa, _, 1, 1, rfl, rfl, hs, rfl, ?_⟩
                refine ⟨.ref sa, rfl, sa, _, 1, .int ((s2 * 48271 + 11) % 2147483647), rfl, rfl, .of upd_same, rfl, (s2 * 48271 + 11) % 2147483647, 7, rfl, rfl, ⟨by decide, by decide⟩, .inl ⟨_, rfl, .int m, rfl, _, m, rfl, rfl, hm2.1, ?_⟩⟩
                exact fin _ _ _ post
            · exact post.elim
          | _ => exact post.elim
        | _ => exact post.elim

/-! is_integer -/
def s_is_integer : Ev → Mo Fl := (retS (andV (op1D (isiD "int") (getD 0)) (notV (op1D (isiD "bool") (getD 0)))))
def g_is_integer : List D → Mo D := runD 1 s_is_integer
theorem sc_is_integer : FnScope ["value"] ["value"] (defScope (topS 6)) := ⟨rfl, rfl, rfl, by decide +kernel, rfl, by decide +kernel, by decide +kernel⟩
theorem ok_is_integer (T : Tx K mg Γ base) : Fd P w K mg base Γ "is_integer" 1 1 g_is_integer := by
  obtain ⟨f, fd, F, hm, hb⟩ := T.f_is_integer
  refine ⟨f, fd, _, fnD F sc_is_integer T.hK rfl (by decide) (fun cdv A outer s H E hr g => ?_), hm, F.kp, hb⟩
  exact (vb_one (vs_ret (ve_and (ve_isi (T := "int") g (by decide) (fun _ => T.n_isinstance) (fun _ => T.n_int) (ve_var 0)) (ve_one (ve_not (ve_isi (T := "bool") g (by decide) (fun _ => T.n_isinstance) (fun _ => T.n_bool) (ve_var 0)))))))

/-! _need_sizes -/
def s__need_sizes : Ev → Mo Fl := (forS (overS (getD 0)) hName [1] (ifS (orT (notT (testD (opLD g_is_integer (consA (getD 1) nilA)))) (testD (op2D ltD (getD 1) (cD (.int 1))))) raiseS nextS))
def g__need_sizes : List D → Mo D := runD 2 s__need_sizes
theorem sc__need_sizes : FnScope ["sizes", "size"] ["sizes"] (defScope (topS 24)) := ⟨rfl, rfl, rfl, by decide +kernel, rfl, by decide +kernel, by decide +kernel⟩
theorem ok__need_sizes (T : Tx K mg Γ base) : Fd P w K mg base Γ "_need_sizes" 2 1 g__need_sizes := by
  obtain ⟨f, fd, F, hm, hb⟩ := T.f__need_sizes
  refine ⟨f, fd, _, fnD F sc__need_sizes T.hK rfl (by decide) (fun cdv A outer s H E hr g => ?_), hm, F.kp, hb⟩
  exact (vb_one (vs_for g (vi_seq g (ve_var 0)) (vg_name 1 g.nd) (vb_one (vs_if (vt_w (vw_or (vt_not (vt_val (ve_fn g (fun _ => ok_is_integer T) (by decide) (van_cons (ve_var 1) van_nil)))) (vw_or1 (vt_cmp (vc_lt) (ve_var 1) ve_int)))) (vb_one (vs_raise g (fun _ => T.x_Malformed))) vb_nil))))

/-! refuse_large -/
def s_refuse_large : Ev → Mo Fl := (ifS (testD (op2D gtD (getD 0) (cD (.int (24))))) (raiseRS "large") nextS)
def g_refuse_large : List D → Mo D := runD 1 s_refuse_large
theorem sc_refuse_large : FnScope ["many"] ["many"] (defScope (topS 13)) := ⟨rfl, rfl, rfl, by decide +kernel, rfl, by decide +kernel, by decide +kernel⟩
theorem ok_refuse_large (T : Tx K mg Γ base) : Fd P w K mg base Γ "refuse_large" 3 1 g_refuse_large := by
  obtain ⟨f, fd, F, hm, hb⟩ := T.f_refuse_large
  obtain ⟨u_MOST, m_MOST⟩ := T.m_MOST
  refine ⟨f, fd, _, fnD F sc_refuse_large T.hK rfl (by decide) (fun cdv A outer s H E hr g => ?_), hm, F.kp, hb⟩
  exact (vb_one (vs_if (vt_cmp (vc_gt) (ve_var 0) (ve_globI (fun _ => m_MOST))) (vb_one (vs_raiseR g (by decide) (fun _ => T.x_Refused) (fun _ => okx_Refused T))) vb_nil))

/-! is_below -/
def s_is_below : Ev → Mo Fl := (retS (andV (opLD g_is_integer (consA (getD 0) nilA)) (chainD leD ltD (cD (.int 0)) (getD 0) (getD 1))))
def g_is_below : List D → Mo D := runD 2 s_is_below
theorem sc_is_below : FnScope ["value", "n"] ["value", "n"] (defScope (topS 7)) := ⟨rfl, rfl, rfl, by decide +kernel, rfl, by decide +kernel, by decide +kernel⟩
theorem ok_is_below (T : Tx K mg Γ base) : Fd P w K mg base Γ "is_below" 2 2 g_is_below := by
  obtain ⟨f, fd, F, hm, hb⟩ := T.f_is_below
  refine ⟨f, fd, _, fnD F sc_is_below T.hK rfl (by decide) (fun cdv A outer s H E hr g => ?_), hm, F.kp, hb⟩
  exact (vb_one (vs_ret (ve_and (ve_fn g (fun _ => ok_is_integer T) (by decide) (van_cons (ve_var 0) van_nil)) (ve_one (ve_chain (vc_le) (vc_lt) ve_int (ve_var 0) (ve_var 1))))))

/-! is_table -/
def s_is_table : Ev → Mo Fl := (seqS (ifS (orT (notT (testD (op1D (isi2D "list" "tuple") (getD 0)))) (testD (op2D eqD (opLD lenD (consA (getD 0) nilA)) (cD (.int 0))))) (retS (cD (.bl false))) nextS)
  (seqS (setS 1 (opLD lenD (consA (getD 0) nilA)))
  (seqS (forS (overS (getD 0)) hName [2] (seqS (ifS (orT (notT (testD (op1D (isi2D "list" "tuple") (getD 2)))) (testD (op2D neD (opLD lenD (consA (getD 2) nilA)) (getD 1)))) (retS (cD (.bl false))) nextS)
  (ifS (notT (testD (opLD allD (consA (asL (compD (overS (getD 2)) hName [3] yesT (opLD g_is_below (consA (getD 3) (consA (getD 1) nilA))) [3])) nilA)))) (retS (cD (.bl false))) nextS)))
  (retS (cD (.bl true))))))
def g_is_table : List D → Mo D := runD 4 s_is_table
theorem sc_is_table : FnScope ["value", "n", "row", "x"] ["value"] (defScope (topS 11)) := ⟨rfl, rfl, rfl, by decide +kernel, rfl, by decide +kernel, by decide +kernel⟩
theorem ok_is_table (T : Tx K mg Γ base) : Fd P w K mg base Γ "is_table" 3 1 g_is_table := by
  obtain ⟨f, fd, F, hm, hb⟩ := T.f_is_table
  refine ⟨f, fd, _, fnD F sc_is_table T.hK rfl (by decide) (fun cdv A outer s H E hr g => ?_), hm, F.kp, hb⟩
  exact (vb_cons (vs_if (vt_w (vw_or (vt_not (vt_val (ve_isi2 (T := "list") (U := "tuple") g (by decide) (by decide) (fun _ => T.n_isinstance) (fun _ => T.n_list) (fun _ => T.n_tuple) (ve_var 0)))) (vw_or1 (vt_cmp (vc_eq g) (ve_callB (cr_len g) (fun sa => ol_len (Γ := Γ.at sa)) (fun _ => T.n_len) (va_cons (ve_var 0) va_nil)) ve_int)))) (vb_one (vs_ret ve_bl)) vb_nil)
  (vb_cons (vs_set 1 g (ve_callB (cr_len g) (fun sa => ol_len (Γ := Γ.at sa)) (fun _ => T.n_len) (va_cons (ve_var 0) va_nil)))
  (vb_cons (vs_for g (vi_seq g (ve_var 0)) (vg_name 2 g.nd) (vb_cons (vs_if (vt_w (vw_or (vt_not (vt_val (ve_isi2 (T := "list") (U := "tuple") g (by decide) (by decide) (fun _ => T.n_isinstance) (fun _ => T.n_list) (fun _ => T.n_tuple) (ve_var 2)))) (vw_or1 (vt_cmp (vc_ne g) (ve_callB (cr_len g) (fun sa => ol_len (Γ := Γ.at sa)) (fun _ => T.n_len) (va_cons (ve_var 2) va_nil)) (ve_var 1))))) (vb_one (vs_ret ve_bl)) vb_nil)
  (vb_one (vs_if (vt_not (vt_val (ve_callB (cr_all' g) (fun sa => ol_all (Γ := Γ.at sa)) (fun _ => T.n_all) (va_cons (ve_new (vf_lc (own := [("x", 3)]) g (vi_seq g (ve_var 2)) (fun _ => blkOk_by (by first | rfl | decide +kernel)) (vg_name 3 (g.blk _).nd) vts_nil (ve_fn (g.blk _) (fun _ => ok_is_below T) (by decide) (van_cons (ve_var 3) (van_cons (ve_var 1) van_nil))))) va_nil)))) (vb_one (vs_ret ve_bl)) vb_nil))))
  (vb_one (vs_ret ve_bl)))))

/-! is_associative -/
def s_is_associative : Ev → Mo Fl := (seqS (forS (overS (getD 0)) hName [1] (forS (overE (getD 0)) (hTup 2 (hCons hName (hCons hName hNil))) [2, 3] (ifS (testD (op2D neD (op2D ixD (getD 0) (op2D ixD (getD 1) (getD 2))) (opLD tupleD (consA (asL (compD (overS (getD 3)) hName [4] yesT (op2D ixD (getD 1) (getD 4)) [4])) nilA)))) (retS (cD (.bl false))) nextS)))
  (retS (cD (.bl true))))
def g_is_associative : List D → Mo D := runD 5 s_is_associative
theorem sc_is_associative : FnScope ["rows", "row", "y", "behind", "z"] ["rows"] (defScope (topS 12)) := ⟨rfl, rfl, rfl, by decide +kernel, rfl, by decide +kernel, by decide +kernel⟩
theorem ok_is_associative (T : Tx K mg Γ base) : Fd P w K mg base Γ "is_associative" 1 1 g_is_associative := by
  obtain ⟨f, fd, F, hm, hb⟩ := T.f_is_associative
  refine ⟨f, fd, _, fnD F sc_is_associative T.hK rfl (by decide) (fun cdv A outer s H E hr g => ?_), hm, F.kp, hb⟩
  exact (vb_cons (vs_for g (vi_seq g (ve_var 0)) (vg_name 1 g.nd) (vb_one (vs_for g (vi_enumS g (fun _ => T.n_enumerate) (ve_var 0)) (vg_tup g (vgs_cons (vg_name 2 g.nd) (vgs_cons (vg_name 3 g.nd) vgs_nil))) (vb_one (vs_if (vt_cmp (vc_ne g) (ve_ix g (ve_var 0) (ve_ix g (ve_var 1) (ve_var 2))) (ve_tuple g (fun _ => T.n_tuple) (va_cons (ve_new (vf_lc (own := [("z", 4)]) g (vi_seq g (ve_var 3)) (fun _ => blkOk_by (by first | rfl | decide +kernel)) (vg_name 4 (g.blk _).nd) vts_nil (ve_ix (g.blk _) (ve_var 1) (ve_var 4)))) va_nil))) (vb_one (vs_ret ve_bl)) vb_nil)))))
  (vb_one (vs_ret ve_bl)))

/-! Semigroup.__init__ -/
def s_Semigroup___init__ : Ev → Mo (List D) := (seqJ (ifS (notT (testD (opLD g_is_table (consA (getD 1) nilA)))) raiseS nextS)
  (seqJ (exprS (opLD g_refuse_large (consA (opLD lenD (consA (getD 1) nilA)) nilA)))
  (seqJ (setS 2 (opLD tupleD (consA (asL (compD (overS (getD 1)) hName [3] yesT (opLD tupleD (consA (getD 3) nilA)) [3])) nilA)))
  (seqJ (ifS (notT (testD (opLD g_is_associative (consA (getD 2) nilA)))) (raiseRS "associative") nextS)
  (twoJ (opLD lenD (consA (getD 2) nilA)) (getD 2))))))
def g_Semigroup___init__ : List D → Mo (List D) := runI 3 s_Semigroup___init__
theorem sc_Semigroup___init__ : FnScope ["self", "table", "rows", "row"] ["self", "table"] (defScope (inClass (topS 10) 0)) := ⟨rfl, rfl, rfl, by decide +kernel, rfl, by decide +kernel, by decide +kernel⟩
theorem oki_Semigroup (T : Tx K mg Γ base) : Fi P w K mg base Γ 0 "Semigroup" 4 1 g_Semigroup___init__ := by
  obtain ⟨f, fd, F, hm, hb⟩ := T.f_Semigroup___init__
  refine ⟨f, fd, _, fnI F sc_Semigroup___init__ T.hK rfl rfl (by decide) (fun cdv A outer s H E hr g => ?_), hm, T.m_Semigroup, hb⟩
  exact (vj_cons (vs_if (vt_not (vt_val (ve_fn g (fun _ => ok_is_table T) (by decide) (van_cons (ve_var 1) van_nil)))) (vb_one (vs_raise g (fun _ => T.x_Malformed))) vb_nil)
  (vj_cons (vs_expr (ve_fn g (fun _ => ok_refuse_large T) (by decide) (van_cons (ve_callB (cr_len g) (fun sa => ol_len (Γ := Γ.at sa)) (fun _ => T.n_len) (va_cons (ve_var 1) va_nil)) van_nil)))
  (vj_cons (vs_set 2 g (ve_tuple g (fun _ => T.n_tuple) (va_cons (ve_new (vf_lc (own := [("row", 3)]) g (vi_seq g (ve_var 1)) (fun _ => blkOk_by (by first | rfl | decide +kernel)) (vg_name 3 (g.blk _).nd) vts_nil (ve_tuple (g.blk _) (fun _ => T.n_tuple) (va_cons (ve_var 3) va_nil)))) va_nil)))
  (vj_cons (vs_if (vt_not (vt_val (ve_fn g (fun _ => ok_is_associative T) (by decide) (van_cons (ve_var 2) van_nil)))) (vb_one (vs_raiseR g (by decide) (fun _ => T.x_Refused) (fun _ => okx_Refused T))) vb_nil)
  (vj_two g T.c_0 rfl (ve_callB (cr_len g) (fun sa => ol_len (Γ := Γ.at sa)) (fun _ => T.n_len) (va_cons (ve_var 2) va_nil)) (ve_var 2))))))

def b_0 : Ev → Mo D := (cD (.int 0))
def b_1 : Ev → Mo D := (getD 0)
def b_2 : Ev → Mo D := (getD 1)
def b_3 : Ev → Mo D := (op2D modD (op2D addD (getD 0) (getD 1)) (getD 2))
def b_4 : Ev → Mo D := (op2D addD (op2D mulD (op2D divD (getD 0) (getD 2)) (getD 2)) (op2D modD (getD 1) (getD 2)))
def b_5 : Ev → Mo Fl := (seqS (setS 5 (op2D addD (op2D addD (getD 0) (getD 1)) (cD (.int 1))))
  (retS (ifD (testD (op2D ltD (getD 5) (getD 4))) (getD 5) (op2D addD (op2D subD (getD 2) (cD (.int 1))) (op2D modD (op2D subD (getD 5) (getD 4)) (getD 3))))))
def b_6 : Ev → Mo Fl := (seqS (ifS (orT (testD (op2D eqD (getD 0) (getD 3))) (orT (testD (op2D eqD (getD 1) (getD 3))) (testD (op2D neD (op2D modD (getD 0) (getD 2)) (op2D divD (getD 1) (getD 2)))))) (retS (getD 3)) nextS)
  (retS (op2D addD (op2D mulD (op2D divD (getD 0) (getD 2)) (getD 2)) (op2D modD (getD 1) (getD 2)))))
def cdn : Nat → List D → List D → Mo D
  | 0 => cloD 2 0 (runE 2 b_0)
  | 1 => cloD 2 0 (runE 2 b_1)
  | 2 => cloD 2 0 (runE 2 b_2)
  | 3 => cloD 2 1 (runE 3 b_3)
  | 4 => cloD 2 1 (runE 3 b_4)
  | 5 => cloD 2 3 (runD 6 b_5)
  | 6 => cloD 2 2 (runD 4 b_6)
  | _ => fun _ _ => bad
theorem ck_0 (T : Tx K mg Γ base) (f c : Addr) (cl : List (Str × Addr)) : Clo P w K mg base (L2.CX P w) 1 f (LamO f (kf_0 cl c) ke_0) c (("null_semigroup" : Str) ++ ".<locals>." ++ "<lambda>") cl [] (spC Γ cdn 0) := by
  refine clo_lamD (F := kf_0 cl c) (N := ["x", "y"]) (ps := ["x", "y"]) (fr := []) (k := 0) (n := 0) (NdefX.nscope_by (by show NdefX.nscB _ _ _ (kf_0 [] 0).scope = true; decide +kernel)) (fun _ _ us hl => match us, hl with | [_, _], _ => rfl) T.hK (by decide) rfl (fun A out s H E hr g => ?_)
  exact ve_int
theorem ck_1 (T : Tx K mg Γ base) (f c : Addr) (cl : List (Str × Addr)) : Clo P w K mg base (L2.CX P w) 1 f (LamO f (kf_1 cl c) ke_1) c (("left_zero" : Str) ++ ".<locals>." ++ "<lambda>") cl [] (spC Γ cdn 1) := by
  refine clo_lamD (F := kf_1 cl c) (N := ["x", "y"]) (ps := ["x", "y"]) (fr := []) (k := 0) (n := 1) (NdefX.nscope_by (by show NdefX.nscB _ _ _ (kf_1 [] 0).scope = true; decide +kernel)) (fun _ _ us hl => match us, hl with | [_, _], _ => rfl) T.hK (by decide) rfl (fun A out s H E hr g => ?_)
  exact (ve_var 0)
theorem ck_2 (T : Tx K mg Γ base) (f c : Addr) (cl : List (Str × Addr)) : Clo P w K mg base (L2.CX P w) 1 f (LamO f (kf_2 cl c) ke_2) c (("right_zero" : Str) ++ ".<locals>." ++ "<lambda>") cl [] (spC Γ cdn 2) := by
  refine clo_lamD (F := kf_2 cl c) (N := ["x", "y"]) (ps := ["x", "y"]) (fr := []) (k := 0) (n := 2) (NdefX.nscope_by (by show NdefX.nscB _ _ _ (kf_2 [] 0).scope = true; decide +kernel)) (fun _ _ us hl => match us, hl with | [_, _], _ => rfl) T.hK (by decide) rfl (fun A out s H E hr g => ?_)
  exact (ve_var 1)
theorem ck_3 (T : Tx K mg Γ base) (f c : Addr) (cl : List (Str × Addr)) : Clo P w K mg base (L2.CX P w) 1 f (LamO f (kf_3 cl c) ke_3) c (("cyclic_group" : Str) ++ ".<locals>." ++ "<lambda>") cl ["n"] (spC Γ cdn 3) := by
  refine clo_lamD (F := kf_3 cl c) (N := ["x", "y", "n"]) (ps := ["x", "y"]) (fr := ["n"]) (k := 0) (n := 3) (NdefX.nscope_by (by show NdefX.nscB _ _ _ (kf_3 [] 0).scope = true; decide +kernel)) (fun _ _ us hl => match us, hl with | [_, _], _ => rfl) T.hK (by decide) rfl (fun A out s H E hr g => ?_)
  exact (ve_mod (ve_add g (ve_var 0) (ve_var 1)) (ve_var 2))
theorem ck_4 (T : Tx K mg Γ base) (f c : Addr) (cl : List (Str × Addr)) : Clo P w K mg base (L2.CX P w) 1 f (LamO f (kf_4 cl c) ke_4) c (("rectangular_band" : Str) ++ ".<locals>." ++ "<lambda>") cl ["k"] (spC Γ cdn 4) := by
  refine clo_lamD (F := kf_4 cl c) (N := ["x", "y", "k"]) (ps := ["x", "y"]) (fr := ["k"]) (k := 0) (n := 4) (NdefX.nscope_by (by show NdefX.nscB _ _ _ (kf_4 [] 0).scope = true; decide +kernel)) (fun _ _ us hl => match us, hl with | [_, _], _ => rfl) T.hK (by decide) rfl (fun A out s H E hr g => ?_)
  exact (ve_add g (ve_mul (ve_div (ve_var 0) (ve_var 2)) (ve_var 2)) (ve_mod (ve_var 1) (ve_var 2)))
theorem ck_5 (T : Tx K mg Γ base) (f c : Addr) (cl : List (Str × Addr)) : Clo P w K mg base (L2.CX P w) 1 f (NdefX.FnO f (kf_5 cl c)) c (("monogenic" : Str) ++ ".<locals>." ++ "times") cl ["index", "period", "n"] (spC Γ cdn 5) := by
  refine clo_defD (F := kf_5 cl c) (N := ["x", "y", "index", "period", "n", "place"]) (ps := ["x", "y"]) (fr := ["index", "period", "n"]) (k := 0) (n := 5) (NdefX.nscope_by (by show NdefX.nscB _ _ _ (kf_5 [] 0).scope = true; decide +kernel)) (fun _ _ _ us hl => match us, hl with | [_, _], _ => rfl) T.hK (by decide) rfl (fun A out s H E hr g => ?_)
  exact (vb_cons (vs_set 5 g (ve_add g (ve_add g (ve_var 0) (ve_var 1)) ve_int))
  (vb_one (vs_ret (ve_ifx (vt_cmp (vc_lt) (ve_var 5) (ve_var 4)) (ve_var 5) (ve_add g (ve_sub (ve_var 2) ve_int) (ve_mod (ve_sub (ve_var 5) (ve_var 4)) (ve_var 3)))))))
theorem ck_6 (T : Tx K mg Γ base) (f c : Addr) (cl : List (Str × Addr)) : Clo P w K mg base (L2.CX P w) 1 f (NdefX.FnO f (kf_6 cl c)) c (("brandt" : Str) ++ ".<locals>." ++ "times") cl ["m", "last"] (spC Γ cdn 6) := by
  refine clo_defD (F := kf_6 cl c) (N := ["x", "y", "m", "last"]) (ps := ["x", "y"]) (fr := ["m", "last"]) (k := 0) (n := 6) (NdefX.nscope_by (by show NdefX.nscB _ _ _ (kf_6 [] 0).scope = true; decide +kernel)) (fun _ _ _ us hl => match us, hl with | [_, _], _ => rfl) T.hK (by decide) rfl (fun A out s H E hr g => ?_)
  exact (vb_cons (vs_if (vt_w (vw_or (vt_cmp (vc_eq g) (ve_var 0) (ve_var 3)) (vw_or (vt_cmp (vc_eq g) (ve_var 1) (ve_var 3)) (vw_or1 (vt_cmp (vc_ne g) (ve_mod (ve_var 0) (ve_var 2)) (ve_div (ve_var 1) (ve_var 2))))))) (vb_one (vs_ret (ve_var 3))) vb_nil)
  (vb_one (vs_ret (ve_add g (ve_mul (ve_div (ve_var 0) (ve_var 2)) (ve_var 2)) (ve_mod (ve_var 1) (ve_var 2))))))
theorem clo_ok (T : Tx K mg Γ base) : CloOk P w K mg base Γ 1 cdn := ⟨fun n f FO c q cl fr h => by
  rw [T.hC] at h
  match n, h with
  | 0, h =>
    obtain ⟨rfl, rfl, rfl⟩ := h
    exact ⟨_, ck_0 T f c cl, by decide⟩
  | 1, h =>
    obtain ⟨rfl, rfl, rfl⟩ := h
    exact ⟨_, ck_1 T f c cl, by decide⟩
  | 2, h =>
    obtain ⟨rfl, rfl, rfl⟩ := h
    exact ⟨_, ck_2 T f c cl, by decide⟩
  | 3, h =>
    obtain ⟨rfl, rfl, rfl⟩ := h
    exact ⟨_, ck_3 T f c cl, by decide⟩
  | 4, h =>
    obtain ⟨rfl, rfl, rfl⟩ := h
    exact ⟨_, ck_4 T f c cl, by decide⟩
  | 5, h =>
    obtain ⟨rfl, rfl, rfl⟩ := h
    exact ⟨_, ck_5 T f c cl, by decide⟩
  | 6, h =>
    obtain ⟨rfl, rfl, rfl⟩ := h
    exact ⟨_, ck_6 T f c cl, by decide⟩
  | n + 7, h => exact h.elim⟩

/-! _by_rule -/
def s__by_rule : Ev → Mo Fl := (seqS (exprS (opLD g_refuse_large (consA (getD 0) nilA)))
  (retS (makeE 0 g_Semigroup___init__ (consA (asL (compD (overR range1 (consA (getD 0) nilA)) hName [2] yesT (asL (compD (overR range1 (consA (getD 0) nilA)) hName [3] yesT (callX cdn 1 (consA (getD 2) (consA (getD 3) nilA))) [3])) [2])) nilA))))
def g__by_rule : List D → Mo D := runD 4 s__by_rule
theorem sc__by_rule : FnScope ["n", "times", "x", "y"] ["n", "times"] (defScope (topS 23)) := ⟨rfl, rfl, rfl, by decide +kernel, rfl, by decide +kernel, by decide +kernel⟩
theorem ok__by_rule (T : Tx K mg Γ base) : Fd P w K mg base Γ "_by_rule" 6 2 g__by_rule := by
  obtain ⟨f, fd, F, hm, hb⟩ := T.f__by_rule
  refine ⟨f, fd, _, fnD F sc__by_rule T.hK rfl (by decide) (fun cdv A outer s H E hr g => ?_), hm, F.kp, hb⟩
  exact (vb_cons (vs_expr (ve_fn g (fun _ => ok_refuse_large T) (by decide) (van_cons (ve_var 0) van_nil)))
  (vb_one (vs_ret (ve_make g (fun _ => oki_Semigroup T) (by decide) (van_cons (ve_new (vf_lc (own := [("x", 2)]) g (vi_range1 (fun _ => T.n_range) (va_cons (ve_var 0) va_nil)) (fun _ => blkOk_by (by first | rfl | decide +kernel)) (vg_name 2 (g.blk _).nd) vts_nil (ve_new (vf_lc (own := [("y", 3)]) (g.blk _) (vi_range1 (fun _ => T.n_range) (va_cons (ve_var 0) va_nil)) (fun _ => blkOk_by (by first | rfl | decide +kernel)) (vg_name 3 ((g.blk _).blk _).nd) vts_nil (ve_callX 1 ((g.blk _).blk _) (fun _ => clo_ok T) (by decide) (va_cons (ve_var 2) (va_cons (ve_var 3) va_nil))))))) van_nil)))))

/-! null_semigroup -/
def s_null_semigroup : Ev → Mo Fl := (seqS (exprS (opLD g__need_sizes (consA (opLD tupD (consA (getD 0) nilA)) nilA)))
  (retS (callH g__by_rule 0 [] (getD 0))))
def g_null_semigroup : List D → Mo D := runD 1 s_null_semigroup
theorem sc_null_semigroup : FnScope ["n"] ["n"] (defScope (topS 16)) := ⟨rfl, rfl, rfl, by decide +kernel, rfl, by decide +kernel, by decide +kernel⟩
theorem ok_null_semigroup (T : Tx K mg Γ base) : Fd P w K mg base Γ "null_semigroup" 7 1 g_null_semigroup := by
  obtain ⟨f, fd, F, hm, hb, mt⟩ := T.f_null_semigroup
  refine ⟨f, fd, _, fnDC F sc_null_semigroup T.hK rfl (by decide) (fun A outer s H E hr g => ?_), hm, F.kp, hb⟩
  exact (vb_cons (vs_expr (ve_fn g (fun _ => ok__need_sizes T) (by decide) (van_cons (ve_tup (va_cons (ve_var 0) va_nil)) van_nil)))
  (vb_one (vs_ret (ve_lamH 0 [] [] g (ok__by_rule T) (by decide) (ve_var 0) mt (fun _ _ => by rw [T.hC]; exact ⟨rfl, rfl, rfl⟩) (by show NdefX.ndefB (defScope (topS 16)) _ _ = true; decide +kernel)))))

/-! left_zero -/
def s_left_zero : Ev → Mo Fl := (seqS (exprS (opLD g__need_sizes (consA (opLD tupD (consA (getD 0) nilA)) nilA)))
  (retS (callH g__by_rule 1 [] (getD 0))))
def g_left_zero : List D → Mo D := runD 1 s_left_zero
theorem sc_left_zero : FnScope ["n"] ["n"] (defScope (topS 17)) := ⟨rfl, rfl, rfl, by decide +kernel, rfl, by decide +kernel, by decide +kernel⟩
theorem ok_left_zero (T : Tx K mg Γ base) : Fd P w K mg base Γ "left_zero" 7 1 g_left_zero := by
  obtain ⟨f, fd, F, hm, hb, mt⟩ := T.f_left_zero
  refine ⟨f, fd, _, fnDC F sc_left_zero T.hK rfl (by decide) (fun A outer s H E hr g => ?_), hm, F.kp, hb⟩
  exact (vb_cons (vs_expr (ve_fn g (fun _ => ok__need_sizes T) (by decide) (van_cons (ve_tup (va_cons (ve_var 0) va_nil)) van_nil)))
  (vb_one (vs_ret (ve_lamH 1 [] [] g (ok__by_rule T) (by decide) (ve_var 0) mt (fun _ _ => by rw [T.hC]; exact ⟨rfl, rfl, rfl⟩) (by show NdefX.ndefB (defScope (topS 17)) _ _ = true; decide +kernel)))))

/-! right_zero -/
def s_right_zero : Ev → Mo Fl := (seqS (exprS (opLD g__need_sizes (consA (opLD tupD (consA (getD 0) nilA)) nilA)))
  (retS (callH g__by_rule 2 [] (getD 0))))
def g_right_zero : List D → Mo D := runD 1 s_right_zero
theorem sc_right_zero : FnScope ["n"] ["n"] (defScope (topS 18)) := ⟨rfl, rfl, rfl, by decide +kernel, rfl, by decide +kernel, by decide +kernel⟩
theorem ok_right_zero (T : Tx K mg Γ base) : Fd P w K mg base Γ "right_zero" 7 1 g_right_zero := by
  obtain ⟨f, fd, F, hm, hb, mt⟩ := T.f_right_zero
  refine ⟨f, fd, _, fnDC F sc_right_zero T.hK rfl (by decide) (fun A outer s H E hr g => ?_), hm, F.kp, hb⟩
  exact (vb_cons (vs_expr (ve_fn g (fun _ => ok__need_sizes T) (by decide) (van_cons (ve_tup (va_cons (ve_var 0) va_nil)) van_nil)))
  (vb_one (vs_ret (ve_lamH 2 [] [] g (ok__by_rule T) (by decide) (ve_var 0) mt (fun _ _ => by rw [T.hC]; exact ⟨rfl, rfl, rfl⟩) (by show NdefX.ndefB (defScope (topS 18)) _ _ = true; decide +kernel)))))

/-! cyclic_group -/
def s_cyclic_group : Ev → Mo Fl := (seqS (exprS (opLD g__need_sizes (consA (opLD tupD (consA (getD 0) nilA)) nilA)))
  (retS (callH g__by_rule 3 [0] (getD 0))))
def g_cyclic_group : List D → Mo D := runD 1 s_cyclic_group
theorem sc_cyclic_group : FnScope ["n"] ["n"] (defScope (topS 19)) := ⟨rfl, rfl, rfl, by decide +kernel, rfl, by decide +kernel, by decide +kernel⟩
theorem ok_cyclic_group (T : Tx K mg Γ base) : Fd P w K mg base Γ "cyclic_group" 7 1 g_cyclic_group := by
  obtain ⟨f, fd, F, hm, hb, mt⟩ := T.f_cyclic_group
  refine ⟨f, fd, _, fnDC F sc_cyclic_group T.hK rfl (by decide) (fun A outer s H E hr g => ?_), hm, F.kp, hb⟩
  exact (vb_cons (vs_expr (ve_fn g (fun _ => ok__need_sizes T) (by decide) (van_cons (ve_tup (va_cons (ve_var 0) va_nil)) van_nil)))
  (vb_one (vs_ret (ve_lamH 3 [0] ["n"] g (ok__by_rule T) (by decide) (ve_var 0) mt (fun _ _ => by rw [T.hC]; exact ⟨rfl, rfl, rfl⟩) (by show NdefX.ndefB (defScope (topS 19)) _ _ = true; decide +kernel)))))

/-! brandt -/
def s_brandt : Ev → Mo Fl := (seqS (exprS (opLD g__need_sizes (consA (opLD tupD (consA (getD 0) nilA)) nilA)))
  (seqS (setS 2 (op2D mulD (getD 0) (getD 0)))
  (ndefS 1 (callH g__by_rule 6 [0, 2] (op2D addD (getD 2) (cD (.int 1)))))))
def g_brandt : List D → Mo D := runD 3 s_brandt
theorem sc_brandt : FnScope ["m", "times", "last"] ["m"] (defScope (topS 22)) := ⟨rfl, rfl, rfl, by decide +kernel, rfl, by decide +kernel, by decide +kernel⟩
theorem ok_brandt (T : Tx K mg Γ base) : Fd P w K mg base Γ "brandt" 7 1 g_brandt := by
  obtain ⟨f, fd, F, hm, hb, mt⟩ := T.f_brandt
  refine ⟨f, fd, _, fnDC F sc_brandt T.hK rfl (by decide) (fun A outer s H E hr g => ?_), hm, F.kp, hb⟩
  exact (vb_cons (vs_expr (ve_fn g (fun _ => ok__need_sizes T) (by decide) (van_cons (ve_tup (va_cons (ve_var 0) va_nil)) van_nil)))
  (vb_cons (vs_set 2 g (ve_mul (ve_var 0) (ve_var 0)))
  (vb_ndefH 1 6 [0, 2] ["m", "last"] g (ok__by_rule T) (by decide) (ve_add g (ve_var 2) ve_int) mt (fun _ _ => by rw [T.hC]; exact ⟨rfl, rfl, rfl⟩) (by show NdefX.ndefB (defScope (topS 22)) _ _ = true; decide +kernel))))

/-! rectangular_band -/
def s_rectangular_band : Ev → Mo Fl := (seqS (exprS (opLD g__need_sizes (consA (opLD tupD (consA (getD 0) (consA (getD 1) nilA))) nilA)))
  (retS (callH g__by_rule 4 [1] (op2D mulD (getD 0) (getD 1)))))
def g_rectangular_band : List D → Mo D := runD 2 s_rectangular_band
theorem sc_rectangular_band : FnScope ["m", "k"] ["m", "k"] (defScope (topS 20)) := ⟨rfl, rfl, rfl, by decide +kernel, rfl, by decide +kernel, by decide +kernel⟩
theorem ok_rectangular_band (T : Tx K mg Γ base) : Fd P w K mg base Γ "rectangular_band" 7 2 g_rectangular_band := by
  obtain ⟨f, fd, F, hm, hb, mt⟩ := T.f_rectangular_band
  refine ⟨f, fd, _, fnDC F sc_rectangular_band T.hK rfl (by decide) (fun A outer s H E hr g => ?_), hm, F.kp, hb⟩
  exact (vb_cons (vs_expr (ve_fn g (fun _ => ok__need_sizes T) (by decide) (van_cons (ve_tup (va_cons (ve_var 0) (va_cons (ve_var 1) va_nil))) van_nil)))
  (vb_one (vs_ret (ve_lamH 4 [1] ["k"] g (ok__by_rule T) (by decide) (ve_mul (ve_var 0) (ve_var 1)) mt (fun _ _ => by rw [T.hC]; exact ⟨rfl, rfl, rfl⟩) (by show NdefX.ndefB (defScope (topS 20)) _ _ = true; decide +kernel)))))

/-! monogenic -/
def s_monogenic : Ev → Mo Fl := (seqS (exprS (opLD g__need_sizes (consA (opLD tupD (consA (getD 0) (consA (getD 1) nilA))) nilA)))
  (seqS (setS 3 (op2D subD (op2D addD (getD 0) (getD 1)) (cD (.int 1))))
  (ndefS 2 (callH g__by_rule 5 [0, 1, 3] (getD 3)))))
def g_monogenic : List D → Mo D := runD 4 s_monogenic
theorem sc_monogenic : FnScope ["index", "period", "times", "n"] ["index", "period"] (defScope (topS 21)) := ⟨rfl, rfl, rfl, by decide +kernel, rfl, by decide +kernel, by decide +kernel⟩
theorem ok_monogenic (T : Tx K mg Γ base) : Fd P w K mg base Γ "monogenic" 7 2 g_monogenic := by
  obtain ⟨f, fd, F, hm, hb, mt⟩ := T.f_monogenic
  refine ⟨f, fd, _, fnDC F sc_monogenic T.hK rfl (by decide) (fun A outer s H E hr g => ?_), hm, F.kp, hb⟩
  exact (vb_cons (vs_expr (ve_fn g (fun _ => ok__need_sizes T) (by decide) (van_cons (ve_tup (va_cons (ve_var 0) (va_cons (ve_var 1) va_nil))) van_nil)))
  (vb_cons (vs_set 3 g (ve_sub (ve_add g (ve_var 0) (ve_var 1)) ve_int))
  (vb_ndefH 2 5 [0, 1, 3] ["index", "period", "n"] g (ok__by_rule T) (by decide) (ve_var 3) mt (fun _ _ => by rw [T.hC]; exact ⟨rfl, rfl, rfl⟩) (by show NdefX.ndefB (defScope (topS 21)) _ _ = true; decide +kernel))))

/-! _law_reason -/
def s__law_reason : Ev → Mo Fl := (seqS (tryRS (some (.str "malformed")) ret (seqS (ifS (testD (op2D eqD (getD 0) (cD (.int 0)))) (exprS (opLD g_null_semigroup (consA (getD 1) nilA))) nextS)
  (seqS (ifS (testD (op2D eqD (getD 0) (cD (.int 1)))) (exprS (opLD g_left_zero (consA (getD 1) nilA))) nextS)
  (seqS (ifS (testD (op2D eqD (getD 0) (cD (.int 2)))) (exprS (opLD g_right_zero (consA (getD 1) nilA))) nextS)
  (seqS (ifS (testD (op2D eqD (getD 0) (cD (.int 3)))) (exprS (opLD g_cyclic_group (consA (getD 1) nilA))) nextS)
  (seqS (ifS (testD (op2D eqD (getD 0) (cD (.int 4)))) (exprS (opLD g_brandt (consA (getD 1) nilA))) nextS)
  (seqS (ifS (testD (op2D eqD (getD 0) (cD (.int 5)))) (exprS (opLD g_rectangular_band (consA (getD 1) (consA (getD 2) nilA)))) nextS)
  (ifS (testD (op2D eqD (getD 0) (cD (.int 6)))) (exprS (opLD g_monogenic (consA (getD 1) (consA (getD 2) nilA)))) nextS))))))))
  (retS (cD (.str "none"))))
def g__law_reason : List D → Mo D := runD 4 s__law_reason
theorem sc__law_reason : FnScope ["which", "n", "k", "e"] ["which", "n", "k"] (defScope (topS 28)) := ⟨rfl, rfl, rfl, by decide +kernel, rfl, by decide +kernel, by decide +kernel⟩
theorem ok__law_reason (T : Tx K mg Γ base) : Fd P w K mg base Γ "_law_reason" 8 3 g__law_reason := by
  obtain ⟨f, fd, F, hm, hb⟩ := T.f__law_reason
  refine ⟨f, fd, _, fnD F sc__law_reason T.hK rfl (by decide) (fun cdv A outer s H E hr g => ?_), hm, F.kp, hb⟩
  exact (vb_cons (vs_tryMR 3 g (fun _ => T.x_Malformed) (fun _ => T.x_Refused) (by rw [T.hK]; exact T.x_Malformed.e) (by rw [T.hK]; exact T.n_21) (by rw [T.hK]; exact T.x_Refused.e) (fun _ _ => .str _) (fun _ => pe_str) (su_reason (fun _ => T.x_Refused)) (fun E g => (vb_cons (vs_if (vt_cmp (vc_eq g) (ve_var 0) ve_int) (vb_one (vs_expr (ve_fn g (fun _ => ok_null_semigroup T) (by decide) (van_cons (ve_var 1) van_nil)))) vb_nil)
  (vb_cons (vs_if (vt_cmp (vc_eq g) (ve_var 0) ve_int) (vb_one (vs_expr (ve_fn g (fun _ => ok_left_zero T) (by decide) (van_cons (ve_var 1) van_nil)))) vb_nil)
  (vb_cons (vs_if (vt_cmp (vc_eq g) (ve_var 0) ve_int) (vb_one (vs_expr (ve_fn g (fun _ => ok_right_zero T) (by decide) (van_cons (ve_var 1) van_nil)))) vb_nil)
  (vb_cons (vs_if (vt_cmp (vc_eq g) (ve_var 0) ve_int) (vb_one (vs_expr (ve_fn g (fun _ => ok_cyclic_group T) (by decide) (van_cons (ve_var 1) van_nil)))) vb_nil)
  (vb_cons (vs_if (vt_cmp (vc_eq g) (ve_var 0) ve_int) (vb_one (vs_expr (ve_fn g (fun _ => ok_brandt T) (by decide) (van_cons (ve_var 1) van_nil)))) vb_nil)
  (vb_cons (vs_if (vt_cmp (vc_eq g) (ve_var 0) ve_int) (vb_one (vs_expr (ve_fn g (fun _ => ok_rectangular_band T) (by decide) (van_cons (ve_var 1) (van_cons (ve_var 2) van_nil))))) vb_nil)
  (vb_one (vs_if (vt_cmp (vc_eq g) (ve_var 0) ve_int) (vb_one (vs_expr (ve_fn g (fun _ => ok_monogenic T) (by decide) (van_cons (ve_var 1) (van_cons (ve_var 2) van_nil))))) vb_nil))))))))))
  (vb_one (vs_ret ve_str)))

/-! _law_refusals -/
def s__law_refusals : Ev → Mo Fl := (seqS (forS (overS (opLD lstD (consA (cD (.int 0)) (consA (op1D negD (cD (.int 1))) (consA (cD .non) (consA (cD (.bl true)) (consA (cD (.str "1")) (consA (opLD tupD (consA (cD (.int 1)) nilA)) nilA)))))))) hName [0] (forS (overR range1 (consA (cD (.int 7)) nilA)) hName [1] (ifS (orT (testD (op2D neD (opLD g__law_reason (consA (getD 1) (consA (getD 0) (consA (cD (.int 1)) nilA)))) (cD (.str "malformed")))) (andT (testD (op2D gtD (getD 1) (cD (.int 4)))) (testD (op2D neD (opLD g__law_reason (consA (getD 1) (consA (cD (.int 30)) (consA (getD 0) nilA)))) (cD (.str "malformed")))))) (retS (cD (.bl false))) nextS)))
  (seqS (forS (overR range1 (consA (cD (.int 4)) nilA)) hName [1] (ifS (orT (testD (op2D neD (opLD g__law_reason (consA (getD 1) (consA (cD (.int 25)) (consA (cD .non) nilA)))) (cD (.str "large")))) (testD (op2D neD (opLD g__law_reason (consA (getD 1) (consA (cD (.int 24)) (consA (cD .non) nilA)))) (cD (.str "none"))))) (retS (cD (.bl false))) nextS))
  (seqS (ifS (orT (testD (op2D neD (opLD g__law_reason (consA (cD (.int 4)) (consA (cD (.int 5)) (consA (cD .non) nilA)))) (cD (.str "large")))) (orT (testD (op2D neD (opLD g__law_reason (consA (cD (.int 4)) (consA (cD (.int 4)) (consA (cD .non) nilA)))) (cD (.str "none")))) (testD (op2D neD (opLD g__law_reason (consA (cD (.int 5)) (consA (cD (.int 5)) (consA (cD (.int 5)) nilA)))) (cD (.str "large")))))) (retS (cD (.bl false))) nextS)
  (retS (andV (op2D eqD (opLD g__law_reason (consA (cD (.int 5)) (consA (cD (.int 4)) (consA (cD (.int 6)) nilA)))) (cD (.str "none"))) (andV (op2D eqD (opLD g__law_reason (consA (cD (.int 6)) (consA (cD (.int 20)) (consA (cD (.int 6)) nilA)))) (cD (.str "large"))) (op2D eqD (opLD g__law_reason (consA (cD (.int 6)) (consA (cD (.int 20)) (consA (cD (.int 5)) nilA)))) (cD (.str "none")))))))))
def g__law_refusals : List D → Mo D := runD 2 s__law_refusals
theorem sc__law_refusals : FnScope ["value", "which"] [] (defScope (topS 31)) := ⟨rfl, rfl, rfl, by decide +kernel, rfl, by decide +kernel, by decide +kernel⟩
theorem ok__law_refusals (T : Tx K mg Γ base) : Fd P w K mg base Γ "_law_refusals" 9 0 g__law_refusals := by
  obtain ⟨f, fd, F, hm, hb⟩ := T.f__law_refusals
  refine ⟨f, fd, _, fnD F sc__law_refusals T.hK rfl (by decide) (fun cdv A outer s H E hr g => ?_), hm, F.kp, hb⟩
  exact (vb_cons (vs_for g (vi_seq g (ve_lst (va_cons ve_int (va_cons (ve_neg ve_int) (va_cons ve_non (va_cons ve_bl (va_cons ve_str (va_cons (ve_tup (va_cons ve_int va_nil)) va_nil)))))))) (vg_name 0 g.nd) (vb_one (vs_for g (vi_range1 (fun _ => T.n_range) (va_cons ve_int va_nil)) (vg_name 1 g.nd) (vb_one (vs_if (vt_w (vw_or (vt_cmp (vc_ne g) (ve_fn g (fun _ => ok__law_reason T) (by decide) (van_cons (ve_var 1) (van_cons (ve_var 0) (van_cons ve_int van_nil)))) ve_str) (vw_or1 (vt_w (vw_and (vt_cmp (vc_gt) (ve_var 1) ve_int) (vw_and1 (vt_cmp (vc_ne g) (ve_fn g (fun _ => ok__law_reason T) (by decide) (van_cons (ve_var 1) (van_cons ve_int (van_cons (ve_var 0) van_nil)))) ve_str))))))) (vb_one (vs_ret ve_bl)) vb_nil)))))
  (vb_cons (vs_for g (vi_range1 (fun _ => T.n_range) (va_cons ve_int va_nil)) (vg_name 1 g.nd) (vb_one (vs_if (vt_w (vw_or (vt_cmp (vc_ne g) (ve_fn g (fun _ => ok__law_reason T) (by decide) (van_cons (ve_var 1) (van_cons ve_int (van_cons ve_non van_nil)))) ve_str) (vw_or1 (vt_cmp (vc_ne g) (ve_fn g (fun _ => ok__law_reason T) (by decide) (van_cons (ve_var 1) (van_cons ve_int (van_cons ve_non van_nil)))) ve_str)))) (vb_one (vs_ret ve_bl)) vb_nil)))
  (vb_cons (vs_if (vt_w (vw_or (vt_cmp (vc_ne g) (ve_fn g (fun _ => ok__law_reason T) (by decide) (van_cons ve_int (van_cons ve_int (van_cons ve_non van_nil)))) ve_str) (vw_or (vt_cmp (vc_ne g) (ve_fn g (fun _ => ok__law_reason T) (by decide) (van_cons ve_int (van_cons ve_int (van_cons ve_non van_nil)))) ve_str) (vw_or1 (vt_cmp (vc_ne g) (ve_fn g (fun _ => ok__law_reason T) (by decide) (van_cons ve_int (van_cons ve_int (van_cons ve_int van_nil)))) ve_str))))) (vb_one (vs_ret ve_bl)) vb_nil)
  (vb_one (vs_ret (ve_and (ve_cmp (vc_eq g) (ve_fn g (fun _ => ok__law_reason T) (by decide) (van_cons ve_int (van_cons ve_int (van_cons ve_int van_nil)))) ve_str) (ve_and (ve_cmp (vc_eq g) (ve_fn g (fun _ => ok__law_reason T) (by decide) (van_cons ve_int (van_cons ve_int (van_cons ve_int van_nil)))) ve_str) (ve_one (ve_cmp (vc_eq g) (ve_fn g (fun _ => ok__law_reason T) (by decide) (van_cons ve_int (van_cons ve_int (van_cons ve_int van_nil)))) ve_str)))))))))

/-! _law_band -/
def s__law_band : Ev → Mo Fl := (seqS (setS 2 (opLD lstD nilA))
  (seqS (forS (overR range1 (consA (getD 0) nilA)) hName [3] (setS 2 (op2D addD (getD 2) (asL (compD (overR range1 (consA (getD 1) nilA)) hName [5] yesT (opLD tupD (consA (getD 3) (consA (getD 5) nilA))) [5])))))
  (retS (opLD tupleD (consA (asL (compD (overS (getD 2)) hName [4] yesT (opLD tupleD (consA (asL (compD (overS (getD 2)) hName [6] yesT (indexE (getD 2) (opLD tupD (consA (op2D ixD (getD 4) (cD (.int 0))) (consA (op2D ixD (getD 6) (cD (.int 1))) nilA)))) [6])) nilA)) [4])) nilA)))))
def g__law_band : List D → Mo D := runD 7 s__law_band
theorem sc__law_band : FnScope ["m", "k", "pairs", "i", "x", "j", "y"] ["m", "k"] (defScope (topS 29)) := ⟨rfl, rfl, rfl, by decide +kernel, rfl, by decide +kernel, by decide +kernel⟩
theorem ok__law_band (T : Tx K mg Γ base) : Fd P w K mg base Γ "_law_band" 1 2 g__law_band := by
  obtain ⟨f, fd, F, hm, hb⟩ := T.f__law_band
  refine ⟨f, fd, _, fnD F sc__law_band T.hK rfl (by decide) (fun cdv A outer s H E hr g => ?_), hm, F.kp, hb⟩
  exact (vb_cons (vs_set 2 g (ve_lst va_nil))
  (vb_cons (vs_for g (vi_range1 (fun _ => T.n_range) (va_cons (ve_var 0) va_nil)) (vg_name 3 g.nd) (vb_one (vs_set 2 g (ve_add g (ve_var 2) (ve_new (vf_lc (own := [("j", 5)]) g (vi_range1 (fun _ => T.n_range) (va_cons (ve_var 1) va_nil)) (fun _ => blkOk_by (by first | rfl | decide +kernel)) (vg_name 5 (g.blk _).nd) vts_nil (ve_tup (va_cons (ve_var 3) (va_cons (ve_var 5) va_nil)))))))))
  (vb_one (vs_ret (ve_tuple g (fun _ => T.n_tuple) (va_cons (ve_new (vf_lc (own := [("x", 4)]) g (vi_seq g (ve_var 2)) (fun _ => blkOk_by (by first | rfl | decide +kernel)) (vg_name 4 (g.blk _).nd) vts_nil (ve_tuple (g.blk _) (fun _ => T.n_tuple) (va_cons (ve_new (vf_lc (own := [("y", 6)]) (g.blk _) (vi_seq (g.blk _) (ve_var 2)) (fun _ => blkOk_by (by first | rfl | decide +kernel)) (vg_name 6 ((g.blk _).blk _).nd) vts_nil (ve_index ((g.blk _).blk _) (ve_var 2) (ve_tup (va_cons (ve_ix ((g.blk _).blk _) (ve_var 4) ve_int) (va_cons (ve_ix ((g.blk _).blk _) (ve_var 6) ve_int) va_nil)))))) va_nil)))) va_nil))))))

/-! _law_brandt -/
def s__law_brandt : Ev → Mo Fl := (seqS (setS 1 (opLD lstD nilA))
  (seqS (forS (overR range1 (consA (getD 0) nilA)) hName [2] (setS 1 (op2D addD (getD 1) (asL (compD (overR range1 (consA (getD 0) nilA)) hName [4] yesT (opLD tupD (consA (getD 2) (consA (getD 4) nilA))) [4])))))
  (seqS (setOwnS 3 (fun env => bnd (nilA env) fun as => if as.length ≤ 1000 then ret as else bad))
  (seqS (forS (overS (getD 1)) (hTup 2 (hCons hName (hCons hName hNil))) [2, 4] (seqS (setOwnS 5 (fun env => bnd (nilA env) fun as => if as.length ≤ 1000 then ret as else bad))
  (seqS (forS (overS (getD 1)) (hTup 2 (hCons hName (hCons hName hNil))) [6, 7] (appendS 5 (ifD (testD (op2D eqD (getD 4) (getD 6))) (indexE (getD 1) (opLD tupD (consA (getD 2) (consA (getD 7) nilA)))) (op2D mulD (getD 0) (getD 0)))))
  (fun env => (appendS 3 (opLD tupleD (consA (op2D addD (getD 5) (opLD lstD (consA (op2D mulD (getD 0) (getD 0)) nilA))) nilA))) (frz 5 env)))))
  (fun env => (retS (opLD tupleD (consA (op2D addD (getD 3) (opLD lstD (consA (opLD tupleD (consA (asL (compD (overR range1 (consA (op2D addD (op2D mulD (getD 0) (getD 0)) (cD (.int 1))) nilA)) hName [8] yesT (op2D mulD (getD 0) (getD 0)) [8])) nilA)) nilA))) nilA))) (frz 3 env))))))
def g__law_brandt : List D → Mo D := runD 9 s__law_brandt
theorem sc__law_brandt : FnScope ["m", "pairs", "i", "rows", "j", "row", "r", "s", "k"] ["m"] (defScope (topS 30)) := ⟨rfl, rfl, rfl, by decide +kernel, rfl, by decide +kernel, by decide +kernel⟩
theorem ok__law_brandt (T : Tx K mg Γ base) : Fd P w K mg base Γ "_law_brandt" 1 1 g__law_brandt := by
  obtain ⟨f, fd, F, hm, hb⟩ := T.f__law_brandt
  refine ⟨f, fd, _, fnD F sc__law_brandt T.hK rfl (by decide) (fun cdv A outer s H E hr g => ?_), hm, F.kp, hb⟩
  exact (vb_cons (vs_set 1 g (ve_lst va_nil))
  (vb_cons (vs_for g (vi_range1 (fun _ => T.n_range) (va_cons (ve_var 0) va_nil)) (vg_name 2 g.nd) (vb_one (vs_set 1 g (ve_add g (ve_var 1) (ve_new (vf_lc (own := [("j", 4)]) g (vi_range1 (fun _ => T.n_range) (va_cons (ve_var 0) va_nil)) (fun _ => blkOk_by (by first | rfl | decide +kernel)) (vg_name 4 (g.blk _).nd) vts_nil (ve_tup (va_cons (ve_var 2) (va_cons (ve_var 4) va_nil)))))))))
  (vb_cons (vs_setOwn 3 g (vf_lst va_nil))
  (vb_cons (vs_for g (vi_seq g (ve_var 1)) (vg_tup g (vgs_cons (vg_name 2 g.nd) (vgs_cons (vg_name 4 g.nd) vgs_nil))) (vb_cons (vs_setOwn 5 g (vf_lst va_nil))
  (vb_cons (vs_for g (vi_seq g (ve_var 1)) (vg_tup g (vgs_cons (vg_name 6 g.nd) (vgs_cons (vg_name 7 g.nd) vgs_nil))) (vb_one (vs_append 5 g (ve_ifx (vt_cmp (vc_eq g) (ve_var 4) (ve_var 6)) (ve_index g (ve_var 1) (ve_tup (va_cons (ve_var 2) (va_cons (ve_var 7) va_nil)))) (ve_mul (ve_var 0) (ve_var 0))))))
  (vb_frz 5 (vb_one (vs_append 3 g (ve_tuple g (fun _ => T.n_tuple) (va_cons (ve_add g (ve_var 5) (ve_lst (va_cons (ve_mul (ve_var 0) (ve_var 0)) va_nil))) va_nil))))))))
  (vb_frz 3 (vb_one (vs_ret (ve_tuple g (fun _ => T.n_tuple) (va_cons (ve_add g (ve_var 3) (ve_lst (va_cons (ve_tuple g (fun _ => T.n_tuple) (va_cons (ve_new (vf_lc (own := [("k", 8)]) g (vi_range1 (fun _ => T.n_range) (va_cons (ve_add g (ve_mul (ve_var 0) (ve_var 0)) ve_int) va_nil)) (fun _ => blkOk_by (by first | rfl | decide +kernel)) (vg_name 8 (g.blk _).nd) vts_nil (ve_mul (ve_var 0) (ve_var 0)))) va_nil)) va_nil))) va_nil)))))))))

/-! law -/
def s_law : Ev → Mo Fl := (seqS (setS 2 (op2D addD (cD (.int 1)) (opLD g__law_take (consA (getD 1) (consA (cD (.int 5)) nilA)))))
  (seqS (parS [3, 4] (consA (op2D addD (cD (.int 1)) (opLD g__law_take (consA (getD 1) (consA (cD (.int 3)) nilA)))) (consA (op2D addD (cD (.int 1)) (opLD g__law_take (consA (getD 1) (consA (cD (.int 3)) nilA)))) nilA)))
  (seqS (setOwnS 5 (fun env => bnd ((consA (opLD tupD (consA (opLD g_null_semigroup (consA (getD 2) nilA)) (consA (opLD tupleD (consA (asL (compD (overR range1 (consA (getD 2) nilA)) hName [8] yesT (opLD tupleD (consA (asL (compD (overR range1 (consA (getD 2) nilA)) hName [9] yesT (cD (.int 0)) [9])) nilA)) [8])) nilA)) nilA))) nilA) env) fun as => if as.length ≤ 1000 then ret as else bad))
  (seqS (appendS 5 (opLD tupD (consA (opLD g_left_zero (consA (getD 2) nilA)) (consA (opLD tupleD (consA (asL (compD (overR range1 (consA (getD 2) nilA)) hName [8] yesT (opLD tupleD (consA (asL (compD (overR range1 (consA (getD 2) nilA)) hName [9] yesT (getD 8) [9])) nilA)) [8])) nilA)) nilA))))
  (seqS (appendS 5 (opLD tupD (consA (opLD g_right_zero (consA (getD 2) nilA)) (consA (opLD tupleD (consA (asL (compD (overR range1 (consA (getD 2) nilA)) hName [8] yesT (opLD tupleD (consA (asL (compD (overR range1 (consA (getD 2) nilA)) hName [9] yesT (getD 9) [9])) nilA)) [8])) nilA)) nilA))))
  (seqS (appendS 5 (opLD tupD (consA (opLD g_cyclic_group (consA (getD 2) nilA)) (consA (opLD tupleD (consA (asL (compD (overR range1 (consA (getD 2) nilA)) hName [8] yesT (opLD tupleD (consA (asL (compD (overR range1 (consA (getD 2) nilA)) hName [9] yesT (op2D modD (opLD int1D (consA (op2D addD (getD 8) (getD 9)) nilA)) (getD 2)) [9])) nilA)) [8])) nilA)) nilA))))
  (seqS (appendS 5 (opLD tupD (consA (opLD g_rectangular_band (consA (getD 3) (consA (getD 4) nilA))) (consA (opLD g__law_band (consA (getD 3) (consA (getD 4) nilA))) nilA))))
  (seqS (appendS 5 (opLD tupD (consA (opLD g_brandt (consA (getD 3) nilA)) (consA (opLD g__law_brandt (consA (getD 3) nilA)) nilA))))
  (fun env => (seqS (forS (overS (getD 5)) (hTup 2 (hCons hName (hCons hName hNil))) [6, 7] (ifS (orT (notT (testD (op1D (isCD 0) (getD 6)))) (orT (testD (op2D neD (fldE 0 "table" (getD 6)) (getD 7))) (testD (op2D neD (fldE 0 "n" (getD 6)) (opLD lenD (consA (getD 7) nilA)))))) (retS (cD (.bl false))) nextS))
  (retS (orV (op2D gtD (opLD g__law_take (consA (getD 1) (consA (cD (.int 4)) nilA))) (cD (.int 0))) (opLD g__law_refusals nilA)))) (frz 5 env))))))))))
/-- what is left to show: the law's own answer, whatever the state -/
def LawTrue : Prop := ∀ s, ∃ s', s_law (.no :: .val .st :: List.replicate 8 .no) s = .ok (.rt (.bl true)) s'
theorem sc_law : FnScope ["script", "state", "n", "m", "k", "dues", "told", "due", "x", "y"] ["script"] (defScope (topS 32)) := ⟨rfl, rfl, rfl, by decide +kernel, rfl, by decide +kernel, by decide +kernel⟩
theorem ok_law {f : Addr} {fd : FuncData} (F : Fun K "law" "law" (topS 32) f fd) (T : Tx K mg Γ base) (L : LawTrue) : FnOk P w K mg base (L2.CX P w) 10 f fd ["script"] (spLaw K Γ.tabs) := by
  refine F.okX (k := 9) sc_law (fun vs H Q E h => ?_) (fun cdv A outer s H vs Q E hr h => ?_)
  · obtain ⟨a, ns, rfl, _⟩ := h
    rfl
  · obtain ⟨a, ns, rfl, hS, hl, hT, q⟩ := h
    have g : GX Γ (fun _ : Unit => cxOf (L2.CX P w) P w K mg base ["script", "state", "n", "m", "k", "dues", "told", "due", "x", "y"] "law" (defScope (topS 32)) f cdv A outer s H E) 9 E := ⟨fun _ => T.hK.symm, fun _ => rfl, fun _ => hr, fun _ => sc_law.nd, fun _ => takes_of rfl rfl rfl rfl, fun _ => passes_of rfl⟩
    have hv : VB Γ (fun _ : Unit => cxOf (L2.CX P w) P w K mg base ["script", "state", "n", "m", "k", "dues", "told", "due", "x", "y"] "law" (defScope (topS 32)) f cdv A outer s H E) E (defBody (topS 32)).tail s_law := by
      exact (vb_cons (vs_set 2 g (ve_add g ve_int (ve_fn g (fun _ => ok__law_take T) (by decide) (van_cons (ve_var 1) (van_cons ve_int van_nil)))))
  (vb_cons (vs_par 3 4 g (va_cons (ve_add g ve_int (ve_fn g (fun _ => ok__law_take T) (by decide) (van_cons (ve_var 1) (van_cons ve_int van_nil)))) (va_cons (ve_add g ve_int (ve_fn g (fun _ => ok__law_take T) (by decide) (van_cons (ve_var 1) (van_cons ve_int van_nil)))) va_nil)))
  (vb_cons (vs_setOwn 5 g (vf_lst (va_cons (ve_tup (va_cons (ve_fn g (fun _ => ok_null_semigroup T) (by decide) (van_cons (ve_var 2) van_nil)) (va_cons (ve_tuple g (fun _ => T.n_tuple) (va_cons (ve_new (vf_lc (own := [("x", 8)]) g (vi_range1 (fun _ => T.n_range) (va_cons (ve_var 2) va_nil)) (fun _ => blkOk_by (by first | rfl | decide +kernel)) (vg_name 8 (g.blk _).nd) vts_nil (ve_tuple (g.blk _) (fun _ => T.n_tuple) (va_cons (ve_new (vf_lc (own := [("y", 9)]) (g.blk _) (vi_range1 (fun _ => T.n_range) (va_cons (ve_var 2) va_nil)) (fun _ => blkOk_by (by first | rfl | decide +kernel)) (vg_name 9 ((g.blk _).blk _).nd) vts_nil ve_int)) va_nil)))) va_nil)) va_nil))) va_nil)))
  (vb_cons (vs_append 5 g (ve_tup (va_cons (ve_fn g (fun _ => ok_left_zero T) (by decide) (van_cons (ve_var 2) van_nil)) (va_cons (ve_tuple g (fun _ => T.n_tuple) (va_cons (ve_new (vf_lc (own := [("x", 8)]) g (vi_range1 (fun _ => T.n_range) (va_cons (ve_var 2) va_nil)) (fun _ => blkOk_by (by first | rfl | decide +kernel)) (vg_name 8 (g.blk _).nd) vts_nil (ve_tuple (g.blk _) (fun _ => T.n_tuple) (va_cons (ve_new (vf_lc (own := [("y", 9)]) (g.blk _) (vi_range1 (fun _ => T.n_range) (va_cons (ve_var 2) va_nil)) (fun _ => blkOk_by (by first | rfl | decide +kernel)) (vg_name 9 ((g.blk _).blk _).nd) vts_nil (ve_var 8))) va_nil)))) va_nil)) va_nil))))
  (vb_cons (vs_append 5 g (ve_tup (va_cons (ve_fn g (fun _ => ok_right_zero T) (by decide) (van_cons (ve_var 2) van_nil)) (va_cons (ve_tuple g (fun _ => T.n_tuple) (va_cons (ve_new (vf_lc (own := [("x", 8)]) g (vi_range1 (fun _ => T.n_range) (va_cons (ve_var 2) va_nil)) (fun _ => blkOk_by (by first | rfl | decide +kernel)) (vg_name 8 (g.blk _).nd) vts_nil (ve_tuple (g.blk _) (fun _ => T.n_tuple) (va_cons (ve_new (vf_lc (own := [("y", 9)]) (g.blk _) (vi_range1 (fun _ => T.n_range) (va_cons (ve_var 2) va_nil)) (fun _ => blkOk_by (by first | rfl | decide +kernel)) (vg_name 9 ((g.blk _).blk _).nd) vts_nil (ve_var 9))) va_nil)))) va_nil)) va_nil))))
  (vb_cons (vs_append 5 g (ve_tup (va_cons (ve_fn g (fun _ => ok_cyclic_group T) (by decide) (van_cons (ve_var 2) van_nil)) (va_cons (ve_tuple g (fun _ => T.n_tuple) (va_cons (ve_new (vf_lc (own := [("x", 8)]) g (vi_range1 (fun _ => T.n_range) (va_cons (ve_var 2) va_nil)) (fun _ => blkOk_by (by first | rfl | decide +kernel)) (vg_name 8 (g.blk _).nd) vts_nil (ve_tuple (g.blk _) (fun _ => T.n_tuple) (va_cons (ve_new (vf_lc (own := [("y", 9)]) (g.blk _) (vi_range1 (fun _ => T.n_range) (va_cons (ve_var 2) va_nil)) (fun _ => blkOk_by (by first | rfl | decide +kernel)) (vg_name 9 ((g.blk _).blk _).nd) vts_nil (ve_mod (ve_callTy (fun _ => call_int1) (fun _ => ol_int) (fun _ => T.n_int) (va_cons (ve_add ((g.blk _).blk _) (ve_var 8) (ve_var 9)) va_nil)) (ve_var 2)))) va_nil)))) va_nil)) va_nil))))
  (vb_cons (vs_append 5 g (ve_tup (va_cons (ve_fn g (fun _ => ok_rectangular_band T) (by decide) (van_cons (ve_var 3) (van_cons (ve_var 4) van_nil))) (va_cons (ve_fn g (fun _ => ok__law_band T) (by decide) (van_cons (ve_var 3) (van_cons (ve_var 4) van_nil))) va_nil))))
  (vb_cons (vs_append 5 g (ve_tup (va_cons (ve_fn g (fun _ => ok_brandt T) (by decide) (van_cons (ve_var 3) van_nil)) (va_cons (ve_fn g (fun _ => ok__law_brandt T) (by decide) (van_cons (ve_var 3) van_nil)) va_nil))))
  (vb_frz 5 (vb_cons (vs_for g (vi_seq g (ve_var 5)) (vg_tup g (vgs_cons (vg_name 6 g.nd) (vgs_cons (vg_name 7 g.nd) vgs_nil))) (vb_one (vs_if (vt_w (vw_or (vt_not (vt_val (ve_isC 0 g (fun _ => T.n_isinstance) T.i_0 (fun _ => T.m_Semigroup) (ve_var 6)))) (vw_or (vt_cmp (vc_ne g) (ve_fld 0 g T.c_0 (ve_var 6)) (ve_var 7)) (vw_or1 (vt_cmp (vc_ne g) (ve_fld 0 g T.c_0 (ve_var 6)) (ve_callB (cr_len g) (fun sa => ol_len (Γ := Γ.at sa)) (fun _ => T.n_len) (va_cons (ve_var 7) va_nil))))))) (vb_one (vs_ret ve_bl)) vb_nil)))
  (vb_one (vs_ret (ve_or (ve_cmp (vc_gt) (ve_fn g (fun _ => ok__law_take T) (by decide) (van_cons (ve_var 1) (van_cons ve_int van_nil))) ve_int) (ve_one (ve_fn0 g (fun _ => ok__law_refusals T) (by decide))))))))))))))))
    obtain ⟨t, pt, dt⟩ := hv.ex
    obtain ⟨f1, fd1, F1, m1, b1⟩ := T.f__law_state
    refine ⟨_, pss_cons (ps_set (i := 1) sc_law.nd rfl (by first | exact .inl rfl | exact .inr rfl) (pe_call (ok__law_state F1 T.n_abs T.n_int) (hr.mono (by decide)) (by rfl) m1 F1.kp b1 .nil (passes_call (g.tk ()) fun _ _ _ _ h => h) (pa_cons (pv 0) pa_nil))) (pt ()), ?_⟩
    refine ⟨.ref a, rfl, a, ns, rfl, hS, hl, fun H1 p x y np ha hb hp => ?_⟩
    obtain ⟨s', e⟩ := L (x, y)
    refine dt (p, p) H1 (m0 Γ p) [] (fun _ => []) _ _ H1 (x, y) _ (law_rep (n := 8) rfl rfl hp (hT.later ha hb)) ?_
    rw [e]
    intro v H2 _ _ r
    cases r
    exact q H2

end
end G

namespace G
open PySem PySem.Spec PyProof.Rows L2
theorem loop_nx {h : D → Option (List D)} {js : List Nat} {body : Ev → Mo Fl} {d : D} {r xs : List D} {env e : Ev} (hd : h d = some xs) (hb : body (setsE js xs env) = ret (.nx e)) : loopD h js body (d :: r) env = loopD h js body r e := by
  conv => lhs; unfold loopD
  rw [hd]
  show bnd (ret xs) _ = _
  rw [bnd_ret, hb, bnd_ret]
def rf_0 : Ev → Mo Fl := (forS (overS (opLD lstD (consA (cD (.int 0)) (consA (op1D negD (cD (.int 1))) (consA (cD .non) (consA (cD (.bl true)) (consA (cD (.str "1")) (consA (opLD tupD (consA (cD (.int 1)) nilA)) nilA)))))))) hName [0] (forS (overR range1 (consA (cD (.int 7)) nilA)) hName [1] (ifS (orT (testD (op2D neD (opLD g__law_reason (consA (getD 1) (consA (getD 0) (consA (cD (.int 1)) nilA)))) (cD (.str "malformed")))) (andT (testD (op2D gtD (getD 1) (cD (.int 4)))) (testD (op2D neD (opLD g__law_reason (consA (getD 1) (consA (cD (.int 30)) (consA (getD 0) nilA)))) (cD (.str "malformed")))))) (retS (cD (.bl false))) nextS)))
def rf_1 : Ev → Mo Fl := (forS (overR range1 (consA (cD (.int 4)) nilA)) hName [1] (ifS (orT (testD (op2D neD (opLD g__law_reason (consA (getD 1) (consA (cD (.int 25)) (consA (cD .non) nilA)))) (cD (.str "large")))) (testD (op2D neD (opLD g__law_reason (consA (getD 1) (consA (cD (.int 24)) (consA (cD .non) nilA)))) (cD (.str "none"))))) (retS (cD (.bl false))) nextS))
def rf_2 : Ev → Mo Fl := (ifS (orT (testD (op2D neD (opLD g__law_reason (consA (cD (.int 4)) (consA (cD (.int 5)) (consA (cD .non) nilA)))) (cD (.str "large")))) (orT (testD (op2D neD (opLD g__law_reason (consA (cD (.int 4)) (consA (cD (.int 4)) (consA (cD .non) nilA)))) (cD (.str "none")))) (testD (op2D neD (opLD g__law_reason (consA (cD (.int 5)) (consA (cD (.int 5)) (consA (cD (.int 5)) nilA)))) (cD (.str "large")))))) (retS (cD (.bl false))) nextS)
def rf_3 : Ev → Mo Fl := (retS (andV (op2D eqD (opLD g__law_reason (consA (cD (.int 5)) (consA (cD (.int 4)) (consA (cD (.int 6)) nilA)))) (cD (.str "none"))) (andV (op2D eqD (opLD g__law_reason (consA (cD (.int 6)) (consA (cD (.int 20)) (consA (cD (.int 6)) nilA)))) (cD (.str "large"))) (op2D eqD (opLD g__law_reason (consA (cD (.int 6)) (consA (cD (.int 20)) (consA (cD (.int 5)) nilA)))) (cD (.str "none"))))))
def rf_b : Ev → Mo Fl := (ifS (orT (testD (op2D neD (opLD g__law_reason (consA (getD 1) (consA (cD (.int 25)) (consA (cD .non) nilA)))) (cD (.str "large")))) (testD (op2D neD (opLD g__law_reason (consA (getD 1) (consA (cD (.int 24)) (consA (cD .non) nilA)))) (cD (.str "none"))))) (retS (cD (.bl false))) nextS)
theorem rf_is : s__law_refusals = seqS rf_0 (seqS rf_1 (seqS rf_2 rf_3)) := rfl
theorem rf0 : rf_0 [.no, .no] = ret (.nx [.val (.tup [.int 1]), .val (.int 6)]) := by kernel_rfl
theorem rt0 (v w : Sl) : rf_b [v, .val (.int 0)] = ret (.nx [v, .val (.int 0)]) := by kernel_rfl
theorem rt1 (v w : Sl) : rf_b [v, .val (.int 1)] = ret (.nx [v, .val (.int 1)]) := by kernel_rfl
theorem rt2 (v w : Sl) : rf_b [v, .val (.int 2)] = ret (.nx [v, .val (.int 2)]) := by kernel_rfl
theorem rt3 (v w : Sl) : rf_b [v, .val (.int 3)] = ret (.nx [v, .val (.int 3)]) := by kernel_rfl
theorem rf1 (v w : Sl) : rf_1 [v, w] = ret (.nx [v, .val (.int 3)]) := by
  show forS (overR range1 (consA (cD (.int 4)) nilA)) hName [1] rf_b [v, w] = _
  refine (for_at (ds := [.int 0, .int 1, .int 2, .int 3]) rfl).trans ?_
  refine (loop_nx (xs := [.int 0]) rfl (rt0 v w)).trans ?_
  refine (loop_nx (xs := [.int 1]) rfl (rt1 v w)).trans ?_
  refine (loop_nx (xs := [.int 2]) rfl (rt2 v w)).trans ?_
  exact (loop_nx (xs := [.int 3]) rfl (rt3 v w)).trans rfl
theorem rf2 (v w : Sl) : rf_2 [v, w] = ret (.nx [v, w]) := by kernel_rfl
theorem and_tt {f g : Ev → Mo D} {env : Ev} (h1 : f env = ret (.bl true)) (h2 : g env = ret (.bl true)) : andV f g env = ret (.bl true) := by
  unfold andV
  rw [h1, bnd_ret]
  exact h2
theorem rx (v w : Sl) : (op2D eqD (opLD g__law_reason (consA (cD (.int 5)) (consA (cD (.int 4)) (consA (cD (.int 6)) nilA)))) (cD (.str "none"))) [v, w] = ret (.bl true) := by kernel_rfl
theorem ry (v w : Sl) : (op2D eqD (opLD g__law_reason (consA (cD (.int 6)) (consA (cD (.int 20)) (consA (cD (.int 6)) nilA)))) (cD (.str "large"))) [v, w] = ret (.bl true) := by kernel_rfl
theorem rz (v w : Sl) : (op2D eqD (opLD g__law_reason (consA (cD (.int 6)) (consA (cD (.int 20)) (consA (cD (.int 5)) nilA)))) (cD (.str "none"))) [v, w] = ret (.bl true) := by kernel_rfl
theorem rf3 (v w : Sl) : rf_3 [v, w] = ret (.rt (.bl true)) := by
  unfold rf_3 retS
  rw [and_tt (rx v w) (and_tt (ry v w) (rz v w)), bnd_ret]
theorem refusals : g__law_refusals [] = ret (.bl true) := by
  show bnd (s__law_refusals [.no, .no]) _ = _
  rw [rf_is, seq_nx rf0, seq_nx (rf1 _ _), seq_nx (rf2 _ _), rf3, bnd_ret]
end G

namespace G
open PySem PySem.Spec PyProof.Rows L2
def tT (n : Nat) (m : Nat → Nat → Nat) : D := .tup ((List.range n).map fun x => eR n (m x))
def pr (n : Nat) (f : Nat → Nat → Nat) : D := .tup [.obj 0 [.int (n : Nat), tT n f], tT n f]
def fB (k : Nat) (x y : Nat) : Nat := x / k * k + y % k
def fZ (m : Nat) (x y : Nat) : Nat := if x = m * m ∨ y = m * m ∨ x % m ≠ y / m then m * m else x / m * m + y % m
theorem upto5 {P : Nat → Prop} (a0 : P 0) (a1 : P 1) (a2 : P 2) (a3 : P 3) (a4 : P 4) : ∀ n : Nat, (n : Int) < 5 → P n
  | 0, _ => a0
  | 1, _ => a1
  | 2, _ => a2
  | 3, _ => a3
  | 4, _ => a4
  | n + 5, h => absurd h (by omega)
theorem upto3 {P : Nat → Prop} (a0 : P 0) (a1 : P 1) (a2 : P 2) : ∀ n : Nat, (n : Int) < 3 → P n
  | 0, _ => a0
  | 1, _ => a1
  | 2, _ => a2
  | n + 3, h => absurd h (by omega)
def sI (n : Nat) : Sl := .val (.int (1 + (n : Int)))
def p_0 : Ev → Mo Fl := (setS 2 (op2D addD (cD (.int 1)) (opLD g__law_take (consA (getD 1) (consA (cD (.int 5)) nilA)))))
def p_1 : Ev → Mo Fl := (parS [3, 4] (consA (op2D addD (cD (.int 1)) (opLD g__law_take (consA (getD 1) (consA (cD (.int 3)) nilA)))) (consA (op2D addD (cD (.int 1)) (opLD g__law_take (consA (getD 1) (consA (cD (.int 3)) nilA)))) nilA)))
def p_2 : Ev → Mo Fl := (setOwnS 5 (fun env => bnd ((consA (opLD tupD (consA (opLD g_null_semigroup (consA (getD 2) nilA)) (consA (opLD tupleD (consA (asL (compD (overR range1 (consA (getD 2) nilA)) hName [8] yesT (opLD tupleD (consA (asL (compD (overR range1 (consA (getD 2) nilA)) hName [9] yesT (cD (.int 0)) [9])) nilA)) [8])) nilA)) nilA))) nilA) env) fun as => if as.length ≤ 1000 then ret as else bad))
def p_3 : Ev → Mo Fl := (appendS 5 (opLD tupD (consA (opLD g_left_zero (consA (getD 2) nilA)) (consA (opLD tupleD (consA (asL (compD (overR range1 (consA (getD 2) nilA)) hName [8] yesT (opLD tupleD (consA (asL (compD (overR range1 (consA (getD 2) nilA)) hName [9] yesT (getD 8) [9])) nilA)) [8])) nilA)) nilA))))
def p_4 : Ev → Mo Fl := (appendS 5 (opLD tupD (consA (opLD g_right_zero (consA (getD 2) nilA)) (consA (opLD tupleD (consA (asL (compD (overR range1 (consA (getD 2) nilA)) hName [8] yesT (opLD tupleD (consA (asL (compD (overR range1 (consA (getD 2) nilA)) hName [9] yesT (getD 9) [9])) nilA)) [8])) nilA)) nilA))))
def p_5 : Ev → Mo Fl := (appendS 5 (opLD tupD (consA (opLD g_cyclic_group (consA (getD 2) nilA)) (consA (opLD tupleD (consA (asL (compD (overR range1 (consA (getD 2) nilA)) hName [8] yesT (opLD tupleD (consA (asL (compD (overR range1 (consA (getD 2) nilA)) hName [9] yesT (op2D modD (opLD int1D (consA (op2D addD (getD 8) (getD 9)) nilA)) (getD 2)) [9])) nilA)) [8])) nilA)) nilA))))
def p_6 : Ev → Mo Fl := (appendS 5 (opLD tupD (consA (opLD g_rectangular_band (consA (getD 3) (consA (getD 4) nilA))) (consA (opLD g__law_band (consA (getD 3) (consA (getD 4) nilA))) nilA))))
def p_7 : Ev → Mo Fl := (appendS 5 (opLD tupD (consA (opLD g_brandt (consA (getD 3) nilA)) (consA (opLD g__law_brandt (consA (getD 3) nilA)) nilA))))
def p_8 : Ev → Mo Fl := (fun env => (seqS (forS (overS (getD 5)) (hTup 2 (hCons hName (hCons hName hNil))) [6, 7] (ifS (orT (notT (testD (op1D (isCD 0) (getD 6)))) (orT (testD (op2D neD (fldE 0 "table" (getD 6)) (getD 7))) (testD (op2D neD (fldE 0 "n" (getD 6)) (opLD lenD (consA (getD 7) nilA)))))) (retS (cD (.bl false))) nextS))
  (retS (orV (op2D gtD (opLD g__law_take (consA (getD 1) (consA (cD (.int 4)) nilA))) (cD (.int 0))) (opLD g__law_refusals nilA)))) (frz 5 env))
theorem law_is : s_law = (seqS p_0 (seqS p_1 (seqS p_2 (seqS p_3 (seqS p_4 (seqS p_5 (seqS p_6 (seqS p_7 p_8)))))))) := rfl
theorem a0 (a b : Sl) (n : Nat) (hn : (n : Int) < 5) : p_2 [.no, .val .st, sI n, a, b, .no, .no, .no, .no, .no] = ret (.nx [.no, .val .st, sI n, a, b, .own [pr (n + 1) fun _ _ => 0], .no, .no, .no, .no]) := by
  refine upto5 (P := fun n => p_2 [.no, .val .st, sI n, a, b, .no, .no, .no, .no, .no] = ret (.nx [.no, .val .st, sI n, a, b, .own [pr (n + 1) fun _ _ => 0], .no, .no, .no, .no])) ?_ ?_ ?_ ?_ ?_ n hn <;> kernel_rfl
theorem a1 (a b : Sl) (d0 : D) (n : Nat) (hn : (n : Int) < 5) : p_3 [.no, .val .st, sI n, a, b, .own [d0], .no, .no, .no, .no] = ret (.nx [.no, .val .st, sI n, a, b, .own [d0, pr (n + 1) (fun x _ => x)], .no, .no, .no, .no]) := by
  refine upto5 (P := fun n => p_3 [.no, .val .st, sI n, a, b, .own [d0], .no, .no, .no, .no] = ret (.nx [.no, .val .st, sI n, a, b, .own [d0, pr (n + 1) (fun x _ => x)], .no, .no, .no, .no])) ?_ ?_ ?_ ?_ ?_ n hn <;> kernel_rfl
theorem a2 (a b : Sl) (d0 d1 : D) (n : Nat) (hn : (n : Int) < 5) : p_4 [.no, .val .st, sI n, a, b, .own [d0, d1], .no, .no, .no, .no] = ret (.nx [.no, .val .st, sI n, a, b, .own [d0, d1, pr (n + 1) (fun _ y => y)], .no, .no, .no, .no]) := by
  refine upto5 (P := fun n => p_4 [.no, .val .st, sI n, a, b, .own [d0, d1], .no, .no, .no, .no] = ret (.nx [.no, .val .st, sI n, a, b, .own [d0, d1, pr (n + 1) (fun _ y => y)], .no, .no, .no, .no])) ?_ ?_ ?_ ?_ ?_ n hn <;> kernel_rfl
theorem a3 (a b : Sl) (d0 d1 d2 : D) (n : Nat) (hn : (n : Int) < 5) : p_5 [.no, .val .st, sI n, a, b, .own [d0, d1, d2], .no, .no, .no, .no] = ret (.nx [.no, .val .st, sI n, a, b, .own [d0, d1, d2, pr (n + 1) (fun x y => (x + y) % (n + 1))], .no, .no, .no, .no]) := by
  refine upto5 (P := fun n => p_5 [.no, .val .st, sI n, a, b, .own [d0, d1, d2], .no, .no, .no, .no] = ret (.nx [.no, .val .st, sI n, a, b, .own [d0, d1, d2, pr (n + 1) (fun x y => (x + y) % (n + 1))], .no, .no, .no, .no])) ?_ ?_ ?_ ?_ ?_ n hn <;> kernel_rfl
theorem a4 (c : Sl) (d0 d1 d2 d3 : D) (m : Nat) (hm : (m : Int) < 3) (k : Nat) (hk : (k : Int) < 3) : p_6 [.no, .val .st, c, sI m, sI k, .own [d0, d1, d2, d3], .no, .no, .no, .no] = ret (.nx [.no, .val .st, c, sI m, sI k, .own [d0, d1, d2, d3, pr ((m + 1) * (k + 1)) (fB (k + 1))], .no, .no, .no, .no]) := by
  refine upto3 (P := fun m => ∀ k : Nat, (k : Int) < 3 → p_6 [.no, .val .st, c, sI m, sI k, .own [d0, d1, d2, d3], .no, .no, .no, .no] = ret (.nx [.no, .val .st, c, sI m, sI k, .own [d0, d1, d2, d3, pr ((m + 1) * (k + 1)) (fB (k + 1))], .no, .no, .no, .no])) ?_ ?_ ?_ m hm k hk <;> (refine upto3 (P := fun k => p_6 [.no, .val .st, c, sI _, sI k, .own [d0, d1, d2, d3], .no, .no, .no, .no] = ret (.nx [.no, .val .st, c, sI _, sI k, .own [d0, d1, d2, d3, pr ((_ + 1) * (k + 1)) (fB (k + 1))], .no, .no, .no, .no])) ?_ ?_ ?_ <;> kernel_rfl)
theorem a5 (c k : Sl) (d0 d1 d2 d3 d4 : D) (m : Nat) (hm : (m : Int) < 3) : p_7 [.no, .val .st, c, sI m, k, .own [d0, d1, d2, d3, d4], .no, .no, .no, .no] = ret (.nx [.no, .val .st, c, sI m, k, .own [d0, d1, d2, d3, d4, pr ((m + 1) * (m + 1) + 1) (fZ (m + 1))], .no, .no, .no, .no]) := by
  refine upto3 (P := fun m => p_7 [.no, .val .st, c, sI m, k, .own [d0, d1, d2, d3, d4], .no, .no, .no, .no] = ret (.nx [.no, .val .st, c, sI m, k, .own [d0, d1, d2, d3, d4, pr ((m + 1) * (m + 1) + 1) (fZ (m + 1))], .no, .no, .no, .no])) ?_ ?_ ?_ m hm <;> kernel_rfl
end G

namespace G
open PySem PySem.Spec PyProof.Rows L2
def bodyL : Ev → Mo Fl := (ifS (orT (notT (testD (op1D (isCD 0) (getD 6)))) (orT (testD (op2D neD (fldE 0 "table" (getD 6)) (getD 7))) (testD (op2D neD (fldE 0 "n" (getD 6)) (opLD lenD (consA (getD 7) nilA)))))) (retS (cD (.bl false))) nextS)
def lastG (g : List D → Mo D) : Ev → Mo Fl := (retS (orV (op2D gtD (opLD g__law_take (consA (getD 1) (consA (cD (.int 4)) nilA))) (cD (.int 0))) (opLD g nilA)))
def lastL : Ev → Mo Fl := lastG g__law_refusals
theorem p8_is : p_8 = fun env => (seqS (forS (overS (getD 5)) (hTup 2 (hCons hName (hCons hName hNil))) [6, 7] bodyL) lastL) (frz 5 env) := rfl
/-- a pair that is due -/
def good (d : D) : Prop := ∃ t u, d = .tup [t, u] ∧ ∀ a b c L x y : Sl, bodyL [.no, .val .st, a, b, c, L, .val t, .val u, x, y] = ret (.nx [.no, .val .st, a, b, c, L, .val t, .val u, x, y])
theorem good_pr {n : Nat} {f : Nat → Nat → Nat} (h : ∀ a b c L x y : Sl, bodyL [.no, .val .st, a, b, c, L, .val (.obj 0 [.int (n : Nat), tT n f]), .val (tT n f), x, y] = ret (.nx [.no, .val .st, a, b, c, L, .val (.obj 0 [.int (n : Nat), tT n f]), .val (tT n f), x, y])) : good (pr n f) := ⟨_, _, rfl, h⟩
theorem goods : ∀ (ds : List D), (∀ d ∈ ds, good d) → ∀ (a b c L x y z w : Sl), ∃ x' y', loopD (hTup 2 (hCons hName (hCons hName hNil))) [6, 7] bodyL ds [.no, .val .st, a, b, c, L, x, y, z, w] = ret (.nx [.no, .val .st, a, b, c, L, x', y', z, w])
  | [], _, a, b, c, L, x, y, z, w => ⟨x, y, rfl⟩
  | d :: ds, h, a, b, c, L, x, y, z, w => by
    obtain ⟨t, u, rfl, q⟩ := h d List.mem_cons_self
    obtain ⟨x', y', ih⟩ := goods ds (fun d hd => h d (List.mem_cons_of_mem _ hd)) a b c L (.val t) (.val u) z w
    exact ⟨x', y', (loop_nx (xs := [t, u]) rfl (q a b c L z w)).trans ih⟩
theorem g0 (n : Nat) (hn : (n : Int) < 5) : good (pr (n + 1) (fun _ _ => 0)) := good_pr fun a b c L x y => by
  refine upto5 (P := fun n => bodyL [.no, .val .st, a, b, c, L, .val (.obj 0 [.int ((n + 1 : Nat) : Int), tT (n + 1) (fun _ _ => 0)]), .val (tT (n + 1) (fun _ _ => 0)), x, y] = ret (.nx [.no, .val .st, a, b, c, L, .val (.obj 0 [.int ((n + 1 : Nat) : Int), tT (n + 1) (fun _ _ => 0)]), .val (tT (n + 1) (fun _ _ => 0)), x, y])) ?_ ?_ ?_ ?_ ?_ n hn <;> kernel_rfl
theorem g1 (n : Nat) (hn : (n : Int) < 5) : good (pr (n + 1) (fun x _ => x)) := good_pr fun a b c L x y => by
  refine upto5 (P := fun n => bodyL [.no, .val .st, a, b, c, L, .val (.obj 0 [.int ((n + 1 : Nat) : Int), tT (n + 1) (fun x _ => x)]), .val (tT (n + 1) (fun x _ => x)), x, y] = ret (.nx [.no, .val .st, a, b, c, L, .val (.obj 0 [.int ((n + 1 : Nat) : Int), tT (n + 1) (fun x _ => x)]), .val (tT (n + 1) (fun x _ => x)), x, y])) ?_ ?_ ?_ ?_ ?_ n hn <;> kernel_rfl
theorem g2 (n : Nat) (hn : (n : Int) < 5) : good (pr (n + 1) (fun _ y => y)) := good_pr fun a b c L x y => by
  refine upto5 (P := fun n => bodyL [.no, .val .st, a, b, c, L, .val (.obj 0 [.int ((n + 1 : Nat) : Int), tT (n + 1) (fun _ y => y)]), .val (tT (n + 1) (fun _ y => y)), x, y] = ret (.nx [.no, .val .st, a, b, c, L, .val (.obj 0 [.int ((n + 1 : Nat) : Int), tT (n + 1) (fun _ y => y)]), .val (tT (n + 1) (fun _ y => y)), x, y])) ?_ ?_ ?_ ?_ ?_ n hn <;> kernel_rfl
theorem g3 (n : Nat) (hn : (n : Int) < 5) : good (pr (n + 1) (fun x y => (x + y) % (n + 1))) := good_pr fun a b c L x y => by
  refine upto5 (P := fun n => bodyL [.no, .val .st, a, b, c, L, .val (.obj 0 [.int ((n + 1 : Nat) : Int), tT (n + 1) (fun x y => (x + y) % (n + 1))]), .val (tT (n + 1) (fun x y => (x + y) % (n + 1))), x, y] = ret (.nx [.no, .val .st, a, b, c, L, .val (.obj 0 [.int ((n + 1 : Nat) : Int), tT (n + 1) (fun x y => (x + y) % (n + 1))]), .val (tT (n + 1) (fun x y => (x + y) % (n + 1))), x, y])) ?_ ?_ ?_ ?_ ?_ n hn <;> kernel_rfl
theorem g4 (m : Nat) (hm : (m : Int) < 3) (k : Nat) (hk : (k : Int) < 3) : good (pr ((m + 1) * (k + 1)) (fB (k + 1))) := good_pr fun a b c L x y => by
  refine upto3 (P := fun m => ∀ k : Nat, (k : Int) < 3 → bodyL [.no, .val .st, a, b, c, L, .val (.obj 0 [.int (((m + 1) * (k + 1) : Nat) : Int), tT ((m + 1) * (k + 1)) (fB (k + 1))]), .val (tT ((m + 1) * (k + 1)) (fB (k + 1))), x, y] = ret (.nx [.no, .val .st, a, b, c, L, .val (.obj 0 [.int (((m + 1) * (k + 1) : Nat) : Int), tT ((m + 1) * (k + 1)) (fB (k + 1))]), .val (tT ((m + 1) * (k + 1)) (fB (k + 1))), x, y])) ?_ ?_ ?_ m hm k hk <;> (refine upto3 (P := fun k => bodyL [.no, .val .st, a, b, c, L, .val (.obj 0 [.int (((_ + 1) * (k + 1) : Nat) : Int), tT ((_ + 1) * (k + 1)) (fB (k + 1))]), .val (tT ((_ + 1) * (k + 1)) (fB (k + 1))), x, y] = ret (.nx [.no, .val .st, a, b, c, L, .val (.obj 0 [.int (((_ + 1) * (k + 1) : Nat) : Int), tT ((_ + 1) * (k + 1)) (fB (k + 1))]), .val (tT ((_ + 1) * (k + 1)) (fB (k + 1))), x, y])) ?_ ?_ ?_ <;> kernel_rfl)
theorem g5 (m : Nat) (hm : (m : Int) < 3) : good (pr ((m + 1) * (m + 1) + 1) (fZ (m + 1))) := good_pr fun a b c L x y => by
  refine upto3 (P := fun m => bodyL [.no, .val .st, a, b, c, L, .val (.obj 0 [.int (((m + 1) * (m + 1) + 1 : Nat) : Int), tT ((m + 1) * (m + 1) + 1) (fZ (m + 1))]), .val (tT ((m + 1) * (m + 1) + 1) (fZ (m + 1))), x, y] = ret (.nx [.no, .val .st, a, b, c, L, .val (.obj 0 [.int (((m + 1) * (m + 1) + 1 : Nat) : Int), tT ((m + 1) * (m + 1) + 1) (fZ (m + 1))]), .val (tT ((m + 1) * (m + 1) + 1) (fZ (m + 1))), x, y])) ?_ ?_ ?_ m hm <;> kernel_rfl
theorem take_spec {m : Int} (h : 0 < m ∧ m < 1073741824) {s : S} {Q : D → S → Prop} (q : ∀ (v : Nat) s', (v : Int) < m → Q (.int v) s') : WP (g__law_take [.st, .int m]) s Q := by
  have key : ∀ x : Int, ∀ s', Q (.int (x % m)) s' := fun x s' => by
    have h0 : 0 ≤ x % m := Int.emod_nonneg x (by omega)
    have := q (x % m).toNat s' (by rw [Int.toNat_of_nonneg h0]; exact Int.emod_lt_of_pos x h.1)
    rwa [Int.toNat_of_nonneg h0] at this
  unfold WP g__law_take
  simp only [if_pos h]
  by_cases h0 : s.1 > 0
  · rw [if_pos h0]; exact key _ _
  · rw [if_neg h0]; exact key _ _
theorem last_spec (g : List D → Mo D) (hg : g [] = ret (.bl true)) {a b c L x y z w : Sl} {s : S} : WP (lastG g [.no, .val .st, a, b, c, L, x, y, z, w]) s fun o _ => o = .rt (.bl true) := by
  show WP (bnd (bnd (bnd (g__law_take [.st, .int 4]) fun a => bnd (ret (D.int 0)) fun b => gtD a b) fun d => bnd (asB d) fun c => if c then ret (D.bl true) else bnd (ret []) g) fun d => ret (Fl.rt d)) s _
  rw [WP_bnd, WP_bnd, WP_bnd]
  refine take_spec (by decide) fun v s4 hv => ?_
  show WP (ret (D.bl (decide ((0 : Int) < (v : Int))))) s4 _
  rw [WP_ret]
  show WP (if decide ((0 : Int) < (v : Int)) = true then ret (D.bl true) else g []) s4 _
  by_cases h : decide ((0 : Int) < (v : Int)) = true
  · rw [if_pos h]; rfl
  · rw [if_neg h, hg]; rfl
theorem law_true : LawTrue := fun s => WP_ex' (by
  rw [law_is]
  refine WP_seq ?_
  show WP (bnd (bnd (ret (D.int 1)) fun x => bnd (g__law_take [.st, .int 5]) fun y => addD x y) fun d => ret (Fl.nx [.no, .val .st, .val d, .no, .no, .no, .no, .no, .no, .no])) s _
  rw [bnd_ret, WP_bnd, WP_bnd]
  refine take_spec (by decide) fun n s1 hn => ?_
  show WP (ret (D.int (1 + (n : Int)))) s1 _
  refine ⟨[.no, .val .st, sI n, .no, .no, .no, .no, .no, .no, .no], rfl, ?_⟩
  refine WP_seq ?_
  show WP (bnd (bnd (bnd (ret (D.int 1)) fun x => bnd (g__law_take [.st, .int 3]) fun y => addD x y) fun a => bnd (bnd (bnd (ret (D.int 1)) fun x => bnd (g__law_take [.st, .int 3]) fun y => addD x y) fun b => bnd (ret []) fun r => ret (b :: r)) fun r => ret (a :: r)) fun ds => if ds.length = 2 then ret (Fl.nx (setsE [3, 4] ds [.no, .val .st, sI n, .no, .no, .no, .no, .no, .no, .no])) else bad) s1 _
  rw [bnd_ret, WP_bnd, WP_bnd, WP_bnd]
  refine take_spec (by decide) fun m s2 hm => ?_
  show WP (ret (D.int (1 + (m : Int)))) s2 _
  rw [WP_ret, WP_bnd, WP_bnd, WP_bnd]
  refine take_spec (by decide) fun k s3 hk => ?_
  show WP (ret (D.int (1 + (k : Int)))) s3 _
  refine ⟨[.no, .val .st, sI n, sI m, sI k, .no, .no, .no, .no, .no], rfl, ?_⟩
  refine WP_seq_eq (a0 _ _ n hn) (WP_seq_eq (a1 _ _ _ n hn) (WP_seq_eq (a2 _ _ _ _ n hn) (WP_seq_eq (a3 _ _ _ _ _ n hn) (WP_seq_eq (a4 _ _ _ _ _ m hm k hk) (WP_seq_eq (a5 _ _ _ _ _ _ _ m hm) ?_)))))
  rw [p8_is]
  obtain ⟨x, y, e⟩ := goods [pr (n + 1) fun _ _ => 0, pr (n + 1) fun x _ => x, pr (n + 1) fun _ y => y, pr (n + 1) fun x y => (x + y) % (n + 1), pr ((m + 1) * (k + 1)) (fB (k + 1)), pr ((m + 1) * (m + 1) + 1) (fZ (m + 1))] (fun d hd => by
    simp only [List.mem_cons, List.not_mem_nil, or_false] at hd
    rcases hd with rfl | rfl | rfl | rfl | rfl | rfl
    · exact g0 n hn
    · exact g1 n hn
    · exact g2 n hn
    · exact g3 n hn
    · exact g4 m hm k hk
    · exact g5 m hm) (sI n) (sI m) (sI k) (.val (.lst [pr (n + 1) fun _ _ => 0, pr (n + 1) fun x _ => x, pr (n + 1) fun _ y => y, pr (n + 1) fun x y => (x + y) % (n + 1), pr ((m + 1) * (k + 1)) (fB (k + 1)), pr ((m + 1) * (m + 1) + 1) (fZ (m + 1))])) .no .no .no .no
  refine WP_seq_eq ((for_at (ds := [pr (n + 1) fun _ _ => 0, pr (n + 1) fun x _ => x, pr (n + 1) fun _ y => y, pr (n + 1) fun x y => (x + y) % (n + 1), pr ((m + 1) * (k + 1)) (fB (k + 1)), pr ((m + 1) * (m + 1) + 1) (fZ (m + 1))]) rfl).trans e) ?_
  exact last_spec _ refusals)
end G

namespace G
open PySem PySem.Spec PyProof.Rows L2

/-! what the top has written -/
set_option maxHeartbeats 0 in
theorem all_mk {l : PySem.W.OpenLaw} {w : World} {K : PySem.W.Frag} {h : Heap} {mg : Str → Option Value} {fa C0 X1 X2 XF XI f0 f1 f2 f3 f4 f5 f6 f7 f8 f9 f10 qc10 qt10 f11 qc11 qt11 f12 qc12 qt12 f13 qc13 qt13 f14 qc14 qt14 f15 qc15 qt15 f16 qc16 qt16 f17 f18 f19 f20 f21 : Addr} (X : K.In h) (G : h.Ns mainGlobals mg) (hfa : mg "law" = some (.ref fa))
    (aC0 : PySem.W.nsIn K mainGlobals "Semigroup" = some (some (.ref C0)))
    (pg0 : PySem.W.plainGet K C0 Str.empty = true) (hd0 : PySem.W.hasDictIn K C0 = true) (po0 : PySem.W.plainOver K C0 = true) (sa0 : PySem.W.findIn K (.ref C0) "__setattr__" = some (some (.builtin "object.__setattr__"))) (mk0 : PySem.W.makesIn K C0 = true) (kc0 : PySem.W.keepIn K (.ref C0) = true)
    (nf0_n : PySem.W.findIn K (.ref C0) "n" = some none)
    (nf0_table : PySem.W.findIn K (.ref C0) "table" = some none)
    (j1_0 : PySem.W.findIn K (.ref C0) "__class__" = some (some (.builtin "object.__class__"))) (j2_0 : PySem.W.specialIn K (.builtin "object.__class__") "__get__" = some (some (.builtin "getset_descriptor.__get__"))) (j3_0 : PySem.W.takesIn K (.builtin "object.__class__") = some true) (j4_0 : PySem.W.mroIn K C0 (.type "object") = some true)
    (gX1 : PySem.W.nsIn K mainGlobals "Malformed" = some (some (.ref X1))) (qX1 : PySem.W.excIn K X1 [.type "ValueError", .type "Exception", .type "BaseException", .type "object"] "ValueError.__new__" = true) (kX1 : PySem.W.keepIn K (.ref X1) = true) (bX1 : PySem.W.subIn K (.ref X1) (.type "BaseException") = some true) (tX1 : PySem.W.typeIn K (.ref X1) = some (.type "type")) (iX1 : PySem.W.isClsIn K X1 = true) (sX1 : PySem.W.subIn K (.ref X1) (.ref X1) = some true)
    {nmX qX : Str} {NX : Addr} {bsX : List Value} {snX : List Str} {subX : List Value} {abX : Bool} {colX : Option Bool} {ddX : Option Addr} {m0X m1X m2X m3X m5X : Option Value}
    (gX2 : PySem.W.nsIn K mainGlobals "Refused" = some (some (.ref X2))) (lX2 : K.lookup X2 = some (excClassObj nmX qX X2 NX bsX [.ref XF, .type "ValueError", .type "Exception", .type "BaseException", .type "object"] true snX subX abX colX ddX m0X m1X m2X m3X m5X "ValueError.__new__"))
    (saX2 : PySem.W.findIn K (.ref X2) "__setattr__" = some (some (.builtin "object.__setattr__"))) (gaX2 : PySem.W.findIn K (.ref X2) "__getattribute__" = some (some (.builtin "BaseException.__getattribute__"))) (ggX2 : PySem.W.findIn K (.ref X2) "__getattr__" = some none) (nbX2 : PySem.W.findIn K (.ref X2) "reason" = some none)
    (kX2 : PySem.W.keepIn K (.ref X2) = true) (bX2 : PySem.W.subIn K (.ref X2) (.type "BaseException") = some true) (tX2 : PySem.W.typeIn K (.ref X2) = some (.type "type")) (hX2 : PySem.W.hasDictIn K X2 = true) (iX2 : PySem.W.isClsIn K X2 = true) (sX2 : PySem.W.subIn K (.ref X2) (.ref X2) = some true)
    {odX anX : Option Addr} {slX : Array (Option Value)} {ocX kVX dcX pmX cdX ctX : Value} (aXI : PySem.W.findIn K (.ref X2) "__init__" = some (some (.ref XI))) (tXI : PySem.W.typeIn K (.ref XI) = some (.type "function")) (lXI : K.lookup XI = some ⟨ocX, odX, .func (PySem.W.fnOf "__init__" "Refused.__init__" (defArgs (inClass (topS 4) 0)) (defBody (inClass (topS 4) 0)) (defScope (inClass (topS 4) 0)) .none kVX dcX pmX anX cdX ctX), slX⟩) (cXI : PySem.W.codeIn K cdX "Refused.__init__" = true) (kXI : PySem.W.keepIn K (.ref XI) = true)
    (nX21 : PySem.W.subIn K (.ref X2) (.ref X1) = some false)
    {u_MOST : Tok} (n_MOST : PySem.W.nsIn K mainGlobals "MOST" = some (some (.int (24) u_MOST)))
    (n_abs : PySem.W.nsIn K mainGlobals "abs" = some none)
    (n_all : PySem.W.nsIn K mainGlobals "all" = some none)
    (n_bool : PySem.W.nsIn K mainGlobals "bool" = some none)
    (n_enumerate : PySem.W.nsIn K mainGlobals "enumerate" = some none)
    (n_int : PySem.W.nsIn K mainGlobals "int" = some none)
    (n_isinstance : PySem.W.nsIn K mainGlobals "isinstance" = some none)
    (n_len : PySem.W.nsIn K mainGlobals "len" = some none)
    (n_list : PySem.W.nsIn K mainGlobals "list" = some none)
    (n_range : PySem.W.nsIn K mainGlobals "range" = some none)
    (n_tuple : PySem.W.nsIn K mainGlobals "tuple" = some none)
    {od0 an0 : Option Addr} {sl0 : Array (Option Value)} {oc0 kV0 dc0 pm0 cd0 ct0 : Value} (a0 : PySem.W.nsIn K mainGlobals "_law_state" = some (some (.ref f0))) (l0 : K.lookup f0 = some ⟨oc0, od0, .func (PySem.W.fnOf "_law_state" "_law_state" (defArgs (topS 26)) (defBody (topS 26)) (defScope (topS 26)) .none kV0 dc0 pm0 an0 cd0 ct0), sl0⟩) (c0 : PySem.W.codeIn K cd0 "_law_state" = true) (k0 : PySem.W.keepIn K (.ref f0) = true)
    {od1 an1 : Option Addr} {sl1 : Array (Option Value)} {oc1 kV1 dc1 pm1 cd1 ct1 : Value} (a1 : PySem.W.nsIn K mainGlobals "_law_take" = some (some (.ref f1))) (l1 : K.lookup f1 = some ⟨oc1, od1, .func (PySem.W.fnOf "_law_take" "_law_take" (defArgs (topS 27)) (defBody (topS 27)) (defScope (topS 27)) .none kV1 dc1 pm1 an1 cd1 ct1), sl1⟩) (c1 : PySem.W.codeIn K cd1 "_law_take" = true) (k1 : PySem.W.keepIn K (.ref f1) = true)
    {od2 an2 : Option Addr} {sl2 : Array (Option Value)} {oc2 kV2 dc2 pm2 cd2 ct2 : Value} (a2 : PySem.W.nsIn K mainGlobals "is_integer" = some (some (.ref f2))) (l2 : K.lookup f2 = some ⟨oc2, od2, .func (PySem.W.fnOf "is_integer" "is_integer" (defArgs (topS 6)) (defBody (topS 6)) (defScope (topS 6)) .none kV2 dc2 pm2 an2 cd2 ct2), sl2⟩) (c2 : PySem.W.codeIn K cd2 "is_integer" = true) (k2 : PySem.W.keepIn K (.ref f2) = true)
    {od3 an3 : Option Addr} {sl3 : Array (Option Value)} {oc3 kV3 dc3 pm3 cd3 ct3 : Value} (a3 : PySem.W.nsIn K mainGlobals "_need_sizes" = some (some (.ref f3))) (l3 : K.lookup f3 = some ⟨oc3, od3, .func (PySem.W.fnOf "_need_sizes" "_need_sizes" (defArgs (topS 24)) (defBody (topS 24)) (defScope (topS 24)) .none kV3 dc3 pm3 an3 cd3 ct3), sl3⟩) (c3 : PySem.W.codeIn K cd3 "_need_sizes" = true) (k3 : PySem.W.keepIn K (.ref f3) = true)
    {od4 an4 : Option Addr} {sl4 : Array (Option Value)} {oc4 kV4 dc4 pm4 cd4 ct4 : Value} (a4 : PySem.W.nsIn K mainGlobals "refuse_large" = some (some (.ref f4))) (l4 : K.lookup f4 = some ⟨oc4, od4, .func (PySem.W.fnOf "refuse_large" "refuse_large" (defArgs (topS 13)) (defBody (topS 13)) (defScope (topS 13)) .none kV4 dc4 pm4 an4 cd4 ct4), sl4⟩) (c4 : PySem.W.codeIn K cd4 "refuse_large" = true) (k4 : PySem.W.keepIn K (.ref f4) = true)
    {od5 an5 : Option Addr} {sl5 : Array (Option Value)} {oc5 kV5 dc5 pm5 cd5 ct5 : Value} (a5 : PySem.W.nsIn K mainGlobals "is_below" = some (some (.ref f5))) (l5 : K.lookup f5 = some ⟨oc5, od5, .func (PySem.W.fnOf "is_below" "is_below" (defArgs (topS 7)) (defBody (topS 7)) (defScope (topS 7)) .none kV5 dc5 pm5 an5 cd5 ct5), sl5⟩) (c5 : PySem.W.codeIn K cd5 "is_below" = true) (k5 : PySem.W.keepIn K (.ref f5) = true)
    {od6 an6 : Option Addr} {sl6 : Array (Option Value)} {oc6 kV6 dc6 pm6 cd6 ct6 : Value} (a6 : PySem.W.nsIn K mainGlobals "is_table" = some (some (.ref f6))) (l6 : K.lookup f6 = some ⟨oc6, od6, .func (PySem.W.fnOf "is_table" "is_table" (defArgs (topS 11)) (defBody (topS 11)) (defScope (topS 11)) .none kV6 dc6 pm6 an6 cd6 ct6), sl6⟩) (c6 : PySem.W.codeIn K cd6 "is_table" = true) (k6 : PySem.W.keepIn K (.ref f6) = true)
    {od7 an7 : Option Addr} {sl7 : Array (Option Value)} {oc7 kV7 dc7 pm7 cd7 ct7 : Value} (a7 : PySem.W.nsIn K mainGlobals "is_associative" = some (some (.ref f7))) (l7 : K.lookup f7 = some ⟨oc7, od7, .func (PySem.W.fnOf "is_associative" "is_associative" (defArgs (topS 12)) (defBody (topS 12)) (defScope (topS 12)) .none kV7 dc7 pm7 an7 cd7 ct7), sl7⟩) (c7 : PySem.W.codeIn K cd7 "is_associative" = true) (k7 : PySem.W.keepIn K (.ref f7) = true)
    {od8 an8 : Option Addr} {sl8 : Array (Option Value)} {oc8 kV8 dc8 pm8 cd8 ct8 : Value} (a8 : PySem.W.findIn K (.ref C0) "__init__" = some (some (.ref f8))) (i8 : PySem.W.isFn K (.ref f8) = true) (l8 : K.lookup f8 = some ⟨oc8, od8, .func (PySem.W.fnOf "__init__" "Semigroup.__init__" (defArgs (inClass (topS 10) 0)) (defBody (inClass (topS 10) 0)) (defScope (inClass (topS 10) 0)) .none kV8 dc8 pm8 an8 cd8 ct8), sl8⟩) (c8 : PySem.W.codeIn K cd8 "Semigroup.__init__" = true) (k8 : PySem.W.keepIn K (.ref f8) = true)
    {od9 an9 : Option Addr} {sl9 : Array (Option Value)} {oc9 kV9 dc9 pm9 cd9 ct9 : Value} (a9 : PySem.W.nsIn K mainGlobals "_by_rule" = some (some (.ref f9))) (l9 : K.lookup f9 = some ⟨oc9, od9, .func (PySem.W.fnOf "_by_rule" "_by_rule" (defArgs (topS 23)) (defBody (topS 23)) (defScope (topS 23)) .none kV9 dc9 pm9 an9 cd9 ct9), sl9⟩) (c9 : PySem.W.codeIn K cd9 "_by_rule" = true) (k9 : PySem.W.keepIn K (.ref f9) = true)
    {qe10 : Value} {qd10 : Option Addr} {qv10 : Array Value} {qs10 : Array (Option Value)}
    {od10 an10 : Option Addr} {sl10 : Array (Option Value)} {oc10 kV10 dc10 pm10 ct10 : Value} (a10 : PySem.W.nsIn K mainGlobals "null_semigroup" = some (some (.ref f10))) (l10 : K.lookup f10 = some ⟨oc10, od10, .func (PySem.W.fnOf "null_semigroup" "null_semigroup" (defArgs (topS 16)) (defBody (topS 16)) (defScope (topS 16)) .none kV10 dc10 pm10 an10 (Value.ref qc10) ct10), sl10⟩) (c10 : PySem.W.codeIn K (Value.ref qc10) "null_semigroup" = true) (k10 : PySem.W.keepIn K (.ref f10) = true)
    (qk10 : K.lookup qc10 = some ⟨qe10, qd10, .fields qv10, qs10⟩) (qp10 : qv10[11]? = some (.ref qt10)) (qh10 : PySem.W.codeHdIn K qc10 qt10 = true) (qn10 : K.lookup qt10 = none)
    {qe11 : Value} {qd11 : Option Addr} {qv11 : Array Value} {qs11 : Array (Option Value)}
    {od11 an11 : Option Addr} {sl11 : Array (Option Value)} {oc11 kV11 dc11 pm11 ct11 : Value} (a11 : PySem.W.nsIn K mainGlobals "left_zero" = some (some (.ref f11))) (l11 : K.lookup f11 = some ⟨oc11, od11, .func (PySem.W.fnOf "left_zero" "left_zero" (defArgs (topS 17)) (defBody (topS 17)) (defScope (topS 17)) .none kV11 dc11 pm11 an11 (Value.ref qc11) ct11), sl11⟩) (c11 : PySem.W.codeIn K (Value.ref qc11) "left_zero" = true) (k11 : PySem.W.keepIn K (.ref f11) = true)
    (qk11 : K.lookup qc11 = some ⟨qe11, qd11, .fields qv11, qs11⟩) (qp11 : qv11[11]? = some (.ref qt11)) (qh11 : PySem.W.codeHdIn K qc11 qt11 = true) (qn11 : K.lookup qt11 = none)
    {qe12 : Value} {qd12 : Option Addr} {qv12 : Array Value} {qs12 : Array (Option Value)}
    {od12 an12 : Option Addr} {sl12 : Array (Option Value)} {oc12 kV12 dc12 pm12 ct12 : Value} (a12 : PySem.W.nsIn K mainGlobals "right_zero" = some (some (.ref f12))) (l12 : K.lookup f12 = some ⟨oc12, od12, .func (PySem.W.fnOf "right_zero" "right_zero" (defArgs (topS 18)) (defBody (topS 18)) (defScope (topS 18)) .none kV12 dc12 pm12 an12 (Value.ref qc12) ct12), sl12⟩) (c12 : PySem.W.codeIn K (Value.ref qc12) "right_zero" = true) (k12 : PySem.W.keepIn K (.ref f12) = true)
    (qk12 : K.lookup qc12 = some ⟨qe12, qd12, .fields qv12, qs12⟩) (qp12 : qv12[11]? = some (.ref qt12)) (qh12 : PySem.W.codeHdIn K qc12 qt12 = true) (qn12 : K.lookup qt12 = none)
    {qe13 : Value} {qd13 : Option Addr} {qv13 : Array Value} {qs13 : Array (Option Value)}
    {od13 an13 : Option Addr} {sl13 : Array (Option Value)} {oc13 kV13 dc13 pm13 ct13 : Value} (a13 : PySem.W.nsIn K mainGlobals "cyclic_group" = some (some (.ref f13))) (l13 : K.lookup f13 = some ⟨oc13, od13, .func (PySem.W.fnOf "cyclic_group" "cyclic_group" (defArgs (topS 19)) (defBody (topS 19)) (defScope (topS 19)) .none kV13 dc13 pm13 an13 (Value.ref qc13) ct13), sl13⟩) (c13 : PySem.W.codeIn K (Value.ref qc13) "cyclic_group" = true) (k13 : PySem.W.keepIn K (.ref f13) = true)
    (qk13 : K.lookup qc13 = some ⟨qe13, qd13, .fields qv13, qs13⟩) (qp13 : qv13[11]? = some (.ref qt13)) (qh13 : PySem.W.codeHdIn K qc13 qt13 = true) (qn13 : K.lookup qt13 = none)
    {qe14 : Value} {qd14 : Option Addr} {qv14 : Array Value} {qs14 : Array (Option Value)}
    {od14 an14 : Option Addr} {sl14 : Array (Option Value)} {oc14 kV14 dc14 pm14 ct14 : Value} (a14 : PySem.W.nsIn K mainGlobals "brandt" = some (some (.ref f14))) (l14 : K.lookup f14 = some ⟨oc14, od14, .func (PySem.W.fnOf "brandt" "brandt" (defArgs (topS 22)) (defBody (topS 22)) (defScope (topS 22)) .none kV14 dc14 pm14 an14 (Value.ref qc14) ct14), sl14⟩) (c14 : PySem.W.codeIn K (Value.ref qc14) "brandt" = true) (k14 : PySem.W.keepIn K (.ref f14) = true)
    (qk14 : K.lookup qc14 = some ⟨qe14, qd14, .fields qv14, qs14⟩) (qp14 : qv14[11]? = some (.ref qt14)) (qh14 : PySem.W.codeHdIn K qc14 qt14 = true) (qn14 : K.lookup qt14 = none)
    {qe15 : Value} {qd15 : Option Addr} {qv15 : Array Value} {qs15 : Array (Option Value)}
    {od15 an15 : Option Addr} {sl15 : Array (Option Value)} {oc15 kV15 dc15 pm15 ct15 : Value} (a15 : PySem.W.nsIn K mainGlobals "rectangular_band" = some (some (.ref f15))) (l15 : K.lookup f15 = some ⟨oc15, od15, .func (PySem.W.fnOf "rectangular_band" "rectangular_band" (defArgs (topS 20)) (defBody (topS 20)) (defScope (topS 20)) .none kV15 dc15 pm15 an15 (Value.ref qc15) ct15), sl15⟩) (c15 : PySem.W.codeIn K (Value.ref qc15) "rectangular_band" = true) (k15 : PySem.W.keepIn K (.ref f15) = true)
    (qk15 : K.lookup qc15 = some ⟨qe15, qd15, .fields qv15, qs15⟩) (qp15 : qv15[11]? = some (.ref qt15)) (qh15 : PySem.W.codeHdIn K qc15 qt15 = true) (qn15 : K.lookup qt15 = none)
    {qe16 : Value} {qd16 : Option Addr} {qv16 : Array Value} {qs16 : Array (Option Value)}
    {od16 an16 : Option Addr} {sl16 : Array (Option Value)} {oc16 kV16 dc16 pm16 ct16 : Value} (a16 : PySem.W.nsIn K mainGlobals "monogenic" = some (some (.ref f16))) (l16 : K.lookup f16 = some ⟨oc16, od16, .func (PySem.W.fnOf "monogenic" "monogenic" (defArgs (topS 21)) (defBody (topS 21)) (defScope (topS 21)) .none kV16 dc16 pm16 an16 (Value.ref qc16) ct16), sl16⟩) (c16 : PySem.W.codeIn K (Value.ref qc16) "monogenic" = true) (k16 : PySem.W.keepIn K (.ref f16) = true)
    (qk16 : K.lookup qc16 = some ⟨qe16, qd16, .fields qv16, qs16⟩) (qp16 : qv16[11]? = some (.ref qt16)) (qh16 : PySem.W.codeHdIn K qc16 qt16 = true) (qn16 : K.lookup qt16 = none)
    {od17 an17 : Option Addr} {sl17 : Array (Option Value)} {oc17 kV17 dc17 pm17 cd17 ct17 : Value} (a17 : PySem.W.nsIn K mainGlobals "_law_reason" = some (some (.ref f17))) (l17 : K.lookup f17 = some ⟨oc17, od17, .func (PySem.W.fnOf "_law_reason" "_law_reason" (defArgs (topS 28)) (defBody (topS 28)) (defScope (topS 28)) .none kV17 dc17 pm17 an17 cd17 ct17), sl17⟩) (c17 : PySem.W.codeIn K cd17 "_law_reason" = true) (k17 : PySem.W.keepIn K (.ref f17) = true)
    {od18 an18 : Option Addr} {sl18 : Array (Option Value)} {oc18 kV18 dc18 pm18 cd18 ct18 : Value} (a18 : PySem.W.nsIn K mainGlobals "_law_refusals" = some (some (.ref f18))) (l18 : K.lookup f18 = some ⟨oc18, od18, .func (PySem.W.fnOf "_law_refusals" "_law_refusals" (defArgs (topS 31)) (defBody (topS 31)) (defScope (topS 31)) .none kV18 dc18 pm18 an18 cd18 ct18), sl18⟩) (c18 : PySem.W.codeIn K cd18 "_law_refusals" = true) (k18 : PySem.W.keepIn K (.ref f18) = true)
    {od19 an19 : Option Addr} {sl19 : Array (Option Value)} {oc19 kV19 dc19 pm19 cd19 ct19 : Value} (a19 : PySem.W.nsIn K mainGlobals "_law_band" = some (some (.ref f19))) (l19 : K.lookup f19 = some ⟨oc19, od19, .func (PySem.W.fnOf "_law_band" "_law_band" (defArgs (topS 29)) (defBody (topS 29)) (defScope (topS 29)) .none kV19 dc19 pm19 an19 cd19 ct19), sl19⟩) (c19 : PySem.W.codeIn K cd19 "_law_band" = true) (k19 : PySem.W.keepIn K (.ref f19) = true)
    {od20 an20 : Option Addr} {sl20 : Array (Option Value)} {oc20 kV20 dc20 pm20 cd20 ct20 : Value} (a20 : PySem.W.nsIn K mainGlobals "_law_brandt" = some (some (.ref f20))) (l20 : K.lookup f20 = some ⟨oc20, od20, .func (PySem.W.fnOf "_law_brandt" "_law_brandt" (defArgs (topS 30)) (defBody (topS 30)) (defScope (topS 30)) .none kV20 dc20 pm20 an20 cd20 ct20), sl20⟩) (c20 : PySem.W.codeIn K cd20 "_law_brandt" = true) (k20 : PySem.W.keepIn K (.ref f20) = true)
    {od21 an21 : Option Addr} {sl21 : Array (Option Value)} {oc21 kV21 dc21 pm21 cd21 ct21 : Value} (a21 : PySem.W.nsIn K mainGlobals "law" = some (some (.ref f21))) (l21 : K.lookup f21 = some ⟨oc21, od21, .func (PySem.W.fnOf "law" "law" (defArgs (topS 32)) (defBody (topS 32)) (defScope (topS 32)) .none kV21 dc21 pm21 an21 cd21 ct21), sl21⟩) (c21 : PySem.W.codeIn K cd21 "law" = true) (k21 : PySem.W.keepIn K (.ref f21) = true)
    (qq10_11 : qt10 ≠ qt11)
    (qq10_12 : qt10 ≠ qt12)
    (qq10_13 : qt10 ≠ qt13)
    (qq10_14 : qt10 ≠ qt14)
    (qq10_15 : qt10 ≠ qt15)
    (qq10_16 : qt10 ≠ qt16)
    (qq11_12 : qt11 ≠ qt12)
    (qq11_13 : qt11 ≠ qt13)
    (qq11_14 : qt11 ≠ qt14)
    (qq11_15 : qt11 ≠ qt15)
    (qq11_16 : qt11 ≠ qt16)
    (qq12_13 : qt12 ≠ qt13)
    (qq12_14 : qt12 ≠ qt14)
    (qq12_15 : qt12 ≠ qt15)
    (qq12_16 : qt12 ≠ qt16)
    (qq13_14 : qt13 ≠ qt14)
    (qq13_15 : qt13 ≠ qt15)
    (qq13_16 : qt13 ≠ qt16)
    (qq14_15 : qt14 ≠ qt15)
    (qq14_16 : qt14 ≠ qt16)
    (qq15_16 : qt15 ≠ qt16)
    (ET : ∀ y ∈ (["null_semigroup", "left_zero", "right_zero", "cyclic_group", "brandt", "rectangular_band", "monogenic"] : List Str), EmptyTab K mg y h)
    (L : LawTrue) :
    ∃ (fd : FuncData) (cs : List (Addr × Addr)) (sp : Sp), (∀ p ∈ cs, h.get? p.2 = some { cls := .none, data := .fields #[] }) ∧ (∀ p ∈ cs, K.lookup p.2 = none) ∧ (∀ p ∈ cs, PySem.W.CodeHd h p.1 p.2) ∧ (∀ (s : Shared) (u : Value), BindsTo s fd ⟨[u], []⟩ [("script", u)]) ∧
      (∀ (H : Hp) (a : Addr) (ns : List Int), ns.length ≤ 63 → (∀ p ∈ cs, H p.2 = some (.tbl #[])) → (∀ b qs, H b = some (.tbl qs) → ∃ p ∈ cs, p.2 = b) → SqL K H a (ns.map V.int) → sp [.ref a] H (fun v _ => v = .bl true) fun _ _ _ => False) ∧
      ∀ base : Heap, K.In base → base.Ns mainGlobals mg → (∀ p ∈ cs, LamX.TabB base mg p.1 p.2) → FnOk l.prog w K mg base (L2.CX l.prog w) 10 fa fd ["script"] sp := by
  have e := hfa.symm.trans (PySem.W.mg_of X G a21)
  cases e
  have FXI := fun_mk (st := (inClass (topS 4) 0)) lXI cXI kXI
  have bXI := FXI.binds (ps := ["self", "reason"]) fun _ _ _ _ _ _ us hl => match us, hl with | [_, _], _ => rfl
  have F0 := fun_mk (st := (topS 26)) l0 c0 k0
  have b0 := F0.binds (ps := ["script"]) fun _ _ _ _ _ _ us hl => match us, hl with | [_], _ => rfl
  have F1 := fun_mk (st := (topS 27)) l1 c1 k1
  have b1 := F1.binds (ps := ["state", "m"]) fun _ _ _ _ _ _ us hl => match us, hl with | [_, _], _ => rfl
  have F2 := fun_mk (st := (topS 6)) l2 c2 k2
  have b2 := F2.binds (ps := ["value"]) fun _ _ _ _ _ _ us hl => match us, hl with | [_], _ => rfl
  have F3 := fun_mk (st := (topS 24)) l3 c3 k3
  have b3 := F3.binds (ps := ["sizes"]) fun _ _ _ _ _ _ us hl => match us, hl with | [_], _ => rfl
  have F4 := fun_mk (st := (topS 13)) l4 c4 k4
  have b4 := F4.binds (ps := ["many"]) fun _ _ _ _ _ _ us hl => match us, hl with | [_], _ => rfl
  have F5 := fun_mk (st := (topS 7)) l5 c5 k5
  have b5 := F5.binds (ps := ["value", "n"]) fun _ _ _ _ _ _ us hl => match us, hl with | [_, _], _ => rfl
  have F6 := fun_mk (st := (topS 11)) l6 c6 k6
  have b6 := F6.binds (ps := ["value"]) fun _ _ _ _ _ _ us hl => match us, hl with | [_], _ => rfl
  have F7 := fun_mk (st := (topS 12)) l7 c7 k7
  have b7 := F7.binds (ps := ["rows"]) fun _ _ _ _ _ _ us hl => match us, hl with | [_], _ => rfl
  have F8 := fun_mk (st := (inClass (topS 10) 0)) l8 c8 k8
  have b8 := F8.binds (ps := ["self", "table"]) fun _ _ _ _ _ _ us hl => match us, hl with | [_, _], _ => rfl
  have F9 := fun_mk (st := (topS 23)) l9 c9 k9
  have b9 := F9.binds (ps := ["n", "times"]) fun _ _ _ _ _ _ us hl => match us, hl with | [_, _], _ => rfl
  have F10 := fun_mk (st := (topS 16)) l10 c10 k10
  have b10 := F10.binds (ps := ["n"]) fun _ _ _ _ _ _ us hl => match us, hl with | [_], _ => rfl
  have F11 := fun_mk (st := (topS 17)) l11 c11 k11
  have b11 := F11.binds (ps := ["n"]) fun _ _ _ _ _ _ us hl => match us, hl with | [_], _ => rfl
  have F12 := fun_mk (st := (topS 18)) l12 c12 k12
  have b12 := F12.binds (ps := ["n"]) fun _ _ _ _ _ _ us hl => match us, hl with | [_], _ => rfl
  have F13 := fun_mk (st := (topS 19)) l13 c13 k13
  have b13 := F13.binds (ps := ["n"]) fun _ _ _ _ _ _ us hl => match us, hl with | [_], _ => rfl
  have F14 := fun_mk (st := (topS 22)) l14 c14 k14
  have b14 := F14.binds (ps := ["m"]) fun _ _ _ _ _ _ us hl => match us, hl with | [_], _ => rfl
  have F15 := fun_mk (st := (topS 20)) l15 c15 k15
  have b15 := F15.binds (ps := ["m", "k"]) fun _ _ _ _ _ _ us hl => match us, hl with | [_, _], _ => rfl
  have F16 := fun_mk (st := (topS 21)) l16 c16 k16
  have b16 := F16.binds (ps := ["index", "period"]) fun _ _ _ _ _ _ us hl => match us, hl with | [_, _], _ => rfl
  have F17 := fun_mk (st := (topS 28)) l17 c17 k17
  have b17 := F17.binds (ps := ["which", "n", "k"]) fun _ _ _ _ _ _ us hl => match us, hl with | [_, _, _], _ => rfl
  have F18 := fun_mk (st := (topS 31)) l18 c18 k18
  have b18 := F18.binds (ps := []) fun _ _ _ _ _ _ us hl => match us, hl with | [], _ => rfl
  have F19 := fun_mk (st := (topS 29)) l19 c19 k19
  have b19 := F19.binds (ps := ["m", "k"]) fun _ _ _ _ _ _ us hl => match us, hl with | [_, _], _ => rfl
  have F20 := fun_mk (st := (topS 30)) l20 c20 k20
  have b20 := F20.binds (ps := ["m"]) fun _ _ _ _ _ _ us hl => match us, hl with | [_], _ => rfl
  have F21 := fun_mk (st := (topS 32)) l21 c21 k21
  have et10 : h.get? qt10 = some { cls := .none, data := .fields #[] } := ET "null_semigroup" (.head _) f10 qc10 qt10 _ _ _ _ _ _ (PySem.W.mg_of X G a10) l10 rfl rfl qk10 qp10
  have et11 : h.get? qt11 = some { cls := .none, data := .fields #[] } := ET "left_zero" (.tail _ (.head _)) f11 qc11 qt11 _ _ _ _ _ _ (PySem.W.mg_of X G a11) l11 rfl rfl qk11 qp11
  have et12 : h.get? qt12 = some { cls := .none, data := .fields #[] } := ET "right_zero" (.tail _ (.tail _ (.head _))) f12 qc12 qt12 _ _ _ _ _ _ (PySem.W.mg_of X G a12) l12 rfl rfl qk12 qp12
  have et13 : h.get? qt13 = some { cls := .none, data := .fields #[] } := ET "cyclic_group" (.tail _ (.tail _ (.tail _ (.head _)))) f13 qc13 qt13 _ _ _ _ _ _ (PySem.W.mg_of X G a13) l13 rfl rfl qk13 qp13
  have et14 : h.get? qt14 = some { cls := .none, data := .fields #[] } := ET "brandt" (.tail _ (.tail _ (.tail _ (.tail _ (.head _))))) f14 qc14 qt14 _ _ _ _ _ _ (PySem.W.mg_of X G a14) l14 rfl rfl qk14 qp14
  have et15 : h.get? qt15 = some { cls := .none, data := .fields #[] } := ET "rectangular_band" (.tail _ (.tail _ (.tail _ (.tail _ (.tail _ (.head _)))))) f15 qc15 qt15 _ _ _ _ _ _ (PySem.W.mg_of X G a15) l15 rfl rfl qk15 qp15
  have et16 : h.get? qt16 = some { cls := .none, data := .fields #[] } := ET "monogenic" (.tail _ (.tail _ (.tail _ (.tail _ (.tail _ (.tail _ (.head _))))))) f16 qc16 qt16 _ _ _ _ _ _ (PySem.W.mg_of X G a16) l16 rfl rfl qk16 qp16
  let tabs : List NdefX.NTab := [(qt10, fun _ _ => (("null_semigroup" : Str) ++ ".<locals>." ++ "<lambda>")), (qt11, fun _ _ => (("left_zero" : Str) ++ ".<locals>." ++ "<lambda>")), (qt12, fun _ _ => (("right_zero" : Str) ++ ".<locals>." ++ "<lambda>")), (qt13, fun _ _ => (("cyclic_group" : Str) ++ ".<locals>." ++ "<lambda>")), (qt14, fun _ _ => (("brandt" : Str) ++ ".<locals>." ++ "times")), (qt15, fun _ _ => (("rectangular_band" : Str) ++ ".<locals>." ++ "<lambda>")), (qt16, fun _ _ => (("monogenic" : Str) ++ ".<locals>." ++ "times"))]
  refine ⟨?fd, [(qc10, qt10), (qc11, qt11), (qc12, qt12), (qc13, qt13), (qc14, qt14), (qc15, qt15), (qc16, qt16)], spLaw K tabs, fun p hp => ?e1, fun p hp => ?e2, fun p hp => ?e3, ?e4, fun H a ns hl h1 h2 hS => ?e5, fun base _ _ TB => ?e6⟩
  case e6 =>
    have OWN10 : (qt10, (fun _ _ => (("null_semigroup" : Str) ++ ".<locals>." ++ "<lambda>") : Nat → Nat → Str)) ∈ tabs ∧ ∀ p ∈ tabs, p.1 = qt10 → p.2 = (fun _ _ => (("null_semigroup" : Str) ++ ".<locals>." ++ "<lambda>") : Nat → Nat → Str) := by
      refine ⟨.head _, fun p hp e => ?_⟩
      simp only [tabs, List.mem_cons, List.not_mem_nil, or_false] at hp
      rcases hp with rfl | rfl | rfl | rfl | rfl | rfl | rfl
      · rfl
      · exact absurd e (Ne.symm qq10_11)
      · exact absurd e (Ne.symm qq10_12)
      · exact absurd e (Ne.symm qq10_13)
      · exact absurd e (Ne.symm qq10_14)
      · exact absurd e (Ne.symm qq10_15)
      · exact absurd e (Ne.symm qq10_16)
    have OWN11 : (qt11, (fun _ _ => (("left_zero" : Str) ++ ".<locals>." ++ "<lambda>") : Nat → Nat → Str)) ∈ tabs ∧ ∀ p ∈ tabs, p.1 = qt11 → p.2 = (fun _ _ => (("left_zero" : Str) ++ ".<locals>." ++ "<lambda>") : Nat → Nat → Str) := by
      refine ⟨.tail _ (.head _), fun p hp e => ?_⟩
      simp only [tabs, List.mem_cons, List.not_mem_nil, or_false] at hp
      rcases hp with rfl | rfl | rfl | rfl | rfl | rfl | rfl
      · exact absurd e qq10_11
      · rfl
      · exact absurd e (Ne.symm qq11_12)
      · exact absurd e (Ne.symm qq11_13)
      · exact absurd e (Ne.symm qq11_14)
      · exact absurd e (Ne.symm qq11_15)
      · exact absurd e (Ne.symm qq11_16)
    have OWN12 : (qt12, (fun _ _ => (("right_zero" : Str) ++ ".<locals>." ++ "<lambda>") : Nat → Nat → Str)) ∈ tabs ∧ ∀ p ∈ tabs, p.1 = qt12 → p.2 = (fun _ _ => (("right_zero" : Str) ++ ".<locals>." ++ "<lambda>") : Nat → Nat → Str) := by
      refine ⟨.tail _ (.tail _ (.head _)), fun p hp e => ?_⟩
      simp only [tabs, List.mem_cons, List.not_mem_nil, or_false] at hp
      rcases hp with rfl | rfl | rfl | rfl | rfl | rfl | rfl
      · exact absurd e qq10_12
      · exact absurd e qq11_12
      · rfl
      · exact absurd e (Ne.symm qq12_13)
      · exact absurd e (Ne.symm qq12_14)
      · exact absurd e (Ne.symm qq12_15)
      · exact absurd e (Ne.symm qq12_16)
    have OWN13 : (qt13, (fun _ _ => (("cyclic_group" : Str) ++ ".<locals>." ++ "<lambda>") : Nat → Nat → Str)) ∈ tabs ∧ ∀ p ∈ tabs, p.1 = qt13 → p.2 = (fun _ _ => (("cyclic_group" : Str) ++ ".<locals>." ++ "<lambda>") : Nat → Nat → Str) := by
      refine ⟨.tail _ (.tail _ (.tail _ (.head _))), fun p hp e => ?_⟩
      simp only [tabs, List.mem_cons, List.not_mem_nil, or_false] at hp
      rcases hp with rfl | rfl | rfl | rfl | rfl | rfl | rfl
      · exact absurd e qq10_13
      · exact absurd e qq11_13
      · exact absurd e qq12_13
      · rfl
      · exact absurd e (Ne.symm qq13_14)
      · exact absurd e (Ne.symm qq13_15)
      · exact absurd e (Ne.symm qq13_16)
    have OWN14 : (qt14, (fun _ _ => (("brandt" : Str) ++ ".<locals>." ++ "times") : Nat → Nat → Str)) ∈ tabs ∧ ∀ p ∈ tabs, p.1 = qt14 → p.2 = (fun _ _ => (("brandt" : Str) ++ ".<locals>." ++ "times") : Nat → Nat → Str) := by
      refine ⟨.tail _ (.tail _ (.tail _ (.tail _ (.head _)))), fun p hp e => ?_⟩
      simp only [tabs, List.mem_cons, List.not_mem_nil, or_false] at hp
      rcases hp with rfl | rfl | rfl | rfl | rfl | rfl | rfl
      · exact absurd e qq10_14
      · exact absurd e qq11_14
      · exact absurd e qq12_14
      · exact absurd e qq13_14
      · rfl
      · exact absurd e (Ne.symm qq14_15)
      · exact absurd e (Ne.symm qq14_16)
    have OWN15 : (qt15, (fun _ _ => (("rectangular_band" : Str) ++ ".<locals>." ++ "<lambda>") : Nat → Nat → Str)) ∈ tabs ∧ ∀ p ∈ tabs, p.1 = qt15 → p.2 = (fun _ _ => (("rectangular_band" : Str) ++ ".<locals>." ++ "<lambda>") : Nat → Nat → Str) := by
      refine ⟨.tail _ (.tail _ (.tail _ (.tail _ (.tail _ (.head _))))), fun p hp e => ?_⟩
      simp only [tabs, List.mem_cons, List.not_mem_nil, or_false] at hp
      rcases hp with rfl | rfl | rfl | rfl | rfl | rfl | rfl
      · exact absurd e qq10_15
      · exact absurd e qq11_15
      · exact absurd e qq12_15
      · exact absurd e qq13_15
      · exact absurd e qq14_15
      · rfl
      · exact absurd e (Ne.symm qq15_16)
    have OWN16 : (qt16, (fun _ _ => (("monogenic" : Str) ++ ".<locals>." ++ "times") : Nat → Nat → Str)) ∈ tabs ∧ ∀ p ∈ tabs, p.1 = qt16 → p.2 = (fun _ _ => (("monogenic" : Str) ++ ".<locals>." ++ "times") : Nat → Nat → Str) := by
      refine ⟨.tail _ (.tail _ (.tail _ (.tail _ (.tail _ (.tail _ (.head _)))))), fun p hp e => ?_⟩
      simp only [tabs, List.mem_cons, List.not_mem_nil, or_false] at hp
      rcases hp with rfl | rfl | rfl | rfl | rfl | rfl | rfl
      · exact absurd e qq10_16
      · exact absurd e qq11_16
      · exact absurd e qq12_16
      · exact absurd e qq13_16
      · exact absurd e qq14_16
      · exact absurd e qq15_16
      · rfl
    have T : Tx K mg ⟨K, 0, 0, fun _ => C0, fun c => match c with | 2 => X2 | _ => X1, tabs, cokK⟩ base := {
      hK := rfl
      hC := rfl
      c_0 := ⟨⟨pg0, hd0, po0, sa0⟩, fun f hf => by
        simp only [fns, List.mem_cons, List.not_mem_nil, or_false] at hf
        rcases hf with rfl | rfl
        · exact nf0_n
        · exact nf0_table⟩
      m_Semigroup := PySem.W.mg_of X G aC0
      i_0 := ⟨⟨pg0, hd0, po0, sa0⟩, j1_0, j2_0, j3_0, j4_0, kit_self⟩
      x_Malformed := ⟨PySem.W.mg_of X G gX1, qX1, kX1, bX1, tX1, iX1, sX1⟩
      x_Refused := ⟨PySem.W.mg_of X G gX2, ⟨⟨_, _, _, _, _, _, _, _, _, _, _, _, _, _, _, lX2, rfl⟩, saX2, bX2, tX2, kX2⟩, ⟨gaX2, ggX2, bX2, hX2⟩, nbX2, iX2, sX2⟩
      f_Refused___init__ := ⟨_, _, FXI, aXI, tXI, bXI⟩
      n_21 := exm_of bX1 iX1 tX1 nX21
      m_MOST := ⟨_, PySem.W.mg_of X G n_MOST⟩
      n_abs := PySem.W.mg_none_of X G n_abs
      n_all := PySem.W.mg_none_of X G n_all
      n_bool := PySem.W.mg_none_of X G n_bool
      n_enumerate := PySem.W.mg_none_of X G n_enumerate
      n_int := PySem.W.mg_none_of X G n_int
      n_isinstance := PySem.W.mg_none_of X G n_isinstance
      n_len := PySem.W.mg_none_of X G n_len
      n_list := PySem.W.mg_none_of X G n_list
      n_range := PySem.W.mg_none_of X G n_range
      n_tuple := PySem.W.mg_none_of X G n_tuple
      f__law_state := ⟨_, _, F0, PySem.W.mg_of X G a0, b0⟩
      f__law_take := ⟨_, _, F1, PySem.W.mg_of X G a1, b1⟩
      f_is_integer := ⟨_, _, F2, PySem.W.mg_of X G a2, b2⟩
      f__need_sizes := ⟨_, _, F3, PySem.W.mg_of X G a3, b3⟩
      f_refuse_large := ⟨_, _, F4, PySem.W.mg_of X G a4, b4⟩
      f_is_below := ⟨_, _, F5, PySem.W.mg_of X G a5, b5⟩
      f_is_table := ⟨_, _, F6, PySem.W.mg_of X G a6, b6⟩
      f_is_associative := ⟨_, _, F7, PySem.W.mg_of X G a7, b7⟩
      f_Semigroup___init__ := ⟨_, _, F8, ⟨mk0, a8, i8, kc0⟩, b8⟩
      f__by_rule := ⟨_, _, F9, PySem.W.mg_of X G a9, b9⟩
      f_null_semigroup := ⟨_, _, F10, PySem.W.mg_of X G a10, b10, qc10, qt10, _, rfl, TB (qc10, qt10) (.head _), OWN10.1, OWN10.2, fun _ _ => rfl⟩
      f_left_zero := ⟨_, _, F11, PySem.W.mg_of X G a11, b11, qc11, qt11, _, rfl, TB (qc11, qt11) (.tail _ (.head _)), OWN11.1, OWN11.2, fun _ _ => rfl⟩
      f_right_zero := ⟨_, _, F12, PySem.W.mg_of X G a12, b12, qc12, qt12, _, rfl, TB (qc12, qt12) (.tail _ (.tail _ (.head _))), OWN12.1, OWN12.2, fun _ _ => rfl⟩
      f_cyclic_group := ⟨_, _, F13, PySem.W.mg_of X G a13, b13, qc13, qt13, _, rfl, TB (qc13, qt13) (.tail _ (.tail _ (.tail _ (.head _)))), OWN13.1, OWN13.2, fun _ _ => rfl⟩
      f_brandt := ⟨_, _, F14, PySem.W.mg_of X G a14, b14, qc14, qt14, _, rfl, TB (qc14, qt14) (.tail _ (.tail _ (.tail _ (.tail _ (.head _))))), OWN14.1, OWN14.2, fun _ _ => rfl⟩
      f_rectangular_band := ⟨_, _, F15, PySem.W.mg_of X G a15, b15, qc15, qt15, _, rfl, TB (qc15, qt15) (.tail _ (.tail _ (.tail _ (.tail _ (.tail _ (.head _)))))), OWN15.1, OWN15.2, fun _ _ => rfl⟩
      f_monogenic := ⟨_, _, F16, PySem.W.mg_of X G a16, b16, qc16, qt16, _, rfl, TB (qc16, qt16) (.tail _ (.tail _ (.tail _ (.tail _ (.tail _ (.tail _ (.head _))))))), OWN16.1, OWN16.2, fun _ _ => rfl⟩
      f__law_reason := ⟨_, _, F17, PySem.W.mg_of X G a17, b17⟩
      f__law_refusals := ⟨_, _, F18, PySem.W.mg_of X G a18, b18⟩
      f__law_band := ⟨_, _, F19, PySem.W.mg_of X G a19, b19⟩
      f__law_brandt := ⟨_, _, F20, PySem.W.mg_of X G a20, b20⟩
      f_law := ⟨_, _, F21, PySem.W.mg_of X G a21, F21.binds (ps := ["script"]) fun _ _ _ _ _ _ us hl => match us, hl with | [_], _ => rfl⟩ }
    exact ok_law F21 T L
  case e4 => exact fun s v => .of_eq rfl
  case e1 =>
    simp only [List.mem_cons, List.not_mem_nil, or_false] at hp
    rcases hp with rfl | rfl | rfl | rfl | rfl | rfl | rfl
    · exact et10
    · exact et11
    · exact et12
    · exact et13
    · exact et14
    · exact et15
    · exact et16
  case e2 =>
    simp only [List.mem_cons, List.not_mem_nil, or_false] at hp
    rcases hp with rfl | rfl | rfl | rfl | rfl | rfl | rfl
    · exact qn10
    · exact qn11
    · exact qn12
    · exact qn13
    · exact qn14
    · exact qn15
    · exact qn16
  case e3 =>
    simp only [List.mem_cons, List.not_mem_nil, or_false] at hp
    rcases hp with rfl | rfl | rfl | rfl | rfl | rfl | rfl
    · exact PySem.W.codeHd_of_K X qh10
    · exact PySem.W.codeHd_of_K X qh11
    · exact PySem.W.codeHd_of_K X qh12
    · exact PySem.W.codeHd_of_K X qh13
    · exact PySem.W.codeHd_of_K X qh14
    · exact PySem.W.codeHd_of_K X qh15
    · exact PySem.W.codeHd_of_K X qh16
  case e5 =>
    refine ⟨a, ns, rfl, hS, hl, ⟨fun t m => .nil ?_, fun p ps e => ?_⟩, fun _ => rfl⟩
    · simp only [tabs, List.mem_cons, List.not_mem_nil, or_false] at m
      rcases m with rfl | rfl | rfl | rfl | rfl | rfl | rfl
      · exact h1 (qc10, qt10) (.head _)
      · exact h1 (qc11, qt11) (.tail _ (.head _))
      · exact h1 (qc12, qt12) (.tail _ (.tail _ (.head _)))
      · exact h1 (qc13, qt13) (.tail _ (.tail _ (.tail _ (.head _))))
      · exact h1 (qc14, qt14) (.tail _ (.tail _ (.tail _ (.tail _ (.head _)))))
      · exact h1 (qc15, qt15) (.tail _ (.tail _ (.tail _ (.tail _ (.tail _ (.head _))))))
      · exact h1 (qc16, qt16) (.tail _ (.tail _ (.tail _ (.tail _ (.tail _ (.tail _ (.head _)))))))
    · obtain ⟨p2, m, e2⟩ := h2 p ps e
      simp only [List.mem_cons, List.not_mem_nil, or_false] at m
      rcases m with rfl | rfl | rfl | rfl | rfl | rfl | rfl
      · exact ⟨(qt10, fun _ _ => (("null_semigroup" : Str) ++ ".<locals>." ++ "<lambda>")), .head _, e2⟩
      · exact ⟨(qt11, fun _ _ => (("left_zero" : Str) ++ ".<locals>." ++ "<lambda>")), .tail _ (.head _), e2⟩
      · exact ⟨(qt12, fun _ _ => (("right_zero" : Str) ++ ".<locals>." ++ "<lambda>")), .tail _ (.tail _ (.head _)), e2⟩
      · exact ⟨(qt13, fun _ _ => (("cyclic_group" : Str) ++ ".<locals>." ++ "<lambda>")), .tail _ (.tail _ (.tail _ (.head _))), e2⟩
      · exact ⟨(qt14, fun _ _ => (("brandt" : Str) ++ ".<locals>." ++ "times")), .tail _ (.tail _ (.tail _ (.tail _ (.head _)))), e2⟩
      · exact ⟨(qt15, fun _ _ => (("rectangular_band" : Str) ++ ".<locals>." ++ "<lambda>")), .tail _ (.tail _ (.tail _ (.tail _ (.tail _ (.head _))))), e2⟩
      · exact ⟨(qt16, fun _ _ => (("monogenic" : Str) ++ ".<locals>." ++ "times")), .tail _ (.tail _ (.tail _ (.tail _ (.tail _ (.tail _ (.head _)))))), e2⟩
end G
open PySem PySem.W PyProof.Rows
set_option maxHeartbeats 0 in
theorem PySem.Challenge.cw_reesblocks_k07_named_semigroups_holds : PySem.Challenge.rw_reesblocks_k07_named_semigroups.Holds := by
  w_on; o_law; k_head; (case hw => w_witness2)
  k_fill
  refine G.walk_tab (l := PySem.Challenge.rw_reesblocks_k07_named_semigroups) (n := 63) (k := 10) (x := "script") (names := ["null_semigroup", "left_zero", "right_zero", "cyclic_group", "brandt", "rectangular_band", "monogenic"]) (CX := fun w => L2.CX PySem.Challenge.rw_reesblocks_k07_named_semigroups.prog w) rfl (by decide) rfl ⟨rfl, by decide, by decide⟩ (by decide +kernel) (fun w h Y => by first | exact PySem.W.kIn_of Y | exact PySem.W.km_in_of Y) ?F (fun _ _ _ _ _ h => by
    obtain ⟨_, _, _, _, _, _, _, _, _, _, _, _, z⟩ := h
    exact z)
  case F =>
    intro w mg fa h KX GN hmg ET
    refine' G.all_mk KX GN hmg ?aC0 ?pg0 ?hd0 ?po0 ?sa0 ?mk0 ?kc0 ?nf0_n ?nf0_table ?j1_0 ?j2_0 ?j3_0 ?j4_0 ?gX1 ?qX1 ?kX1 ?bX1 ?tX1 ?iX1 ?sX1 ?gX2 ?lX2 ?saX2 ?gaX2 ?ggX2 ?nbX2 ?kX2 ?bX2 ?tX2 ?hX2 ?iX2 ?sX2 ?aXI ?tXI ?lXI ?cXI ?kXI ?nX21 ?n_MOST ?n_abs ?n_all ?n_bool ?n_enumerate ?n_int ?n_isinstance ?n_len ?n_list ?n_range ?n_tuple ?a0 ?l0 ?c0 ?k0 ?a1 ?l1 ?c1 ?k1 ?a2 ?l2 ?c2 ?k2 ?a3 ?l3 ?c3 ?k3 ?a4 ?l4 ?c4 ?k4 ?a5 ?l5 ?c5 ?k5 ?a6 ?l6 ?c6 ?k6 ?a7 ?l7 ?c7 ?k7 ?a8 ?i8 ?l8 ?c8 ?k8 ?a9 ?l9 ?c9 ?k9 ?a10 ?l10 ?c10 ?k10 ?qk10 ?qp10 ?qh10 ?qn10 ?a11 ?l11 ?c11 ?k11 ?qk11 ?qp11 ?qh11 ?qn11 ?a12 ?l12 ?c12 ?k12 ?qk12 ?qp12 ?qh12 ?qn12 ?a13 ?l13 ?c13 ?k13 ?qk13 ?qp13 ?qh13 ?qn13 ?a14 ?l14 ?c14 ?k14 ?qk14 ?qp14 ?qh14 ?qn14 ?a15 ?l15 ?c15 ?k15 ?qk15 ?qp15 ?qh15 ?qn15 ?a16 ?l16 ?c16 ?k16 ?qk16 ?qp16 ?qh16 ?qn16 ?a17 ?l17 ?c17 ?k17 ?a18 ?l18 ?c18 ?k18 ?a19 ?l19 ?c19 ?k19 ?a20 ?l20 ?c20 ?k20 ?a21 ?l21 ?c21 ?k21 ?qq10_11 ?qq10_12 ?qq10_13 ?qq10_14 ?qq10_15 ?qq10_16 ?qq11_12 ?qq11_13 ?qq11_14 ?qq11_15 ?qq11_16 ?qq12_13 ?qq12_14 ?qq12_15 ?qq12_16 ?qq13_14 ?qq13_15 ?qq13_16 ?qq14_15 ?qq14_16 ?qq15_16 ET G.law_true
    (case aC0 => k_is); (case pg0 => k_is); (case hd0 => k_is); (case po0 => k_is); (case sa0 => k_is); (case mk0 => k_is); (case kc0 => k_is); (case nf0_n => k_is); (case nf0_table => k_is); (case j1_0 => k_is); (case j2_0 => k_is); (case j3_0 => k_is); (case j4_0 => k_is); (case gX1 => k_is); (case qX1 => k_exc); (case kX1 => k_is); (case bX1 => k_is); (case tX1 => k_is); (case iX1 => k_is); (case sX1 => first | rfl | k_is); (case gX2 => k_is); (case lX2 => k_is); (case saX2 => k_is); (case gaX2 => k_is); (case ggX2 => k_is); (case nbX2 => k_is); (case kX2 => k_is); (case bX2 => k_is); (case tX2 => k_is); (case hX2 => k_is); (case iX2 => k_is); (case sX2 => first | rfl | k_is); (case aXI => k_is); (case tXI => k_is); (case lXI => k_is); (case cXI => k_is); (case kXI => k_is); (case nX21 => first | rfl | k_is); (case n_MOST => k_is); (case n_abs => k_is); (case n_all => k_is); (case n_bool => k_is); (case n_enumerate => k_is); (case n_int => k_is); (case n_isinstance => k_is); (case n_len => k_is); (case n_list => k_is); (case n_range => k_is); (case n_tuple => k_is); (case a0 => k_is); (case l0 => k_is); (case c0 => k_is); (case k0 => k_is); (case a1 => k_is); (case l1 => k_is); (case c1 => k_is); (case k1 => k_is); (case a2 => k_is); (case l2 => k_is); (case c2 => k_is); (case k2 => k_is); (case a3 => k_is); (case l3 => k_is); (case c3 => k_is); (case k3 => k_is); (case a4 => k_is); (case l4 => k_is); (case c4 => k_is); (case k4 => k_is); (case a5 => k_is); (case l5 => k_is); (case c5 => k_is); (case k5 => k_is); (case a6 => k_is); (case l6 => k_is); (case c6 => k_is); (case k6 => k_is); (case a7 => k_is); (case l7 => k_is); (case c7 => k_is); (case k7 => k_is); (case a8 => k_is); (case i8 => k_is); (case l8 => k_is); (case c8 => k_is); (case k8 => k_is); (case a9 => k_is); (case l9 => k_is); (case c9 => k_is); (case k9 => k_is); (case a10 => k_is); (case l10 => k_is); (case c10 => k_is); (case k10 => k_is); (case qk10 => k_is); (case qp10 => first | rfl | k_is); (case qh10 => first | k_is | rfl | decide); (case qn10 => first | k_is | rfl | decide); (case a11 => k_is); (case l11 => k_is); (case c11 => k_is); (case k11 => k_is); (case qk11 => k_is); (case qp11 => first | rfl | k_is); (case qh11 => first | k_is | rfl | decide); (case qn11 => first | k_is | rfl | decide); (case a12 => k_is); (case l12 => k_is); (case c12 => k_is); (case k12 => k_is); (case qk12 => k_is); (case qp12 => first | rfl | k_is); (case qh12 => first | k_is | rfl | decide); (case qn12 => first | k_is | rfl | decide); (case a13 => k_is); (case l13 => k_is); (case c13 => k_is); (case k13 => k_is); (case qk13 => k_is); (case qp13 => first | rfl | k_is); (case qh13 => first | k_is | rfl | decide); (case qn13 => first | k_is | rfl | decide); (case a14 => k_is); (case l14 => k_is); (case c14 => k_is); (case k14 => k_is); (case qk14 => k_is); (case qp14 => first | rfl | k_is); (case qh14 => first | k_is | rfl | decide); (case qn14 => first | k_is | rfl | decide); (case a15 => k_is); (case l15 => k_is); (case c15 => k_is); (case k15 => k_is); (case qk15 => k_is); (case qp15 => first | rfl | k_is); (case qh15 => first | k_is | rfl | decide); (case qn15 => first | k_is | rfl | decide); (case a16 => k_is); (case l16 => k_is); (case c16 => k_is); (case k16 => k_is); (case qk16 => k_is); (case qp16 => first | rfl | k_is); (case qh16 => first | k_is | rfl | decide); (case qn16 => first | k_is | rfl | decide); (case a17 => k_is); (case l17 => k_is); (case c17 => k_is); (case k17 => k_is); (case a18 => k_is); (case l18 => k_is); (case c18 => k_is); (case k18 => k_is); (case a19 => k_is); (case l19 => k_is); (case c19 => k_is); (case k19 => k_is); (case a20 => k_is); (case l20 => k_is); (case c20 => k_is); (case k20 => k_is); (case a21 => k_is); (case l21 => k_is); (case c21 => k_is); (case k21 => k_is); (case qq10_11 => first | decide | k_is | omega); (case qq10_12 => first | decide | k_is | omega); (case qq10_13 => first | decide | k_is | omega); (case qq10_14 => first | decide | k_is | omega); (case qq10_15 => first | decide | k_is | omega); (case qq10_16 => first | decide | k_is | omega); (case qq11_12 => first | decide | k_is | omega); (case qq11_13 => first | decide | k_is | omega); (case qq11_14 => first | decide | k_is | omega); (case qq11_15 => first | decide | k_is | omega); (case qq11_16 => first | decide | k_is | omega); (case qq12_13 => first | decide | k_is | omega); (case qq12_14 => first | decide | k_is | omega); (case qq12_15 => first | decide | k_is | omega); (case qq12_16 => first | decide | k_is | omega); (case qq13_14 => first | decide | k_is | omega); (case qq13_15 => first | decide | k_is | omega); (case qq13_16 => first | decide | k_is | omega); (case qq14_15 => first | decide | k_is | omega); (case qq14_16 => first | decide | k_is | omega); (case qq15_16 => first | decide | k_is | omega)

