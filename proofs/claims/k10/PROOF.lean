import PyProof.Rows.All
import Wide.All
import OpenK.AllK
import Wide.FinOn
import KE.KStateDown
import HandS.ForMost
import HandS.More
import HandS.WordsExc
import HandS.Defaults
import HandS.Wide
import HandS.TupAny
import HandS.IsInst
import HandS.Head0
import HandS.Head1
import HandS.Head2
import HandS.HeadEnd
import HandS.HeadHook1
import HandS.HeadHook2
import HandS.Deep
import HandS.Style
import HandS.RevRange
import KE.LtData
import KE.DataFind
import KE.KRevSl
import HandS.Walk
import HandS.HotCalls
import HandS.ExcCtx
import HandS.ExcIs
import HandS.Nested
import HandS.Lambda
import HandS.HeadHook4
import HandS.EndTab
import HandS.Zip
import HandS.NoneIn
import HandS.TupMul
import HandS.OwnEq
import HandS.IsInst
import PySem.Challenge.RW_pourback_k10_whole_tubs_kept_deed_by_dee
set_option Elab.async false
set_option linter.all false
set_option maxRecDepth 100000
set_option maxHeartbeats 8000000
namespace Dn
open PySem PySem.Spec PyProof.Rows L2

/-! ## data and heaps that grow -/
abbrev KSp : Type := PySem.W.Frag → Sp
/-- a tuple that the module holds -/
def KT (K : PySem.W.Frag) (a : Addr) (xs : List V) : Prop := ∃ (ob : Obj) (its : Array Value) (n : Nat), K.lookup a = some ob ∧ ob.cls = .type "tuple" ∧ ob.dict = none ∧ ob.data = .seq its n ∧ its.size ≤ sizeLine ∧ Vals xs its.toList
theorem KT.sq {K : PySem.W.Frag} {a : Addr} {xs : List V} (h : KT K a xs) (H : Hp) : SqT K H a xs := by
  obtain ⟨ob, its, n, h1, h2, _, h4, h5, h6⟩ := h
  exact .inr ⟨ob, its, n, h1, h2, h4, h5, h6⟩
/-- a tuple whose object is known, and has no dict -/
def Tz (K : PySem.W.Frag) (H : Hp) (a : Addr) (xs : List V) : Prop := (∃ ob, H a = some (.frz ob (.tup xs)) ∧ ob.dict = none) ∨ KT K a xs
theorem Tz.mono {K : PySem.W.Frag} {G H : Hp} {a : Addr} {xs : List V} (e : Same G H) : Tz K G a xs → Tz K H a xs
  | .inl ⟨ob, h, d⟩ => .inl ⟨ob, e _ _ h, d⟩
  | .inr h => .inr h
theorem Tz.sq {K : PySem.W.Frag} {G H : Hp} {a : Addr} {xs : List V} (h : Tz K G a xs) (e : Same G H) : SqT K H a xs := by
  rcases h with ⟨ob, h, _⟩ | h
  · exact .inl (.inr ⟨ob, e _ _ h⟩)
  · exact h.sq H
theorem Tz.new {K : PySem.W.Frag} {H : Hp} {a : Addr} {ob : Obj} {xs : List V} (d : ob.dict = none) : Tz K (upd H a (.frz ob (.tup xs))) a xs := .inl ⟨ob, upd_same, d⟩
mutual
/-- a value and the data that it stands for in a heap -/
inductive Dd (K : PySem.W.Frag) (H : Hp) : V → PyData → Prop
  | non : Dd K H .non .none
  | bl (b : Bool) : Dd K H (.bl b) (.bool b)
  | int (i : Int) : Dd K H (.int i) (.int i)
  | str (x : Str) : Dd K H (.str x) (.str x)
  | lst {a : Addr} {xs : List V} {ds : List PyData} (h : H a = some (.lst xs)) (hs : Ds K H xs ds) : Dd K H (.ref a) (.list ds)
  | tup {a : Addr} {xs : List V} {ds : List PyData} (h : Tz K H a xs) (hs : Ds K H xs ds) : Dd K H (.ref a) (.tuple ds)
inductive Ds (K : PySem.W.Frag) (H : Hp) : List V → List PyData → Prop
  | nil : Ds K H [] []
  | cons {v : V} {vs : List V} {d : PyData} {ds : List PyData} (h : Dd K H v d) (hs : Ds K H vs ds) : Ds K H (v :: vs) (d :: ds)
end
mutual
theorem dmono {K : PySem.W.Frag} {G G' : Hp} (e : Same G G') : ∀ (d : PyData) (v : V), Dd K G v d → Dd K G' v d
  | .none, _, h => by cases h; exact .non
  | .bool _, _, h => by cases h; exact .bl _
  | .int _, _, h => by cases h; exact .int _
  | .str _, _, h => by cases h; exact .str _
  | .list ds, _, h => by cases h with | lst a b => exact .lst (e _ _ a) (dmonoAll e ds _ b)
  | .tuple ds, _, h => by cases h with | tup a b => exact .tup (a.mono e) (dmonoAll e ds _ b)
  | .dict _, _, h => by cases h
theorem dmonoAll {K : PySem.W.Frag} {G G' : Hp} (e : Same G G') : ∀ (ds : List PyData) (vs : List V), Ds K G vs ds → Ds K G' vs ds
  | [], _, h => by cases h; exact .nil
  | d :: ds, _, h => by cases h with | cons a b => exact .cons (dmono e d _ a) (dmonoAll e ds _ b)
end
mutual
theorem ddp {K : PySem.W.Frag} {G : Hp} : ∀ (d : PyData) (v : V), Dd K G v d → Dp K G v d
  | .none, _, h => by cases h; exact .non
  | .bool _, _, h => by cases h; exact .bl _
  | .int _, _, h => by cases h; exact .int _
  | .str _, _, h => by cases h; exact .str _
  | .list ds, _, h => by cases h with | lst a b => exact .lst (.inl (.inl a)) (ddpAll ds _ b)
  | .tuple ds, _, h => by cases h with | tup a b => exact .tup (a.sq (.refl _)) (ddpAll ds _ b)
  | .dict _, _, h => by cases h
theorem ddpAll {K : PySem.W.Frag} {G : Hp} : ∀ (ds : List PyData) (vs : List V), Ds K G vs ds → DpAll K G vs ds
  | [], _, h => by cases h; exact .nil
  | d :: ds, _, h => by cases h with | cons a b => exact .cons (ddp d _ a) (ddpAll ds _ b)
end
theorem Ds.len {K : PySem.W.Frag} {G : Hp} : ∀ {vs : List V} {ds : List PyData}, Ds K G vs ds → vs.length = ds.length
  | _, _, .nil => rfl
  | _, _, .cons _ h => congrArg (· + 1) (Ds.len h)
theorem Ds.at {K : PySem.W.Frag} {G : Hp} : ∀ {vs : List V} {ds : List PyData} {i : Nat} {d : PyData}, Ds K G vs ds → ds[i]? = some d → ∃ v, vs[i]? = some v ∧ Dd K G v d
  | _, _, i, d, .nil, h => by simp at h
  | _, _, 0, d, .cons a _, h => by
    have e := Option.some.inj h
    subst e
    exact ⟨_, rfl, a⟩
  | _, _, i + 1, d, .cons _ b, h => Ds.at (i := i) b h
theorem Ds.atV {K : PySem.W.Frag} {G : Hp} : ∀ {vs : List V} {ds : List PyData} {i : Nat} {v : V}, Ds K G vs ds → vs[i]? = some v → ∃ d, ds[i]? = some d ∧ Dd K G v d
  | _, _, i, d, .nil, h => by simp at h
  | _, _, 0, d, .cons a _, h => by
    have e := Option.some.inj h
    subst e
    exact ⟨_, rfl, a⟩
  | _, _, i + 1, d, .cons _ b, h => Ds.atV (i := i) b h
theorem Ds.app {K : PySem.W.Frag} {G : Hp} : ∀ {vs us : List V} {ds es : List PyData}, Ds K G vs ds → Ds K G us es → Ds K G (vs ++ us) (ds ++ es)
  | _, _, _, _, .nil, h => h
  | _, _, _, _, .cons a b, h => .cons a (Ds.app b h)
theorem Ds.one {K : PySem.W.Frag} {G : Hp} {v : V} {d : PyData} (h : Dd K G v d) : Ds K G [v] [d] := .cons h .nil
theorem Ds.drop {K : PySem.W.Frag} {G : Hp} : ∀ (n : Nat) {vs : List V} {ds : List PyData}, Ds K G vs ds → Ds K G (vs.drop n) (ds.drop n)
  | 0, _, _, h => h
  | n + 1, _, _, .nil => .nil
  | n + 1, _, _, .cons _ b => Ds.drop n b
theorem Ds.take {K : PySem.W.Frag} {G : Hp} : ∀ (n : Nat) {vs : List V} {ds : List PyData}, Ds K G vs ds → Ds K G (vs.take n) (ds.take n)
  | 0, _, _, h => .nil
  | n + 1, _, _, .nil => .nil
  | n + 1, _, _, .cons a b => .cons a (Ds.take n b)
theorem Ds.ints {K : PySem.W.Frag} {G : Hp} : ∀ (ns : List Int), Ds K G (ns.map V.int) (ns.map PyData.int)
  | [] => .nil
  | n :: r => .cons (.int n) (Ds.ints r)
theorem Ds.intsV {K : PySem.W.Frag} {G : Hp} : ∀ {ns : List Int} {vs : List V}, Ds K G vs (ns.map PyData.int) → vs = ns.map V.int
  | [], _, .nil => rfl
  | n :: r, _, .cons a b => by
    cases a
    rw [Ds.intsV b]
    rfl
theorem Ds.bls {K : PySem.W.Frag} {G : Hp} : ∀ {ns : List Bool} {vs : List V}, Ds K G vs (ns.map PyData.bool) → vs = ns.map V.bl
  | [], _, .nil => rfl
  | n :: r, _, .cons a b => by
    cases a
    rw [Ds.bls b]
    rfl
theorem same_upd {H : Hp} {p : Addr} {o : HO} (h : H p = none) : Same H (upd H p o) := fun b x e => by
  rw [upd_ne (ne_of_none e h)]
  exact e
theorem same_upd2 {G H : Hp} {p : Addr} {o : HO} (e : Same G H) (h : G p = none) : Same G (upd H p o) := fun b x q => by
  rw [upd_ne (ne_of_none q h)]
  exact e b x q
theorem same_both {G H : Hp} {p : Addr} {o : HO} (e : Same G H) : Same (upd G p o) (upd H p o) := fun b x q => by
  by_cases hb : b = p
  · subst hb
    rw [upd_same] at q ⊢
    exact q
  · rw [upd_ne hb] at q ⊢
    exact e b x q
theorem same_in {G H : Hp} {p : Addr} {o : HO} (e : Same G H) (h : H p = some o) : Same (upd G p o) H := fun b x q => by
  by_cases hb : b = p
  · subst hb
    rw [upd_same] at q
    rw [← q]
    exact h
  · rw [upd_ne hb] at q
    exact e b x q

/-! ## steps of a world: what stands still (G) within all (H) -/
structure Stp (G H G' H' : Hp) : Prop where
  g : Same G G'
  i : Same G' H'
  h : Same H H'
  k : ∀ a, H a ≠ none → G a = none → G' a = none
theorem Stp.refl {G H : Hp} (e : Same G H) : Stp G H G H := ⟨.refl _, e, .refl _, fun _ _ h => h⟩
theorem Stp.trans {G H G1 H1 G2 H2 : Hp} (a : Stp G H G1 H1) (b : Stp G1 H1 G2 H2) : Stp G H G2 H2 :=
  ⟨a.g.trans b.g, b.i, a.h.trans b.h, fun x hx gx => b.k x (fun z => by
    cases q : H x with
    | none => exact hx q
    | some o =>
      rw [a.h x o q] at z
      cases z) (a.k x hx gx)⟩
theorem Stp.new {G H : Hp} {p : Addr} {o : HO} (e : Same G H) (h : H p = none) : Stp G H (upd G p o) (upd H p o) :=
  ⟨same_upd (e.free h), same_both e, same_upd h, fun a ha ga => by
    rw [upd_ne (fun z => ha (by rw [z]; exact h))]
    exact ga⟩
/-- an object that came with the step, taken to what stands still -/
theorem Stp.freeze {G H G1 H1 : Hp} {p : Addr} {o : HO} (s : Stp G H G1 H1) (hp : H p = none) (g : G1 p = none) (h : H1 p = some o) : Stp G H (upd G1 p o) H1 :=
  ⟨s.g.trans (same_upd g), same_in s.i h, s.h, fun a ha ga => by
    rw [upd_ne (fun z => ha (by rw [z]; exact hp))]
    exact s.k a ha ga⟩
structure Wr where
  ok : Hp → Hp → Prop
  R : Hp → Hp → Hp → Hp → Prop
  stb : Addr → Prop
  fl : Bool
  refl : ∀ {G H}, ok G H → R G H G H
  trans : ∀ {G H G1 H1 G2 H2}, R G H G1 H1 → R G1 H1 G2 H2 → R G H G2 H2
  step : ∀ {G H G1 H1}, ok G H → Stp G H G1 H1 → R G H G1 H1
  oks : ∀ {G H G1 H1}, R G H G1 H1 → ok G1 H1
  sub : ∀ {G H}, ok G H → Same G H
  g : ∀ {G H G1 H1}, R G H G1 H1 → Same G G1
  own : ∀ {G H G1 H1 a o}, R G H G1 H1 → stb a → G a = none → H a = some o → H1 a = some o ∧ G1 a = none
  fresh : ∀ {G H G1 H1 a}, R G H G1 H1 → H1 a = none → H a = none
  new : ∀ {G H a}, ok G H → H a = none → stb a
  frz : ∀ {G H G1 H1 a o}, R G H G1 H1 → stb a → H a = none → G1 a = none → H1 a = some o → R G H (upd G1 a o) H1
  chg : ∀ {G H G1 H1 a o o'}, R G H G1 H1 → stb a → H a = none → G1 a = none → H1 a = some o → R G H G1 (upd H1 a o')
/-- nothing changes but what is made -/
def pw : Wr where
  ok := fun G H => Same G H
  R := fun G H G1 H1 => Stp G H G1 H1
  stb := fun _ => True
  fl := false
  refl := fun h => .refl h
  trans := Stp.trans
  step := fun _ h => h
  oks := fun h => h.i
  sub := fun h => h
  g := fun h => h.g
  own := fun s _ g h => ⟨s.h _ _ h, s.k _ (by rw [h]; exact fun z => nomatch z) g⟩
  fresh := fun s h => s.h.free h
  new := fun _ _ => trivial
  frz := fun s _ h0 g1 h1 => s.freeze h0 g1 h1
  chg := fun s _ h0 g1 h1 => ⟨s.g, same_upd2 s.i g1, same_upd2 s.h h0, s.k⟩
/-- a bag at b: a list of draws and a number -/
def BagOk (b : Addr) (G H : Hp) : Prop := Same G H ∧ G b = none ∧ ∃ (l : Addr) (k : Int) (ns : List Int), H b = some (.lst [.ref l, .int k]) ∧ G l = some (.lst (ns.map V.int)) ∧ ns.length = 400
structure BagR (b : Addr) (G H G1 H1 : Hp) : Prop where
  g : Same G G1
  ok : BagOk b G1 H1
  h : ∀ a o, a ≠ b → H a = some o → H1 a = some o
  k : ∀ a, H a ≠ none → G a = none → G1 a = none
def bw (b : Addr) : Wr where
  ok := fun G H => BagOk b G H
  R := BagR b
  stb := fun a => a ≠ b
  fl := false
  refl := fun h => ⟨.refl _, h, fun _ _ _ q => q, fun _ _ q => q⟩
  trans := fun {G H G1 H1 G2 H2} a c => ⟨a.g.trans c.g, c.ok, fun x o hx q => c.h x o hx (a.h x o hx q), fun x hx gx => c.k x (fun z => by
    by_cases hb : x = b
    · obtain ⟨_, _, l, k, ns, e, _⟩ := a.ok
      rw [hb, e] at z
      cases z
    · cases q : H x with
      | none => exact hx q
      | some o =>
        rw [a.h x o hb q] at z
        cases z) (a.k x hx gx)⟩
  step := fun o s => ⟨s.g, by
    obtain ⟨i, gb, l, k, ns, e, hl, n⟩ := o
    exact ⟨s.i, s.k b (by rw [e]; exact fun z => nomatch z) gb, l, k, ns, s.h _ _ e, s.g _ _ hl, n⟩, fun a o _ q => s.h a o q, s.k⟩
  oks := fun h => h.ok
  sub := fun h => h.1
  g := fun h => h.g
  own := fun s ha g h => ⟨s.h _ _ ha h, s.k _ (by rw [h]; exact fun z => nomatch z) g⟩
  fresh := fun {G H G1 H1 a} s h => by
    cases q : H a with
    | none => rfl
    | some o =>
      by_cases hb : a = b
      · obtain ⟨_, _, l, k, ns, e, _⟩ := s.ok
        rw [hb, e] at h
        cases h
      · rw [s.h a o hb q] at h
        cases h
  new := fun {G H a} o h z => by
    obtain ⟨_, _, l, k, ns, e, _⟩ := o
    rw [z, e] at h
    cases h
  frz := fun {G H G1 H1 a o} s ha h0 g1 h1 => ⟨s.g.trans (same_upd g1), by
    obtain ⟨i, gb, l, k, ns, e, hl, n⟩ := s.ok
    exact ⟨same_in i h1, by rw [upd_ne (Ne.symm ha)]; exact gb, l, k, ns, e, same_upd g1 _ _ hl, n⟩, s.h, fun x hx gx => by
      rw [upd_ne (fun z => hx (by rw [z]; exact h0))]
      exact s.k x hx gx⟩
  chg := fun {G H G1 H1 a o o'} s ha h0 g1 h1 => ⟨s.g, by
    obtain ⟨i, gb, l, k, ns, e, hl, n⟩ := s.ok
    exact ⟨same_upd2 i g1, gb, l, k, ns, by rw [upd_ne (Ne.symm ha)]; exact e, hl, n⟩, fun x o hx q => by
      rw [upd_ne (fun z => by rw [z, h0] at q; cases q)]
      exact s.h x o hx q, s.k⟩

/-- the same worlds, kept tubs allowed -/
def pwk : Wr := { pw with fl := true }
def bwk (b : Addr) : Wr := { bw b with fl := true }
/-! ## tubs kept: an instance with its dict, two lists -/
structure Kq where
  C : Addr
  o : Addr
  dx : Addr
  lm : Addr
  ls : Addr
abbrev Kq.fs (q : Kq) (vp : V) : List (Str × V) := [("parts", vp), ("made", .ref q.lm), ("shares", .ref q.ls)]
structure KqAt (K : PySem.W.Frag) (W : Wr) (G H : Hp) (q : Kq) (pt : PyData) (ms ss : List PyData) : Prop where
  go : G q.o = none
  gd : G q.dx = none
  gm : G q.lm = none
  gs : G q.ls = none
  to : W.stb q.o
  td : W.stb q.dx
  tm : W.stb q.lm
  ts : W.stb q.ls
  ne : q.lm ≠ q.ls
  ex : ∃ vp us vs, H q.o = some (.ins q.C q.dx (q.fs vp)) ∧ H q.dx = some (.own q.o) ∧ H q.lm = some (.lst us) ∧ H q.ls = some (.lst vs) ∧ Dd K G vp pt ∧ Ds K G us ms ∧ Ds K G vs ss
/-! ## slots -/
inductive Sl where
  | un
  | dat (d : PyData)
  | raw (v : V)
  | own (a : Addr) (xs : List PyData)
  | scr (K1 : PySem.W.Frag) (a : Addr) (ns : List Int)
  | kep (q : Kq) (pt : PyData) (ms ss : List PyData)
/-- what of the heap a slot has of its own -/
def Sl.foot : Sl → List Addr
  | .own a _ => [a]
  | .kep q _ _ _ => [q.o, q.dx, q.lm, q.ls]
  | _ => []
def SlOk (K : PySem.W.Frag) (W : Wr) (G H : Hp) : Sl → Option V → Prop
  | .un, _ => True
  | .dat d, x => ∃ v, x = some v ∧ Dd K G v d
  | .raw v, x => x = some v
  | .own a xs, x => x = some (.ref a) ∧ G a = none ∧ W.stb a ∧ ∃ vs, H a = some (.lst vs) ∧ Ds K G vs xs
  | .scr K1 a ns, x => x = some (.ref a) ∧ SqL K1 G a (ns.map V.int)
  | .kep q pt ms ss, x => x = some (.ref q.o) ∧ W.fl = true ∧ KqAt K W G H q pt ms ss
theorem SlOk.dat {K : PySem.W.Frag} {W : Wr} {G H : Hp} {v : V} {d : PyData} (h : Dd K G v d) : SlOk K W G H (.dat d) (some v) := ⟨v, rfl, h⟩
theorem SlOk.own {K : PySem.W.Frag} {W : Wr} {G H : Hp} {a : Addr} {vs : List V} {xs : List PyData} (g : G a = none) (sb : W.stb a) (h : H a = some (.lst vs)) (hd : Ds K G vs xs) : SlOk K W G H (.own a xs) (some (.ref a)) := ⟨rfl, g, sb, vs, h, hd⟩
def EnvOk (K : PySem.W.Frag) (W : Wr) (G H : Hp) (ds : List Sl) (σ : L2.St) : Prop := ds.length = σ.length ∧ ∀ (i : Nat) (s : Sl) (x : Option V), ds[i]? = some s → σ[i]? = some x → SlOk K W G H s x
theorem KqAt.mono {K : PySem.W.Frag} {W : Wr} {G H G1 H1 : Hp} (r : W.R G H G1 H1) {q : Kq} {pt : PyData} {ms ss : List PyData} (h : KqAt K W G H q pt ms ss) : KqAt K W G1 H1 q pt ms ss := by
  obtain ⟨vp, us, vs, h1, h2, h3, h4, h5, h6, h7⟩ := h.ex
  obtain ⟨a1, b1⟩ := W.own r h.to h.go h1
  obtain ⟨a2, b2⟩ := W.own r h.td h.gd h2
  obtain ⟨a3, b3⟩ := W.own r h.tm h.gm h3
  obtain ⟨a4, b4⟩ := W.own r h.ts h.gs h4
  exact ⟨b1, b2, b3, b4, h.to, h.td, h.tm, h.ts, h.ne, vp, us, vs, a1, a2, a3, a4, dmono (W.g r) _ _ h5, dmonoAll (W.g r) _ _ h6, dmonoAll (W.g r) _ _ h7⟩
/-- what changes elsewhere -/
theorem KqAt.other {K : PySem.W.Frag} {W : Wr} {G H : Hp} {q : Kq} {pt : PyData} {ms ss : List PyData} {D : Addr} {o : HO} (h : KqAt K W G H q pt ms ss) (n1 : q.o ≠ D) (n2 : q.dx ≠ D) (n3 : q.lm ≠ D) (n4 : q.ls ≠ D) : KqAt K W G (upd H D o) q pt ms ss := by
  obtain ⟨vp, us, vs, h1, h2, h3, h4, h5⟩ := h.ex
  exact ⟨h.go, h.gd, h.gm, h.gs, h.to, h.td, h.tm, h.ts, h.ne, vp, us, vs, by rw [upd_ne n1]; exact h1, by rw [upd_ne n2]; exact h2, by rw [upd_ne n3]; exact h3, by rw [upd_ne n4]; exact h4, h5⟩
theorem SlOk.mono {K : PySem.W.Frag} {W : Wr} {G H G1 H1 : Hp} (r : W.R G H G1 H1) {s : Sl} {x : Option V} (h : SlOk K W G H s x) : SlOk K W G1 H1 s x := by
  cases s with
  | un => trivial
  | dat d =>
    obtain ⟨v, e, q⟩ := h
    exact ⟨v, e, dmono (W.g r) d v q⟩
  | raw v => exact h
  | own a xs =>
    obtain ⟨e, g, st, vs, hv, q⟩ := h
    obtain ⟨h1, g1⟩ := W.own r st g hv
    exact ⟨e, g1, st, vs, h1, dmonoAll (W.g r) xs vs q⟩
  | scr K1 a ns => exact ⟨h.1, (W.g r).seq h.2⟩
  | kep q pt ms ss => exact ⟨h.1, h.2.1, h.2.2.mono r⟩
theorem EnvOk.mono {K : PySem.W.Frag} {W : Wr} {G H G1 H1 : Hp} (r : W.R G H G1 H1) {ds : List Sl} {σ : L2.St} (h : EnvOk K W G H ds σ) : EnvOk K W G1 H1 ds σ := ⟨h.1, fun i s x a b => (h.2 i s x a b).mono r⟩
theorem EnvOk.set {K : PySem.W.Frag} {W : Wr} {G H : Hp} {ds : List Sl} {σ : L2.St} (h : EnvOk K W G H ds σ) (i : Nat) {s : Sl} {x : Option V} (hs : SlOk K W G H s x) : EnvOk K W G H (ds.set i s) (σ.set i x) := by
  refine ⟨by rw [List.length_set, List.length_set]; exact h.1, fun j t y a b => ?_⟩
  by_cases e : i = j
  · subst e
    rw [List.getElem?_set_self'] at a b
    cases qa : ds[i]? with
    | none => rw [qa] at a; cases a
    | some _ => cases qb : σ[i]? with
      | none => rw [qb] at b; cases b
      | some _ =>
        rw [qa] at a
        rw [qb] at b
        cases a
        cases b
        exact hs
  · rw [List.getElem?_set_ne e] at a b
    exact h.2 j t y a b
theorem EnvOk.at {K : PySem.W.Frag} {W : Wr} {G H : Hp} {ds : List Sl} {σ : L2.St} (h : EnvOk K W G H ds σ) {i : Nat} {s : Sl} (e : ds[i]? = some s) : ∃ x, σ[i]? = some x ∧ SlOk K W G H s x := by
  have l : i < σ.length := by
    rw [← h.1]
    exact (List.getElem?_eq_some_iff.mp e).1
  exact ⟨σ[i], List.getElem?_eq_getElem l, h.2 i s _ e (List.getElem?_eq_getElem l)⟩
/-- a slot's own list changed -/
theorem EnvOk.put {K : PySem.W.Frag} {W : Wr} {G H : Hp} {ds : List Sl} {σ : L2.St} {a : Addr} {vs : List V} {xs ys : List PyData} {i : Nat} (h : EnvOk K W G H ds σ) (hi : ds[i]? = some (.own a xs)) (hn : ∀ j zs, ds[j]? = some (.own a zs) → j = i)
    (hy : Ds K G vs ys) (hf : W.fl = false) : EnvOk K W G (upd H a (.lst vs)) (ds.set i (.own a ys)) σ := by
  refine ⟨by rw [List.length_set]; exact h.1, fun j t y p q => ?_⟩
  by_cases e : i = j
  · subst e
    rw [List.getElem?_set_self', hi] at p
    cases p
    obtain ⟨e1, g, st, _, _, _⟩ := h.2 i _ _ hi q
    exact ⟨e1, g, st, vs, upd_same, hy⟩
  · rw [List.getElem?_set_ne e] at p
    have z := h.2 j t y p q
    cases t with
    | un => trivial
    | dat d => exact z
    | raw v => exact z
    | scr K1 a ns => exact z
    | kep q pt ms ss => exact absurd z.2.1 (by rw [hf]; exact Bool.false_ne_true)
    | own a' zs =>
      obtain ⟨e1, g, st, us, hu, hd⟩ := z
      refine ⟨e1, g, st, us, ?_, hd⟩
      rw [upd_ne (fun z => e (by rw [z] at p; exact (hn j zs p).symm))]
      exact hu

/-! ## the reading that says all -/
section
variable {X : Cx}
def uE (X : Cx) (e : Expr) : TE := fun σ H Q => ∃ t, PE X e t ∧ t σ H Q
def uT (X : Cx) (e : Expr) : TT := fun σ H Q => ∃ t, PT X e t ∧ t σ H Q
def uW (X : Cx) (e : Expr) : TT := fun σ H Q => ∃ t, PW X e t ∧ t σ H Q
def uA (X : Cx) (es : List Expr) : TA := fun σ H Q => ∃ t, PA X es t ∧ t σ H Q
def uS (X : Cx) (st : Stmt) : TS := fun D σ H => ∃ t, PS X st t ∧ t D σ H
def uB (X : Cx) (sts : List Stmt) : TS := fun D σ H => ∃ t, PSs X sts t ∧ t D σ H
theorem pe_u {e : Expr} : PE X e (uE X e) := ⟨fun pins s σ H Q I ⟨_, p, h⟩ => p.run pins s σ H Q I h⟩
theorem pt_u {e : Expr} : PT X e (uT X e) := ⟨fun pins s σ H Q I ⟨_, p, h⟩ => p.run pins s σ H Q I h⟩
theorem pw_u {e : Expr} : PW X e (uW X e) := ⟨fun w pins s σ H Q I ⟨_, p, h⟩ => p.run w pins s σ H Q I h⟩
theorem pa_u {es : List Expr} : PA X es (uA X es) := ⟨fun pos pins s σ H Q I ⟨_, p, h⟩ => p.run pos pins s σ H Q I h⟩
theorem ps_u {st : Stmt} : PS X st (uS X st) := ⟨fun pins s σ H D I ⟨_, p, h⟩ => p.run pins s σ H D I h⟩
theorem pss_u {sts : List Stmt} : PSs X sts (uB X sts) := ⟨fun pins s σ H D I ⟨_, p, h⟩ => p.run pins s σ H D I h⟩
end

/-! ## judgements -/
def EmR (K : PySem.W.Frag) (W : Wr) (ds : List Sl) (t : TE) (P : PyData → Prop) : Prop := ∀ σ G H, W.ok G H → EnvOk K W G H ds σ → ∀ Q : VK, (∀ v d G2 H2, W.R G H G2 H2 → Dd K G2 v d → P d → Q v H2) → t σ H Q
def TmR (K : PySem.W.Frag) (W : Wr) (ds : List Sl) (t : TT) (P : Bool → Prop) : Prop := ∀ σ G H, W.ok G H → EnvOk K W G H ds σ → ∀ Q : Bool → Hp → Prop, (∀ b G2 H2, W.R G H G2 H2 → P b → Q b H2) → t σ H Q
def AmR (K : PySem.W.Frag) (W : Wr) (ds : List Sl) (t : TA) (P : List PyData → Prop) : Prop := ∀ σ G H, W.ok G H → EnvOk K W G H ds σ → ∀ Q : List V → Hp → Prop, (∀ vs as G2 H2, W.R G H G2 H2 → Ds K G2 vs as → P as → Q vs H2) → t σ H Q
section
variable (X : Cx) (W : Wr) (ds : List Sl)
def Em (e : Expr) (P : PyData → Prop) : Prop := EmR X.K W ds (uE X e) P
def Tm (e : Expr) (P : Bool → Prop) : Prop := TmR X.K W ds (uT X e) P
def Wm (e : Expr) (P : Bool → Prop) : Prop := TmR X.K W ds (uW X e) P
def Am (es : List Expr) (P : List PyData → Prop) : Prop := AmR X.K W ds (uA X es) P
end
abbrev NX := List Sl → Prop
abbrev RT := V → Hp → Hp → Prop
/-- where one stands: reached from the entry (G0, H0), all of Gb still there -/
structure At (W : Wr) (Gb G0 H0 G H : Hp) : Prop where
  b : Same Gb G
  r : W.R G0 H0 G H
section
variable {W : Wr} {Gb G0 H0 G H G2 H2 : Hp} {a : Addr} {o o' : HO}
theorem At.ok (s : At W Gb G0 H0 G H) : W.ok G H := W.oks s.r
theorem At.to (s : At W Gb G0 H0 G H) (r : W.R G H G2 H2) : At W Gb G0 H0 G2 H2 := ⟨s.b.trans (W.g r), W.trans s.r r⟩
theorem At.fresh (s : At W Gb G0 H0 G H) (h : H a = none) : H0 a = none := W.fresh s.r h
theorem At.chg (s : At W Gb G0 H0 G H) (sb : W.stb a) (h0 : H0 a = none) (g : G a = none) (h : H a = some o) : At W Gb G0 H0 G (upd H a o') := ⟨s.b, W.chg s.r sb h0 g h⟩
theorem At.frz (s : At W Gb G0 H0 G H) (sb : W.stb a) (h0 : H0 a = none) (g : G a = none) (h : H a = some o) : At W Gb G0 H0 (upd G a o) H := ⟨s.b.trans (same_upd g), W.frz s.r sb h0 g h⟩
end
/-- statements: from the entry (G0, H0) -/
def SmR (K : PySem.W.Frag) (W : Wr) (G0 H0 : Hp) (ds : List Sl) (t : TS) (N : NX) (B C : NX) (r : RT) : Prop := ∀ Gb σ G H (D : Ends), At W Gb G0 H0 G H → EnvOk K W G H ds σ →
  (∀ ds' σ' G2 H2, At W Gb G0 H0 G2 H2 → EnvOk K W G2 H2 ds' σ' → N ds' → D.nx σ' H2) →
  (∀ ds' σ' G2 H2, At W Gb G0 H0 G2 H2 → EnvOk K W G2 H2 ds' σ' → B ds' → D.bk σ' H2) →
  (∀ ds' σ' G2 H2, At W Gb G0 H0 G2 H2 → EnvOk K W G2 H2 ds' σ' → C ds' → D.ct σ' H2) →
  (∀ v G2 H2, W.R G0 H0 G2 H2 → r v G2 H2 → D.rt v H2) → t D σ H
section
variable (X : Cx) (W : Wr) (G0 H0 : Hp) (ds : List Sl)
def Sm (st : Stmt) (N B C : NX) (r : RT) : Prop := SmR X.K W G0 H0 ds (uS X st) N B C r
def Bm (sts : List Stmt) (N B C : NX) (r : RT) : Prop := SmR X.K W G0 H0 ds (uB X sts) N B C r
end
abbrev nono : NX := fun _ => False
/-- returned: data of which P holds -/
def rD (K : PySem.W.Frag) (P : PyData → Prop) : RT := fun v G _ => ∃ d, Dd K G v d ∧ P d
/-- returned: a new list -/
def rL (K : PySem.W.Frag) (H0 : Hp) (P : List PyData → Prop) : RT := fun v G H => ∃ p vs xs, v = .ref p ∧ H0 p = none ∧ G p = none ∧ H p = some (.lst vs) ∧ Ds K G vs xs ∧ P xs

/-! ## promises -/
/-- of data, to data -/
def spP (pre : List PyData → Prop) (post : List PyData → PyData → Prop) : KSp := fun K vs H Q _ => ∃ G as, Same G H ∧ Ds K G vs as ∧ pre as ∧ ∀ v d G' H', Stp G H G' H' → Dd K G' v d → post as d → Q v H'
/-- of data, to a new list -/
def spL (pre : List PyData → Prop) (post : List PyData → List PyData → Prop) : KSp := fun K vs H Q _ => ∃ G as, Same G H ∧ Ds K G vs as ∧ pre as ∧ ∀ p us xs G' H', Stp G H G' H' → H p = none → G' p = none → H' p = some (.lst us) → Ds K G' us xs → post as xs → Q (.ref p) H'
/-- of a bag and data, to data -/
def spB (pre : List PyData → Prop) (post : List PyData → PyData → Prop) : KSp := fun K vs H Q _ => ∃ b us G as, vs = .ref b :: us ∧ BagOk b G H ∧ Ds K G us as ∧ pre as ∧ ∀ v d G' H', BagR b G H G' H' → Dd K G' v d → post as d → Q v H'
end Dn
namespace Dn
open PySem PySem.Spec PyProof.Rows L2
/-! ## the head's facts, with the module's tuples of ints -/
def ktB (K : PySem.W.Frag) (x : Str) (vs : List Int) : Bool := match K.lookup (He.ga K x) with
  | some ⟨.type c, none, .seq its _, _⟩ => decide (c = "tuple") && (decide (its.size ≤ sizeLine) && He.relAll (vs.map V.int) its.toList)
  | _ => false
theorem ktB_ok {K : PySem.W.Frag} {x : Str} {vs : List Int} (h : ktB K x vs = true) : KT K (He.ga K x) (vs.map V.int) := by
  unfold ktB at h
  split at h
  · rename_i c its n sl e
    rw [Bool.and_eq_true, Bool.and_eq_true] at h
    exact ⟨_, its, n, e, congrArg Value.type (of_decide_eq_true h.1), rfl, rfl, of_decide_eq_true h.2.1, He.relAll_ok h.2.2⟩
  · cases h
abbrev Ks : Type := List (Str × List Int)
def ksB (ks : Ks) (K : PySem.W.Frag) : Bool := ks.all fun k => ktB K k.1 k.2
def obsX (n : Nat) (fa : List He.Fa) (fn : List He.DefD) (ks : Ks) (g : Addr → Option Obj) : He.AlD × Bool := (He.obsDG n fa fn g, ksB ks (He.frG g (He.asD g n)))
def hookX (n : Nat) (fa : List He.Fa) (fn : List He.DefD) (ks : Ks) : PySem.W.Hook where
  α := He.AlD × Bool
  obs := fun s => obsX n fa fn ks s.heap.get?
  val := fun _ => (He.valD fn, true)
  says := fun _ h => ∃ K : PySem.W.Frag, K.In h ∧ He.SaysD fa fn K ∧ ksB ks K = true
  of := fun _ _ e => ⟨_, He.frG_in, congrArg (fun z : He.AlD × Bool => z.1) e, congrArg (fun z : He.AlD × Bool => z.2) e⟩
  keeps := fun _ _ _ ⟨K, hK, c⟩ k => ⟨K, PySem.W.Frag.In.keeps hK k, c⟩
theorem obsX_eq {n : Nat} {fa : List He.Fa} {fn : List He.DefD} {ks : Ks} {g : Addr → Option Obj} {s : Shared} (h : ∀ a, g a = s.heap.get? a) : obsX n fa fn ks g = (hookX n fa fn ks).obs s := by
  have e : g = s.heap.get? := funext h
  subst e
  rfl
theorem ks_at {ks : Ks} {K : PySem.W.Frag} (h : ksB ks K = true) (i : Nat) {k : Str × List Int} (e : ks[i]? = some k := by rfl) : KT K (He.ga K k.1) (k.2.map V.int) := ktB_ok (List.all_eq_true.mp h k (List.mem_of_getElem? e))
end Dn
namespace Dn
open PySem PySem.Spec PyProof.Rows L2
/-! ## own classes of exceptions, read off the head -/
def excCB (K : PySem.W.Frag) (D : Addr) : Bool := decide (PySem.W.findIn K (.ref D) "__getattribute__" = some (some (.builtin "BaseException.__getattribute__"))) && (decide (PySem.W.findIn K (.ref D) "__getattr__" = some none) && (decide (PySem.W.subIn K (.ref D) (.type "BaseException") = some true) && (PySem.W.hasDictIn K D &&
  (decide (PySem.W.findIn K (.ref D) "__class__" = some (some (.builtin "object.__class__"))) && (decide (PySem.W.specialIn K (.builtin "object.__class__") "__get__" = some (some (.builtin "getset_descriptor.__get__"))) && (decide (PySem.W.takesIn K (.builtin "object.__class__") = some true) && decide (PySem.W.mroIn K D (.type "object") = some true)))))))
def xf1 (ws : List Str) (top : Str) (K : PySem.W.Frag) (x : Str) : Bool := (He.Fa.exc x).ok K && ((He.Fa.glo x).ok K && ((He.Fa.exm x top true).ok K && (excCB K (He.ga K x) && ((ws.all fun y => decide (PySem.W.kitOne K (.ref (He.ga K x)) (.ref (He.ga K y)) = some (decide (x = y)))) && decide (PySem.W.kitOne K (.ref (He.ga K x)) (.type "ValueError") = some true)))))
def xfB (ws : List Str) (top : Str) (K : PySem.W.Frag) : Bool := ws.all (xf1 ws top K)
end Dn
namespace Dn
open PySem PySem.Spec PyProof.Rows L2
/-! ## what isinstance(.., Kept) needs, read off the head -/
def ktyB (K : PySem.W.Frag) : Bool := decide (PySem.W.findIn K (.ref (He.ga K "Kept")) "__class__" = some (some (.builtin "object.__class__"))) && (decide (PySem.W.specialIn K (.builtin "object.__class__") "__get__" = some (some (.builtin "getset_descriptor.__get__"))) && (decide (PySem.W.takesIn K (.builtin "object.__class__") = some true) && (decide (PySem.W.mroIn K (He.ga K "Kept") (.type "object") = some true) &&
  (decide (PySem.W.kitOne K (.ref (He.ga K "Kept")) (.ref (He.ga K "Kept")) = some true) && decide (PySem.W.kitOne K (.type "tuple") (.ref (He.ga K "Kept")) = some false)))))
def kxB (K : PySem.W.Frag) : Bool := ktyB K && PySem.W.notFirst K (He.ga K "Kept") (.type "tuple")
end Dn
namespace Pb
open PySem PySem.Spec PyProof.Rows L2 Dn
def topS (i : Nat) : Stmt := PySem.Challenge.pw_pourback_k10_whole_tubs_kept_deed_by_dee.main.body.getD i (.Pass ⟨0, 0, 0, 0⟩)
abbrev s_is_whole : Stmt := topS 15
theorem sc_is_whole : FnScope ["thing"] ["thing"] (defScope s_is_whole) := ⟨rfl, rfl, rfl, by decide +kernel, rfl, by decide +kernel, by decide +kernel⟩
abbrev s_common_divisor : Stmt := topS 16
theorem sc_common_divisor : FnScope ["one", "other"] ["one", "other"] (defScope s_common_divisor) := ⟨rfl, rfl, rfl, by decide +kernel, rfl, by decide +kernel, by decide +kernel⟩
abbrev s_lowest : Stmt := topS 17
theorem sc_lowest : FnScope ["top", "bottom", "divisor"] ["top", "bottom"] (defScope s_lowest) := ⟨rfl, rfl, rfl, by decide +kernel, rfl, by decide +kernel, by decide +kernel⟩
abbrev s_is_pair : Stmt := topS 18
theorem sc_is_pair : FnScope ["thing"] ["thing"] (defScope s_is_pair) := ⟨rfl, rfl, rfl, by decide +kernel, rfl, by decide +kernel, by decide +kernel⟩
abbrev s_is_fraction : Stmt := topS 19
theorem sc_is_fraction : FnScope ["thing", "top", "bottom"] ["thing"] (defScope s_is_fraction) := ⟨rfl, rfl, rfl, by decide +kernel, rfl, by decide +kernel, by decide +kernel⟩
abbrev s_apart : Stmt := topS 20
theorem sc_apart : FnScope ["one", "other"] ["one", "other"] (defScope s_apart) := ⟨rfl, rfl, rfl, by decide +kernel, rfl, by decide +kernel, by decide +kernel⟩
abbrev s_together : Stmt := topS 21
theorem sc_together : FnScope ["one", "other"] ["one", "other"] (defScope s_together) := ⟨rfl, rfl, rfl, by decide +kernel, rfl, by decide +kernel, by decide +kernel⟩
abbrev s_is_part : Stmt := topS 27
theorem sc_is_part : FnScope ["thing", "top", "bottom"] ["thing"] (defScope s_is_part) := ⟨rfl, rfl, rfl, by decide +kernel, rfl, by decide +kernel, by decide +kernel⟩
abbrev s_are_parts : Stmt := topS 28
theorem sc_are_parts : FnScope ["thing", "p", "q", "p_top", "p_bottom", "q_top", "q_bottom"] ["thing"] (defScope s_are_parts) := ⟨rfl, rfl, rfl, by decide +kernel, rfl, by decide +kernel, by decide +kernel⟩
abbrev s_is_share : Stmt := topS 29
theorem sc_is_share : FnScope ["thing", "top", "bottom"] ["thing"] (defScope s_is_share) := ⟨rfl, rfl, rfl, by decide +kernel, rfl, by decide +kernel, by decide +kernel⟩
abbrev s_is_pour : Stmt := topS 30
theorem sc_is_pour : FnScope ["thing"] ["thing"] (defScope s_is_pour) := ⟨rfl, rfl, rfl, by decide +kernel, rfl, by decide +kernel, by decide +kernel⟩
abbrev s_need_parts : Stmt := topS 31
theorem sc_need_parts : FnScope ["parts"] ["parts"] (defScope s_need_parts) := ⟨rfl, rfl, rfl, by decide +kernel, rfl, by decide +kernel, by decide +kernel⟩
abbrev s_need_share : Stmt := topS 32
theorem sc_need_share : FnScope ["share"] ["share"] (defScope s_need_share) := ⟨rfl, rfl, rfl, by decide +kernel, rfl, by decide +kernel, by decide +kernel⟩
abbrev s_behind_right : Stmt := topS 33
theorem sc_behind_right : FnScope ["p", "share", "p_top", "p_bottom", "top", "bottom"] ["p", "share"] (defScope s_behind_right) := ⟨rfl, rfl, rfl, by decide +kernel, rfl, by decide +kernel, by decide +kernel⟩
abbrev s_behind_left : Stmt := topS 34
theorem sc_behind_left : FnScope ["q", "share", "q_top", "q_bottom", "top", "bottom"] ["q", "share"] (defScope s_behind_left) := ⟨rfl, rfl, rfl, by decide +kernel, rfl, by decide +kernel, by decide +kernel⟩
abbrev s_behind_pour : Stmt := topS 35
theorem sc_behind_pour : FnScope ["parts", "share", "pour", "p", "q"] ["parts", "share", "pour"] (defScope s_behind_pour) := ⟨rfl, rfl, rfl, by decide +kernel, rfl, by decide +kernel, by decide +kernel⟩
abbrev s__law_cell_at : Stmt := topS 40
theorem sc__law_cell_at : FnScope ["script", "k"] ["script", "k"] (defScope s__law_cell_at) := ⟨rfl, rfl, rfl, by decide +kernel, rfl, by decide +kernel, by decide +kernel⟩
abbrev s__law_draws : Stmt := topS 41
theorem sc__law_draws : FnScope ["cell", "many", "size", "found", "rest", "stirred", "k"] ["cell", "many", "size"] (defScope s__law_draws) := ⟨rfl, rfl, rfl, by decide +kernel, rfl, by decide +kernel, by decide +kernel⟩
abbrev s__law_bag : Stmt := topS 42
theorem sc__law_bag : FnScope ["script", "k"] ["script", "k"] (defScope s__law_bag) := ⟨rfl, rfl, rfl, by decide +kernel, rfl, by decide +kernel, by decide +kernel⟩
abbrev s__law_bags : Stmt := topS 43
theorem sc__law_bags : FnScope ["script", "limit", "k"] ["script", "limit"] (defScope s__law_bags) := ⟨rfl, rfl, rfl, by decide +kernel, rfl, by decide +kernel, by decide +kernel⟩
abbrev s__law_take : Stmt := topS 44
theorem sc__law_take : FnScope ["bag", "many"] ["bag", "many"] (defScope s__law_take) := ⟨rfl, rfl, rfl, by decide +kernel, rfl, by decide +kernel, by decide +kernel⟩
abbrev s__law_far_draw : Stmt := topS 45
theorem sc__law_far_draw : FnScope ["bag", "many", "found", "much"] ["bag", "many"] (defScope s__law_far_draw) := ⟨rfl, rfl, rfl, by decide +kernel, rfl, by decide +kernel, by decide +kernel⟩
abbrev s__law_common : Stmt := topS 46
theorem sc__law_common : FnScope ["one", "other"] ["one", "other"] (defScope s__law_common) := ⟨rfl, rfl, rfl, by decide +kernel, rfl, by decide +kernel, by decide +kernel⟩
abbrev s__law_made : Stmt := topS 47
theorem sc__law_made : FnScope ["top", "bottom", "measure"] ["top", "bottom"] (defScope s__law_made) := ⟨rfl, rfl, rfl, by decide +kernel, rfl, by decide +kernel, by decide +kernel⟩
abbrev s__law_plus : Stmt := topS 48
theorem sc__law_plus : FnScope ["one", "other"] ["one", "other"] (defScope s__law_plus) := ⟨rfl, rfl, rfl, by decide +kernel, rfl, by decide +kernel, by decide +kernel⟩
abbrev s__law_minus : Stmt := topS 49
theorem sc__law_minus : FnScope ["one", "other"] ["one", "other"] (defScope s__law_minus) := ⟨rfl, rfl, rfl, by decide +kernel, rfl, by decide +kernel, by decide +kernel⟩
abbrev s__law_times : Stmt := topS 50
theorem sc__law_times : FnScope ["one", "other"] ["one", "other"] (defScope s__law_times) := ⟨rfl, rfl, rfl, by decide +kernel, rfl, by decide +kernel, by decide +kernel⟩
abbrev s__law_below : Stmt := topS 51
theorem sc__law_below : FnScope ["one", "other"] ["one", "other"] (defScope s__law_below) := ⟨rfl, rfl, rfl, by decide +kernel, rfl, by decide +kernel, by decide +kernel⟩
abbrev s__law_away : Stmt := topS 52
theorem sc__law_away : FnScope ["one", "other", "gap"] ["one", "other"] (defScope s__law_away) := ⟨rfl, rfl, rfl, by decide +kernel, rfl, by decide +kernel, by decide +kernel⟩
abbrev s__law_a_part : Stmt := topS 53
theorem sc__law_a_part : FnScope ["bag", "bottom"] ["bag"] (defScope s__law_a_part) := ⟨rfl, rfl, rfl, by decide +kernel, rfl, by decide +kernel, by decide +kernel⟩
abbrev s__law_two_parts : Stmt := topS 54
theorem sc__law_two_parts : FnScope ["bag", "one", "other"] ["bag"] (defScope s__law_two_parts) := ⟨rfl, rfl, rfl, by decide +kernel, rfl, by decide +kernel, by decide +kernel⟩
abbrev s__law_a_share : Stmt := topS 55
theorem sc__law_a_share : FnScope ["bag", "bottom"] ["bag"] (defScope s__law_a_share) := ⟨rfl, rfl, rfl, by decide +kernel, rfl, by decide +kernel, by decide +kernel⟩
abbrev s__law_end : Stmt := topS 56
theorem sc__law_end : FnScope ["parts", "share", "row", "left_tub", "right_tub", "pour", "some"] ["parts", "share", "row"] (defScope s__law_end) := ⟨rfl, rfl, rfl, by decide +kernel, rfl, by decide +kernel, by decide +kernel⟩
abbrev s__law_refused : Stmt := topS 57
theorem sc__law_refused : FnScope ["call", "one", "two", "three", "kin", "e", "words", "word", "there"] ["call", "one", "two", "three"] (defScope s__law_refused) := ⟨rfl, rfl, rfl, by decide +kernel, rfl, by decide +kernel, by decide +kernel⟩
abbrev s__law_stands : Stmt := topS 58
theorem sc__law_stands : FnScope ["kept", "parts", "share", "row", "whole", "here", "pour", "later"] ["kept", "parts", "share", "row"] (defScope s__law_stands) := ⟨rfl, rfl, rfl, by decide +kernel, rfl, by decide +kernel, by decide +kernel⟩
abbrev s__law_full_right : Stmt := topS 59
theorem sc__law_full_right : FnScope ["full", "turn"] [] (defScope s__law_full_right) := ⟨rfl, rfl, rfl, by decide +kernel, rfl, by decide +kernel, by decide +kernel⟩
abbrev s_law : Stmt := topS 60
theorem sc_law : FnScope ["script", "bag", "parts", "share", "row", "kept", "other", "turn", "kin", "odd", "pour"] ["script"] (defScope s_law) := ⟨rfl, rfl, rfl, by decide +kernel, rfl, by decide +kernel, by decide +kernel⟩
abbrev s_Kept___init__ : Stmt := inClass (topS 38) 0
theorem sc_Kept___init__ : FnScope ["self", "parts", "share"] ["self", "parts", "share"] (defScope s_Kept___init__) := ⟨rfl, rfl, rfl, by decide +kernel, rfl, by decide +kernel, by decide +kernel⟩
abbrev s_Kept_pour : Stmt := inClass (topS 38) 1
theorem sc_Kept_pour : FnScope ["self", "pour"] ["self", "pour"] (defScope s_Kept_pour) := ⟨rfl, rfl, rfl, by decide +kernel, rfl, by decide +kernel, by decide +kernel⟩
abbrev s_Kept_back : Stmt := inClass (topS 38) 2
theorem sc_Kept_back : FnScope ["self"] ["self"] (defScope s_Kept_back) := ⟨rfl, rfl, rfl, by decide +kernel, rfl, by decide +kernel, by decide +kernel⟩
abbrev s_Kept_share : Stmt := inClass (topS 38) 3
theorem sc_Kept_share : FnScope ["self"] ["self"] (defScope s_Kept_share) := ⟨rfl, rfl, rfl, by decide +kernel, rfl, by decide +kernel, by decide +kernel⟩
abbrev s_Kept_pours : Stmt := inClass (topS 38) 4
theorem sc_Kept_pours : FnScope ["self"] ["self"] (defScope s_Kept_pours) := ⟨rfl, rfl, rfl, by decide +kernel, rfl, by decide +kernel, by decide +kernel⟩
abbrev s_Kept_poured : Stmt := inClass (topS 38) 5
theorem sc_Kept_poured : FnScope ["self", "amount", "ahead", "behind"] ["self"] (defScope s_Kept_poured) := ⟨rfl, rfl, rfl, by decide +kernel, rfl, by decide +kernel, by decide +kernel⟩
abbrev s_Kept___len__ : Stmt := inClass (topS 38) 6
theorem sc_Kept___len__ : FnScope ["self"] ["self"] (defScope s_Kept___len__) := ⟨rfl, rfl, rfl, by decide +kernel, rfl, by decide +kernel, by decide +kernel⟩
abbrev s_Kept___eq__ : Stmt := inClass (topS 38) 7
theorem sc_Kept___eq__ : FnScope ["self", "other"] ["self", "other"] (defScope s_Kept___eq__) := ⟨rfl, rfl, rfl, by decide +kernel, rfl, by decide +kernel, by decide +kernel⟩
end Pb
set_option maxHeartbeats 0
namespace Pb
open PySem PySem.Spec PyProof.Rows L2 Dn
def dd_is_whole : He.DefD := ⟨("is_whole", none), "is_whole", "is_whole", defArgs s_is_whole, defBody s_is_whole, defScope s_is_whole, [], []⟩
def dd_common_divisor : He.DefD := ⟨("common_divisor", none), "common_divisor", "common_divisor", defArgs s_common_divisor, defBody s_common_divisor, defScope s_common_divisor, [], []⟩
def dd_lowest : He.DefD := ⟨("lowest", none), "lowest", "lowest", defArgs s_lowest, defBody s_lowest, defScope s_lowest, [], []⟩
def dd_is_pair : He.DefD := ⟨("is_pair", none), "is_pair", "is_pair", defArgs s_is_pair, defBody s_is_pair, defScope s_is_pair, [], []⟩
def dd_is_fraction : He.DefD := ⟨("is_fraction", none), "is_fraction", "is_fraction", defArgs s_is_fraction, defBody s_is_fraction, defScope s_is_fraction, [], []⟩
def dd_apart : He.DefD := ⟨("apart", none), "apart", "apart", defArgs s_apart, defBody s_apart, defScope s_apart, [], []⟩
def dd_together : He.DefD := ⟨("together", none), "together", "together", defArgs s_together, defBody s_together, defScope s_together, [], []⟩
def dd_is_part : He.DefD := ⟨("is_part", none), "is_part", "is_part", defArgs s_is_part, defBody s_is_part, defScope s_is_part, [], []⟩
def dd_are_parts : He.DefD := ⟨("are_parts", none), "are_parts", "are_parts", defArgs s_are_parts, defBody s_are_parts, defScope s_are_parts, [], []⟩
def dd_is_share : He.DefD := ⟨("is_share", none), "is_share", "is_share", defArgs s_is_share, defBody s_is_share, defScope s_is_share, [], []⟩
def dd_is_pour : He.DefD := ⟨("is_pour", none), "is_pour", "is_pour", defArgs s_is_pour, defBody s_is_pour, defScope s_is_pour, [], []⟩
def dd_need_parts : He.DefD := ⟨("need_parts", none), "need_parts", "need_parts", defArgs s_need_parts, defBody s_need_parts, defScope s_need_parts, [], []⟩
def dd_need_share : He.DefD := ⟨("need_share", none), "need_share", "need_share", defArgs s_need_share, defBody s_need_share, defScope s_need_share, [], []⟩
def dd_behind_right : He.DefD := ⟨("behind_right", none), "behind_right", "behind_right", defArgs s_behind_right, defBody s_behind_right, defScope s_behind_right, [], []⟩
def dd_behind_left : He.DefD := ⟨("behind_left", none), "behind_left", "behind_left", defArgs s_behind_left, defBody s_behind_left, defScope s_behind_left, [], []⟩
def dd_behind_pour : He.DefD := ⟨("behind_pour", none), "behind_pour", "behind_pour", defArgs s_behind_pour, defBody s_behind_pour, defScope s_behind_pour, [], []⟩
def dd__law_cell_at : He.DefD := ⟨("_law_cell_at", none), "_law_cell_at", "_law_cell_at", defArgs s__law_cell_at, defBody s__law_cell_at, defScope s__law_cell_at, [], []⟩
def dd__law_draws : He.DefD := ⟨("_law_draws", none), "_law_draws", "_law_draws", defArgs s__law_draws, defBody s__law_draws, defScope s__law_draws, [], []⟩
def dd__law_bag : He.DefD := ⟨("_law_bag", none), "_law_bag", "_law_bag", defArgs s__law_bag, defBody s__law_bag, defScope s__law_bag, [], []⟩
def dd__law_bags : He.DefD := ⟨("_law_bags", none), "_law_bags", "_law_bags", defArgs s__law_bags, defBody s__law_bags, defScope s__law_bags, [], []⟩
def dd__law_take : He.DefD := ⟨("_law_take", none), "_law_take", "_law_take", defArgs s__law_take, defBody s__law_take, defScope s__law_take, [], []⟩
def dd__law_far_draw : He.DefD := ⟨("_law_far_draw", none), "_law_far_draw", "_law_far_draw", defArgs s__law_far_draw, defBody s__law_far_draw, defScope s__law_far_draw, [], []⟩
def dd__law_common : He.DefD := ⟨("_law_common", none), "_law_common", "_law_common", defArgs s__law_common, defBody s__law_common, defScope s__law_common, [], []⟩
def dd__law_made : He.DefD := ⟨("_law_made", none), "_law_made", "_law_made", defArgs s__law_made, defBody s__law_made, defScope s__law_made, [], []⟩
def dd__law_plus : He.DefD := ⟨("_law_plus", none), "_law_plus", "_law_plus", defArgs s__law_plus, defBody s__law_plus, defScope s__law_plus, [], []⟩
def dd__law_minus : He.DefD := ⟨("_law_minus", none), "_law_minus", "_law_minus", defArgs s__law_minus, defBody s__law_minus, defScope s__law_minus, [], []⟩
def dd__law_times : He.DefD := ⟨("_law_times", none), "_law_times", "_law_times", defArgs s__law_times, defBody s__law_times, defScope s__law_times, [], []⟩
def dd__law_below : He.DefD := ⟨("_law_below", none), "_law_below", "_law_below", defArgs s__law_below, defBody s__law_below, defScope s__law_below, [], []⟩
def dd__law_away : He.DefD := ⟨("_law_away", none), "_law_away", "_law_away", defArgs s__law_away, defBody s__law_away, defScope s__law_away, [], []⟩
def dd__law_a_part : He.DefD := ⟨("_law_a_part", none), "_law_a_part", "_law_a_part", defArgs s__law_a_part, defBody s__law_a_part, defScope s__law_a_part, [], []⟩
def dd__law_two_parts : He.DefD := ⟨("_law_two_parts", none), "_law_two_parts", "_law_two_parts", defArgs s__law_two_parts, defBody s__law_two_parts, defScope s__law_two_parts, [], []⟩
def dd__law_a_share : He.DefD := ⟨("_law_a_share", none), "_law_a_share", "_law_a_share", defArgs s__law_a_share, defBody s__law_a_share, defScope s__law_a_share, [], []⟩
def dd__law_end : He.DefD := ⟨("_law_end", none), "_law_end", "_law_end", defArgs s__law_end, defBody s__law_end, defScope s__law_end, [], []⟩
def dd__law_refused : He.DefD := ⟨("_law_refused", none), "_law_refused", "_law_refused", defArgs s__law_refused, defBody s__law_refused, defScope s__law_refused, [], []⟩
def dd__law_stands : He.DefD := ⟨("_law_stands", none), "_law_stands", "_law_stands", defArgs s__law_stands, defBody s__law_stands, defScope s__law_stands, [], []⟩
def dd__law_full_right : He.DefD := ⟨("_law_full_right", none), "_law_full_right", "_law_full_right", defArgs s__law_full_right, defBody s__law_full_right, defScope s__law_full_right, [], []⟩
def dd_law : He.DefD := ⟨("law", none), "law", "law", defArgs s_law, defBody s_law, defScope s_law, [], []⟩
def dd_Kept___init__ : He.DefD := ⟨("Kept", some "__init__"), "__init__", "Kept.__init__", defArgs s_Kept___init__, defBody s_Kept___init__, defScope s_Kept___init__, [], []⟩
def dd_Kept_pour : He.DefD := ⟨("Kept", some "pour"), "pour", "Kept.pour", defArgs s_Kept_pour, defBody s_Kept_pour, defScope s_Kept_pour, [], []⟩
def dd_Kept_back : He.DefD := ⟨("Kept", some "back"), "back", "Kept.back", defArgs s_Kept_back, defBody s_Kept_back, defScope s_Kept_back, [], []⟩
def dd_Kept_share : He.DefD := ⟨("Kept", some "share"), "share", "Kept.share", defArgs s_Kept_share, defBody s_Kept_share, defScope s_Kept_share, [], []⟩
def dd_Kept_pours : He.DefD := ⟨("Kept", some "pours"), "pours", "Kept.pours", defArgs s_Kept_pours, defBody s_Kept_pours, defScope s_Kept_pours, [], []⟩
def dd_Kept_poured : He.DefD := ⟨("Kept", some "poured"), "poured", "Kept.poured", defArgs s_Kept_poured, defBody s_Kept_poured, defScope s_Kept_poured, [], []⟩
def dd_Kept___len__ : He.DefD := ⟨("Kept", some "__len__"), "__len__", "Kept.__len__", defArgs s_Kept___len__, defBody s_Kept___len__, defScope s_Kept___len__, [], []⟩
def dd_Kept___eq__ : He.DefD := ⟨("Kept", some "__eq__"), "__eq__", "Kept.__eq__", defArgs s_Kept___eq__, defBody s_Kept___eq__, defScope s_Kept___eq__, [], []⟩
def fn : List He.DefD := [dd_is_whole, dd_common_divisor, dd_lowest, dd_is_pair, dd_is_fraction, dd_apart, dd_together, dd_is_part, dd_are_parts, dd_is_share, dd_is_pour, dd_need_parts, dd_need_share, dd_behind_right, dd_behind_left, dd_behind_pour, dd__law_cell_at, dd__law_draws, dd__law_bag, dd__law_bags, dd__law_take, dd__law_far_draw, dd__law_common, dd__law_made, dd__law_plus, dd__law_minus, dd__law_times, dd__law_below, dd__law_away, dd__law_a_part, dd__law_two_parts, dd__law_a_share, dd__law_end, dd__law_refused, dd__law_stands, dd__law_full_right, dd_law, dd_Kept___init__, dd_Kept_pour, dd_Kept_back, dd_Kept_share, dd_Kept_pours, dd_Kept_poured, dd_Kept___len__, dd_Kept___eq__]
def fa : List He.Fa := [.glo "is_whole", .glo "common_divisor", .glo "lowest", .glo "is_pair", .glo "is_fraction", .glo "apart", .glo "together", .glo "is_part", .glo "are_parts", .glo "is_share", .glo "is_pour", .glo "need_parts", .glo "need_share", .glo "behind_right", .glo "behind_left", .glo "behind_pour", .glo "_law_cell_at", .glo "_law_draws", .glo "_law_bag", .glo "_law_bags", .glo "_law_take", .glo "_law_far_draw", .glo "_law_common", .glo "_law_made", .glo "_law_plus", .glo "_law_minus", .glo "_law_times", .glo "_law_below", .glo "_law_away", .glo "_law_a_part", .glo "_law_two_parts", .glo "_law_a_share", .glo "_law_end", .glo "_law_refused", .glo "_law_stands", .glo "_law_full_right", .glo "law", .glo "NOUGHT", .free "ValueError", .free "abs", .free "all", .free "bool", .free "enumerate", .free "int", .free "isinstance", .free "len", .free "max", .free "min", .free "range", .free "reversed", .free "tuple", .free "zip", .str "RIGHT" "right", .str "LEFT" "left", .int "MOST_PART_BOTTOM" 12, .int "MOST_SHARE_BOTTOM" 99999999999999999999, .int "MOST_KEPT" 100, .glo "PourError", .glo "Kept", .cls "Kept", .mkr "Kept", .noat "Kept" "parts", .noat "Kept" "made", .noat "Kept" "shares", .meth "Kept" "pour", .meth "Kept" "back", .meth "Kept" "share", .meth "Kept" "pours", .meth "Kept" "poured", .meth "Kept" "__len__", .meth "Kept" "__eq__"]
abbrev RR : PySem.W.OpenRow := PySem.W.OpenLaw.row PySem.Challenge.rw_pourback_k10_whole_tubs_kept_deed_by_dee
def ks : Ks := [("NOUGHT", [0, 1])]
def tf : List He.Defn := [("law", none), ("_law_full_right", none)]
def neB (K : PySem.W.Frag) : Bool := (He.cT K ("law", none)).2 != (He.cT K ("_law_full_right", none)).2
def exK (K : PySem.W.Frag) : Bool := ksB ks K && xfB (["NoParts", "NoShare", "NoRow", "NoMany", "NoLefts", "NoPlace", "NoNumber", "NoDistance", "NoPour", "Full", "NothingLeft"] : List PySem.Str) "PourError" K && neB K && kxB K
abbrev hk : PySem.W.Hook := He.hookX 4 fa fn [] tf exK
def ob (s : PySem.W.SharedT) : He.AlX := He.obsX 4 fa fn [] tf exK (HandSHeadRun.getT s)
theorem ob_eq (s : PySem.W.SharedT) : ob s = hk.obs s.abs := He.obsX_eq (HandSHeadRun.getT_eq s)
def loose : List PySem.Str := (["PourError", "NoParts", "NoShare", "NoRow", "NoMany", "NoLefts", "NoPlace", "NoNumber", "NoDistance", "NoPour", "Full", "NothingLeft", "NOUGHT", "is_whole", "common_divisor", "lowest", "is_pair", "is_fraction", "apart", "together", "RIGHT", "LEFT", "MOST_PART_BOTTOM", "MOST_SHARE_BOTTOM", "is_part", "are_parts", "is_share", "is_pour", "need_parts", "need_share"] : List PySem.Str) ++ (["behind_right", "behind_left", "behind_pour", "MOST_KEPT", "Kept", "_law_cell_at", "_law_draws", "_law_bag", "_law_bags", "_law_take", "_law_far_draw", "_law_common", "_law_made", "_law_plus", "_law_minus", "_law_times", "_law_below", "_law_away", "_law_a_part", "_law_two_parts", "_law_a_share", "_law_end", "_law_refused", "_law_stands", "_law_full_right"] : List PySem.Str)
theorem run (w : World) : HandSHeadRun.RunEq RR (PySem.W.view RR.prog [60]) hk ob 12000 loose w := by
  intro os
  kernel_rfl
end Pb
set_option maxHeartbeats 8000000
namespace Dn
open PySem PySem.Spec PyProof.Rows L2
/-! ## tuples that are made: their objects are known -/
abbrev tupO (us : List Value) : Obj := { cls := .type "tuple", data := .seq us.toArray }
section
variable {X : Cx} {pins : List (Addr × Obj)} {σ : L2.St} {H : Hp} {s : Shared}
theorem laidT {xs : List V} {us : List Value} (I : Inv X pins σ H s) (rv : Vals xs us) (hz : xs.length ≤ sizeLine) :
    Inv X pins σ (upd H s.heap.objs.size (.frz (tupO us) (.tup xs))) { s with heap := s.heap.push (tupO us) } ∧ H s.heap.objs.size = none := by
  have hg : (s.heap.push (tupO us)).get? s.heap.objs.size = some (tupO us) := Heap.get?_push_size _ rfl
  have new : ObjOk X.prog X.w (upd H s.heap.objs.size (.frz (tupO us) (.tup xs))) (s.heap.push (tupO us)) s.heap.objs.size (.frz (tupO us) (.tup xs)) := ⟨hg, hz, us, rv, ⟨_, hg, rfl, _, rfl⟩⟩
  exact ⟨I.laid (t' := s.toks) (fun _ _ z => Heap.get?_push_of_some _ z) (Nat.le_refl _) new, I.hok.fresh (Nat.le_refl _)⟩
end
section
variable {X : Cx}
/-- a new tuple of xs -/
def newT (xs : List V) (H : Hp) (Q : VK) : Prop := ∀ p ob, H p = none → ob.dict = none → Q (.ref p) (upd H p (.frz ob (.tup xs)))
theorem newT_of {pins : List (Addr × Obj)} {σ : L2.St} {H : Hp} {s : Shared} {xs : List V} {us : List Value} {Q : VK} (I : Inv X pins σ H s) (rv : Vals xs us) (hz : xs.length ≤ sizeLine) (q : newT xs H Q) : EP X pins σ Q (.ref s.heap.objs.size) { s with heap := s.heap.push (tupO us) } := by
  obtain ⟨I2, hf⟩ := laidT I rv hz
  exact ⟨.ref _, _, I2, rfl, q _ _ hf rfl⟩
def tTupZ (t : TA) : TE := fun σ H Q => t σ H fun xs H1 => xs.length ≤ sizeLine ∧ newT xs H1 Q
theorem pe_tupZ {es : List Expr} {t : TA} {n : Nat} {pos : Pos} (ha : PA X es t) : PE X (.Tuple es n pos) (tTupZ t) := ⟨fun pins s σ H Q I h => by
  refine wpAny_Tuple_spliced (thn (ha.run pos pins s σ H _ I h) fun us s' ⟨xs, H', I', rv, hz, q⟩ => ?_)
  exact ⟨rv.length ▸ hz, newT_of I' rv hz q⟩⟩
def rCatZ (K : PySem.W.Frag) : R2 := fun x y H Q => ∃ a b xs ys, x = .ref a ∧ y = .ref b ∧ SqT K H a xs ∧ SqT K H b ys ∧ xs.length + ys.length ≤ sizeLine ∧
  (xs = [] → Q (.ref b) H) ∧ (ys = [] → Q (.ref a) H) ∧ newT (xs ++ ys) H Q
theorem op_catZ : OpR X (binaryOp .Add) (rCatZ X.K) := by
  intro pins s σ H x y v u Q I rx ry ⟨a, b, xs, ys, ex, ey, ha, hb, hz, q0, q1, q2⟩
  subst ex ey
  cases rx
  cases ry
  obtain ⟨is, ri, pi, _⟩ := I.tuple ha
  obtain ⟨js, rj, pj, _⟩ := I.tuple hb
  by_cases hx : xs = []
  · subst hx
    cases ri
    exact cat_tup0 pi pj ⟨.ref b, H, I, rfl, q0 rfl⟩
  · have hi : is ≠ [] := fun z => hx (ri.nil_iff.mp z)
    have hl : is.length + js.length ≤ sizeLine := by
      have l1 := ri.length
      have l2 := rj.length
      omega
    exact HT.cat_tup pi pj hi (fun z => ⟨.ref a, H, I, rfl, q1 (rj.nil_iff.mp z)⟩) (fun _ => newT_of I (ri.append rj) (by rw [List.length_append]; exact hz) q2) hl
def rSlZ (K : PySem.W.Frag) : V → Option Int → Option Int → Hp → VK → Prop := fun x lo hi H Q => ∃ a xs, x = .ref a ∧ SqT K H a xs ∧ (cutV xs lo hi = xs → Q (.ref a) H) ∧ newT (cutV xs lo hi) H Q
theorem sl_tupZ : SlR X (rSlZ X.K) := by
  intro pins s σ H x v vl vu lo hi sl Q I rx hs pl pu ⟨a, xs, ex, hx, q1, q2⟩
  subst ex
  cases rx
  obtain ⟨is, ri, pi, hz⟩ := I.tuple hx
  have hn : is.toArray.size = xs.length := by
    have := ri.length
    rw [List.size_toArray]
    omega
  refine ⟨"tuple", _, PyProof.Rows.slot_tuple_getitem.lookup, pi.typeIs, ?_⟩
  by_cases hw : HT.sIx is.toArray.size 0 lo = 0 ∧ HT.sIx is.toArray.size is.toArray.size hi = is.toArray.size
  · refine getItem_tuple_whole pi hs pl pu hw ⟨.ref a, H, I, rfl, q1 ?_⟩
    rw [hn] at hw
    unfold cutV
    rw [hw.1, hw.2, List.drop_zero, Nat.sub_zero, List.take_length]
  · refine HT.getItem_tuple_cut pi hs pl pu hw ?_ (hn ▸ hz)
    rw [hn]
    exact newT_of I ((ri.drop (HT.sIx xs.length 0 lo)).take (HT.sIx xs.length xs.length hi - HT.sIx xs.length 0 lo)) (Nat.le_trans (cutV_length xs lo hi) hz) q2
theorem call_tupleZ : CallR X (.type "tuple") (fun xs H Q => ∃ p ys, xs = [.ref p] ∧ SqL X.K H p ys ∧ newT ys H Q) := by
  intro pins s σ H xs us Q I r ⟨p, ys, ex, hq, q⟩
  subst ex
  obtain ⟨u, rfl, rx⟩ := vals1 r
  cases rx
  obtain ⟨its, r', pl, hz⟩ := I.list hq
  have hlen := r'.length
  refine call_tuple_list pl.isList (fun h' kp => ?_) (by simp only [List.size_toArray] <;> omega)
  have I1 : Inv X pins σ H { s with heap := h' } := I.kept (t' := s.toks) kp
  exact newT_of I1 r' hz q
end
end Dn
namespace Dn
open PySem PySem.Spec PyProof.Rows L2
section
variable {X : Cx} {W : Wr} {ds : List Sl} {e a b c : Expr} {es : List Expr} {pos p2 p3 : Pos} {P : PyData → Prop} {d : PyData} {i j : Int}
theorem em_of {t : TE} (h : PE X e t) (m : EmR X.K W ds t P) : Em X W ds e P := fun σ G H ok env Q q => ⟨t, h, m σ G H ok env Q q⟩
theorem tm_of {t : TT} {P : Bool → Prop} (h : PT X e t) (m : TmR X.K W ds t P) : Tm X W ds e P := fun σ G H ok env Q q => ⟨t, h, m σ G H ok env Q q⟩
theorem wm_of {t : TT} {P : Bool → Prop} (h : PW X e t) (m : TmR X.K W ds t P) : Wm X W ds e P := fun σ G H ok env Q q => ⟨t, h, m σ G H ok env Q q⟩
theorem am_of {t : TA} {P : List PyData → Prop} (h : PA X es t) (m : AmR X.K W ds t P) : Am X W ds es P := fun σ G H ok env Q q => ⟨t, h, m σ G H ok env Q q⟩
theorem em_mono {P' : PyData → Prop} (h : Em X W ds e P) (k : ∀ d, P d → P' d) : Em X W ds e P' := fun σ G H ok env Q q => h σ G H ok env Q fun v d G2 H2 r hd p => q v d G2 H2 r hd (k d p)
theorem em_is {d' : PyData} (h : Em X W ds e (· = d)) (k : d = d') : Em X W ds e (· = d') := k ▸ h
theorem tm_mono {P P' : Bool → Prop} (h : Tm X W ds e P) (k : ∀ d, P d → P' d) : Tm X W ds e P' := fun σ G H ok env Q q => h σ G H ok env Q fun b G2 H2 r p => q b G2 H2 r (k b p)
/-! ### names and constants -/
theorem em_var (i : Nat) {x : Str} (hi : ds[i]? = some (.dat d)) (hN : X.N[i]? = some x := by rfl) (hv : Vis X.env.scope x := by first | exact Or.inl rfl | exact Or.inr (Or.inl rfl) | exact Or.inr (Or.inr rfl)) (hd : (x == ("__debug__" : Str)) = false := by decide)
    (hcd : (x == ("__classdict__" : Str)) = false := by decide) : Em X W ds (.Name x pos) (· = d) := em_of (pv i hN hv hd hcd) fun σ G H ok env Q q => by
  obtain ⟨x, e, v, ev, hv⟩ := env.at hi
  exact ⟨v, by rw [e, ev], q v d G H (W.refl ok) hv rfl⟩
theorem em_int {n : Nat} : Em X W ds (.Constant (.int i) n pos) (· = .int i) := em_of pe_int fun σ G H ok env Q q => q _ _ G H (W.refl ok) (.int i) rfl
theorem em_str {x : Str} {n : Nat} : Em X W ds (.Constant (.str x) n pos) (· = .str x) := em_of pe_str fun σ G H ok env Q q => q _ _ G H (W.refl ok) (.str x) rfl
theorem em_bl {x : Bool} {n : Nat} : Em X W ds (.Constant (.bool x) n pos) (· = .bool x) := em_of pe_bl fun σ G H ok env Q q => q _ _ G H (W.refl ok) (.bl x) rfl
theorem em_non {n : Nat} : Em X W ds (.Constant .none n pos) (· = .none) := em_of pe_non fun σ G H ok env Q q => q _ _ G H (W.refl ok) .non rfl
theorem em_gint {x : Str} {t : Tok} (hm : X.mg x = some (.int i t)) (hg : Gl X x := by rfl) (hd : (x == ("__debug__" : Str)) = false := by decide) : Em X W ds (.Name x pos) (· = .int i) :=
  em_of (pe_glob (v := .int i) hg hm ⟨_, rfl⟩ hd) fun σ G H ok env Q q => q _ _ G H (W.refl ok) (.int i) rfl
theorem em_gstr {x z : Str} {t : Tok} (hm : X.mg x = some (.str z t)) (hg : Gl X x := by rfl) (hd : (x == ("__debug__" : Str)) = false := by decide) : Em X W ds (.Name x pos) (· = .str z) :=
  em_of (pe_glob (v := .str z) hg hm ⟨_, rfl⟩ hd) fun σ G H ok env Q q => q _ _ G H (W.refl ok) (.str z) rfl
/-! ### two operands -/
theorem em_op2 {r : R2} {ta tb : TE} {Pa Pb : PyData → Prop} (ha : EmR X.K W ds ta Pa) (hb : EmR X.K W ds tb Pb)
    (hr : ∀ G H x y dx dy, W.ok G H → Dd X.K G x dx → Dd X.K G y dy → Pa dx → Pb dy → ∀ Q : VK, (∀ v d G2 H2, W.R G H G2 H2 → Dd X.K G2 v d → P d → Q v H2) → r x y H Q) : EmR X.K W ds (tOp r ta tb) P := fun σ G H ok env Q q =>
  ha σ G H ok env _ fun x dx G1 H1 r1 hx px => hb σ G1 H1 (W.oks r1) (env.mono r1) _ fun y dy G2 H2 r2 hy py =>
    hr G2 H2 x y dx dy (W.oks r2) (dmono (W.g r2) _ _ hx) hy px py Q fun v d G3 H3 r3 hv pv => q v d G3 H3 (W.trans (W.trans r1 r2) r3) hv pv
theorem em_opI0 {op : Operator} {g : Int → Int → V} (f : Int → Int → PyData) (ho : OpR X (binaryOp op) (rI0 g)) (hf : ∀ (H : Hp) i j, Dd X.K H (g i j) (f i j)) {Pa Pb : PyData → Prop} (ha : Em X W ds a Pa) (hb : Em X W ds b Pb)
    (k : ∀ x y, Pa x → Pb y → ∃ i j, x = .int i ∧ y = .int j ∧ P (f i j)) : Em X W ds (.BinOp a op b pos) P := em_of (pe_op ho pe_u pe_u) (em_op2 ha hb fun G H x y dx dy ok hx hy px py Q q => by
  obtain ⟨i, j, rfl, rfl, p⟩ := k dx dy px py
  cases hx
  cases hy
  exact ⟨i, j, rfl, rfl, q _ _ G H (W.refl ok) (hf G i j) p⟩)
theorem em_opI {op : Operator} {C : Int → Int → Prop} {g : Int → Int → V} (f : Int → Int → PyData) (ho : OpR X (binaryOp op) (rI C g)) (hf : ∀ (H : Hp) i j, Dd X.K H (g i j) (f i j)) {Pa Pb : PyData → Prop} (ha : Em X W ds a Pa) (hb : Em X W ds b Pb)
    (k : ∀ x y, Pa x → Pb y → ∃ i j, x = .int i ∧ y = .int j ∧ C i j ∧ P (f i j)) : Em X W ds (.BinOp a op b pos) P := em_of (pe_op ho pe_u pe_u) (em_op2 ha hb fun G H x y dx dy ok hx hy px py Q q => by
  obtain ⟨i, j, rfl, rfl, c, p⟩ := k dx dy px py
  cases hx
  cases hy
  exact ⟨i, j, rfl, rfl, c, q _ _ G H (W.refl ok) (hf G i j) p⟩)
theorem em_cmpI0 {op : CmpOp} {g : Int → Int → Bool} (ho : OpR X (compareOp op) (rI0 fun i j => .bl (g i j))) {Pa Pb : PyData → Prop} (ha : Em X W ds a Pa) (hb : Em X W ds b Pb)
    (k : ∀ x y, Pa x → Pb y → ∃ i j, x = .int i ∧ y = .int j ∧ P (.bool (g i j))) (hm : behindInMarks op b = false) : Em X W ds (.Compare a [op] [b] pos) P := em_of (pe_cmpR ho pe_u pe_u hm) (em_op2 ha hb fun G H x y dx dy ok hx hy px py Q q => by
  obtain ⟨i, j, rfl, rfl, p⟩ := k dx dy px py
  cases hx
  cases hy
  exact ⟨i, j, rfl, rfl, q _ _ G H (W.refl ok) (.bl _) p⟩)
theorem two {f : Int → Int → PyData} {x y : PyData} (hx : x = .int i) (hy : y = .int j) : ∃ i' j', x = .int i' ∧ y = .int j' ∧ f i' j' = f i j := ⟨i, j, hx, hy, rfl⟩
theorem twoC {f : Int → Int → PyData} {C : Int → Int → Prop} {x y : PyData} (c : C i j) (hx : x = .int i) (hy : y = .int j) : ∃ i' j', x = .int i' ∧ y = .int j' ∧ C i' j' ∧ f i' j' = f i j := ⟨i, j, hx, hy, c, rfl⟩
theorem em_add (ha : Em X W ds a (· = .int i)) (hb : Em X W ds b (· = .int j)) : Em X W ds (.BinOp a .Add b pos) (· = .int (i + j)) := em_opI0 (fun i j => .int (i + j)) op_add (fun _ _ _ => .int _) ha hb fun _ _ hx hy => two hx hy
theorem em_sub (ha : Em X W ds a (· = .int i)) (hb : Em X W ds b (· = .int j)) : Em X W ds (.BinOp a .Sub b pos) (· = .int (i - j)) := em_opI0 (fun i j => .int (i - j)) op_sub (fun _ _ _ => .int _) ha hb fun _ _ hx hy => two hx hy
theorem em_mul (h : CMulW i j) (ha : Em X W ds a (· = .int i)) (hb : Em X W ds b (· = .int j)) : Em X W ds (.BinOp a .Mult b pos) (· = .int (i * j)) := em_opI (fun i j => .int (i * j)) op_mulW (fun _ _ _ => .int _) ha hb fun _ _ hx hy => twoC h hx hy
theorem em_mulS (h : CMul i j) (ha : Em X W ds a (· = .int i)) (hb : Em X W ds b (· = .int j)) : Em X W ds (.BinOp a .Mult b pos) (· = .int (i * j)) := em_opI (fun i j => .int (i * j)) op_mul (fun _ _ _ => .int _) ha hb fun _ _ hx hy => twoC h hx hy
theorem em_fdiv (h : CDivW i j) (ha : Em X W ds a (· = .int i)) (hb : Em X W ds b (· = .int j)) : Em X W ds (.BinOp a .FloorDiv b pos) (· = .int (i / j)) := em_opI (fun i j => .int (i / j)) op_fdivW (fun _ _ _ => .int _) ha hb fun _ _ hx hy => twoC h hx hy
theorem em_mod (h : 0 < j) (ha : Em X W ds a (· = .int i)) (hb : Em X W ds b (· = .int j)) : Em X W ds (.BinOp a .Mod b pos) (· = .int (i % j)) := em_opI (fun i j => .int (i % j)) op_mod (fun _ _ _ => .int _) ha hb fun _ _ hx hy => twoC (C := fun _ j => 0 < j) h hx hy
theorem em_pow (h : CPow i j) (ha : Em X W ds a (· = .int i)) (hb : Em X W ds b (· = .int j)) : Em X W ds (.BinOp a .Pow b pos) (· = .int (i ^ j.toNat)) := em_opI (fun i j => .int (i ^ j.toNat)) op_pow (fun _ _ _ => .int _) ha hb fun _ _ hx hy => twoC h hx hy
/-- the same where the operands are only partly known -/
theorem em_add' {Pa Pb : PyData → Prop} (ha : Em X W ds a Pa) (hb : Em X W ds b Pb) (k : ∀ x y, Pa x → Pb y → ∃ i j, x = .int i ∧ y = .int j ∧ P (.int (i + j))) : Em X W ds (.BinOp a .Add b pos) P := em_opI0 (fun i j => .int (i + j)) op_add (fun _ _ _ => .int _) ha hb k
theorem em_mod' {Pa Pb : PyData → Prop} (ha : Em X W ds a Pa) (hb : Em X W ds b Pb) (k : ∀ x y, Pa x → Pb y → ∃ i j, x = .int i ∧ y = .int j ∧ 0 < j ∧ P (.int (i % j))) : Em X W ds (.BinOp a .Mod b pos) P := em_opI (fun i j => .int (i % j)) op_mod (fun _ _ _ => .int _) ha hb k
theorem em_mul' {Pa Pb : PyData → Prop} (ha : Em X W ds a Pa) (hb : Em X W ds b Pb) (k : ∀ x y, Pa x → Pb y → ∃ i j, x = .int i ∧ y = .int j ∧ CMulW i j ∧ P (.int (i * j))) : Em X W ds (.BinOp a .Mult b pos) P := em_opI (fun i j => .int (i * j)) op_mulW (fun _ _ _ => .int _) ha hb k
theorem em_neg (ha : Em X W ds a (· = .int i)) : Em X W ds (.UnaryOp .USub a pos) (· = .int (-i)) := em_of (pe_un un_neg pe_u) fun σ G H ok env Q q => ha σ G H ok env _ fun v d G2 H2 r hd e => by
  subst e
  cases hd
  exact ⟨i, rfl, q _ _ G2 H2 r (.int _) rfl⟩
/-! ### comparisons -/
theorem em_lt (ha : Em X W ds a (· = .int i)) (hb : Em X W ds b (· = .int j)) : Em X W ds (.Compare a [.Lt] [b] pos) (· = .bool (decide (i < j))) := em_cmpI0 op_lt ha hb (fun _ _ hx hy => ⟨i, j, hx, hy, rfl⟩) (nomark _)
theorem em_le (ha : Em X W ds a (· = .int i)) (hb : Em X W ds b (· = .int j)) : Em X W ds (.Compare a [.LtE] [b] pos) (· = .bool (decide (i ≤ j))) := em_cmpI0 op_le ha hb (fun _ _ hx hy => ⟨i, j, hx, hy, rfl⟩) (nomark _)
theorem em_gt (ha : Em X W ds a (· = .int i)) (hb : Em X W ds b (· = .int j)) : Em X W ds (.Compare a [.Gt] [b] pos) (· = .bool (decide (j < i))) := em_cmpI0 op_gt ha hb (fun _ _ hx hy => ⟨i, j, hx, hy, rfl⟩) (nomark _)
theorem em_ge (ha : Em X W ds a (· = .int i)) (hb : Em X W ds b (· = .int j)) : Em X W ds (.Compare a [.GtE] [b] pos) (· = .bool (decide (j ≤ i))) := em_cmpI0 op_ge ha hb (fun _ _ hx hy => ⟨i, j, hx, hy, rfl⟩) (nomark _)
theorem em_eqI (ha : Em X W ds a (· = .int i)) (hb : Em X W ds b (· = .int j)) : Em X W ds (.Compare a [.Eq] [b] pos) (· = .bool (decide (i = j))) := em_of (pe_cmpR op_eq pe_u pe_u (nomark _)) (em_op2 ha hb fun G H x y dx dy ok hx hy px py Q q => by
  subst px
  subst py
  cases hx
  cases hy
  exact ⟨rfl, q _ _ G H (W.refl ok) (.bl _) (by rw [dec_int, Bool.beq_eq_decide_eq])⟩)
theorem em_neI (ha : Em X W ds a (· = .int i)) (hb : Em X W ds b (· = .int j)) : Em X W ds (.Compare a [.NotEq] [b] pos) (· = .bool (!decide (i = j))) := em_of (pe_cmpR op_ne pe_u pe_u (nomark _)) (em_op2 ha hb fun G H x y dx dy ok hx hy px py Q q => by
  subst px
  subst py
  cases hx
  cases hy
  exact ⟨rfl, q _ _ G H (W.refl ok) (.bl _) (by rw [dec_int, Bool.beq_eq_decide_eq])⟩)
theorem em_eqS {x y : Str} (ha : Em X W ds a (· = .str x)) (hb : Em X W ds b (· = .str y)) : Em X W ds (.Compare a [.Eq] [b] pos) (· = .bool (decide (x = y))) := em_of (pe_cmpR op_eq pe_u pe_u (nomark _)) (em_op2 ha hb fun G H u v dx dy ok hx hy px py Q q => by
  subst px
  subst py
  cases hx
  cases hy
  exact ⟨rfl, q _ _ G H (W.refl ok) (.bl _) (by rw [dec_str]; rw [Bool.beq_eq_decide_eq])⟩)
theorem em_eqD {k : Nat} {d d' : PyData} (hr : Room k X.A) (s : SeqAt.shaped d = true) (s' : SeqAt.shaped d' = true) (ha : Em X W ds a (· = d)) (hb : Em X W ds b (· = d')) : Em X W ds (.Compare a [.Eq] [b] pos) (· = .bool (PyData.eqv d d')) := em_of (pe_cmpR (op_eqD hr.units) pe_u pe_u (nomark _)) (em_op2 ha hb fun G H u v dx dy ok hx hy px py Q q => by
  subst px
  subst py
  exact ⟨_, _, ddp _ _ (dmono (W.sub ok) _ _ hx), ddp _ _ (dmono (W.sub ok) _ _ hy), s, s', q _ _ G H (W.refl ok) (.bl _) rfl⟩)
theorem em_neD {k : Nat} {d d' : PyData} (hr : Room k X.A) (s : SeqAt.shaped d = true) (s' : SeqAt.shaped d' = true) (ha : Em X W ds a (· = d)) (hb : Em X W ds b (· = d')) : Em X W ds (.Compare a [.NotEq] [b] pos) (· = .bool (!PyData.eqv d d')) := em_of (pe_cmpR (op_neD hr.units) pe_u pe_u (nomark _)) (em_op2 ha hb fun G H u v dx dy ok hx hy px py Q q => by
  subst px
  subst py
  exact ⟨_, _, ddp _ _ (dmono (W.sub ok) _ _ hx), ddp _ _ (dmono (W.sub ok) _ _ hy), s, s', q _ _ G H (W.refl ok) (.bl _) rfl⟩)
theorem em_isN (ha : Em X W ds a (· = d)) {n : Nat} : Em X W ds (.Compare a [.Is] [.Constant .none n p2] pos) (· = .bool (match d with | .none => true | _ => false)) := em_of (pe_cmp (pc_isN pe_u)) fun σ G H ok env Q q => ha σ G H ok env _ fun v d' G2 H2 r hd e => by
  subst e
  refine q _ _ G2 H2 r (.bl _) ?_
  cases hd <;> rfl
theorem em_notN (ha : Em X W ds a (· = d)) {n : Nat} : Em X W ds (.Compare a [.IsNot] [.Constant .none n p2] pos) (· = .bool (match d with | .none => false | _ => true)) := em_of (pe_cmp (pc_notN pe_u)) fun σ G H ok env Q q => ha σ G H ok env _ fun v d' G2 H2 r hd e => by
  subst e
  refine q _ _ G2 H2 r (.bl _) ?_
  cases hd <;> rfl
/-- x < y < z of ints -/
theorem em_chain {op op' : CmpOp} {g g' : Int → Int → Bool} {l : Int} (ho : OpR X (compareOp op) (rI0 fun i j => .bl (g i j))) (ho' : OpR X (compareOp op') (rI0 fun i j => .bl (g' i j))) (ha : Em X W ds a (· = .int i)) (hb : Em X W ds b (· = .int j)) (hc : Em X W ds c (· = .int l))
    (hm : lastMarks [op, op'] [b, c] = false := by with_unfolding_all rfl) : Em X W ds (.Compare a [op, op'] [b, c] pos) (· = .bool (g i j && g' j l)) := em_of (pe_chain ho ho' pe_u pe_u pe_u hm) fun σ G H ok env Q q =>
  ha σ G H ok env _ fun x dx G1 H1 r1 hx px => hb σ G1 H1 (W.oks r1) (env.mono r1) _ fun y dy G2 H2 r2 hy py => by
    subst px
    subst py
    cases hx
    cases hy
    refine ⟨i, j, rfl, rfl, _, rfl, ?_⟩
    cases e : g i j with
    | true =>
      rw [if_pos rfl]
      refine hc σ G2 H2 (W.oks r2) ((env.mono r1).mono r2) _ fun z dz G3 H3 r3 hz pz => ?_
      subst pz
      cases hz
      exact ⟨j, l, rfl, rfl, q _ _ G3 H3 (W.trans (W.trans r1 r2) r3) (.bl _) (by rw [e] <;> rfl)⟩
    | false =>
      rw [if_neg Bool.false_ne_true]
      exact q _ _ G2 H2 (W.trans r1 r2) (.bl _) (by rw [e] <;> rfl)
/-- a op1 b op2 c op3 e -/
def tChain3 (r r' r'' : R2) (ta tb tc te : TE) : TE := fun σ H Q => ta σ H fun x H1 => tb σ H1 fun y H2 => r x y H2 fun z H3 => ∃ k, z = .bl k ∧
  (if k = true then tc σ H3 fun u H4 => r' y u H4 fun z' H5 => ∃ k', z' = .bl k' ∧ (if k' = true then te σ H5 fun u' H6 => r'' u u' H6 Q else Q (.bl false) H5) else Q (.bl false) H3)
theorem pe_chain3 {op op' op'' : CmpOp} {r r' r'' : R2} {ta tb tc te : TE} (ho : OpR X (compareOp op) r) (ho' : OpR X (compareOp op') r') (ho'' : OpR X (compareOp op'') r'') (ha : PE X a ta) (hb : PE X b tb) (hc : PE X c tc) (he : PE X e te)
    (hm : lastMarks [op, op', op''] [b, c, e] = false := by with_unfolding_all rfl) : PE X (.Compare a [op, op', op''] [b, c, e] pos) (tChain3 r r' r'' ta tb tc te) := by
  refine ⟨fun pins s σ H Q I h => ?_⟩
  refine Compare_chain (thn (ha.run pins s σ H _ I h) fun v s1 ⟨x, H1, I1, r1, q1⟩ => chain_link (thn (hb.run pins s1 σ H1 _ I1 q1) fun u s2 ⟨y, H2, I2, r2, q2⟩ =>
    thn (ho pins s2 σ H2 x y v u _ I2 r1 r2 q2) fun d s3 ⟨z, H3, I3, r3, k, e3, q3⟩ => ?_)) hm
  subst e3
  cases r3
  refine wpAny_truthy_bool ?_
  cases k with
  | false => exact ite_ff ⟨.bl false, H3, I3, rfl, q3⟩
  | true =>
    refine ite_tt (chain_link (thn (hc.run pins s3 σ H3 _ I3 q3) fun u4 s4 ⟨y4, H4, I4, r4, q4⟩ => thn (ho' pins s4 σ H4 y y4 u u4 _ I4 r2 r4 q4) fun d5 s5 ⟨z5, H5, I5, r5, k5, e5, q5⟩ => ?_))
    subst e5
    cases r5
    refine wpAny_truthy_bool ?_
    cases k5 with
    | false => exact ite_ff ⟨.bl false, H5, I5, rfl, q5⟩
    | true => exact ite_tt (chain_last (thn (he.run pins s5 σ H5 _ I5 q5) fun w' s6 ⟨z', H6, I6, r6, q6⟩ => ho'' pins s6 σ H6 y4 z' u4 w' Q I6 r4 r6 q6))
theorem em_chain3 {op op' op'' : CmpOp} {g g' g'' : Int → Int → Bool} {l m : Int} (ho : OpR X (compareOp op) (rI0 fun i j => .bl (g i j))) (ho' : OpR X (compareOp op') (rI0 fun i j => .bl (g' i j))) (ho'' : OpR X (compareOp op'') (rI0 fun i j => .bl (g'' i j)))
    (ha : Em X W ds a (· = .int i)) (hb : Em X W ds b (· = .int j)) (hc : Em X W ds c (· = .int l)) (he : Em X W ds e (· = .int m)) (hm : lastMarks [op, op', op''] [b, c, e] = false := by with_unfolding_all rfl) :
    Em X W ds (.Compare a [op, op', op''] [b, c, e] pos) (· = .bool (g i j && (g' j l && g'' l m))) := em_of (pe_chain3 ho ho' ho'' pe_u pe_u pe_u pe_u hm) fun σ G H ok env Q q =>
  ha σ G H ok env _ fun x dx G1 H1 r1 hx px => hb σ G1 H1 (W.oks r1) (env.mono r1) _ fun y dy G2 H2 r2 hy py => by
    subst px
    subst py
    cases hx
    cases hy
    refine ⟨i, j, rfl, rfl, _, rfl, ?_⟩
    cases e1 : g i j with
    | true =>
      rw [if_pos rfl]
      refine hc σ G2 H2 (W.oks r2) ((env.mono r1).mono r2) _ fun z dz G3 H3 r3 hz pz => ?_
      subst pz
      cases hz
      refine ⟨j, l, rfl, rfl, _, rfl, ?_⟩
      cases e2 : g' j l with
      | true =>
        rw [if_pos rfl]
        refine he σ G3 H3 (W.oks r3) (((env.mono r1).mono r2).mono r3) _ fun z dz G4 H4 r4 hz pz => ?_
        subst pz
        cases hz
        exact ⟨l, m, rfl, rfl, q _ _ G4 H4 (W.trans (W.trans (W.trans r1 r2) r3) r4) (.bl _) (by rw [e1, e2] <;> rfl)⟩
      | false =>
        rw [if_neg Bool.false_ne_true]
        exact q _ _ G3 H3 (W.trans (W.trans r1 r2) r3) (.bl _) (by rw [e1, e2] <;> rfl)
    | false =>
      rw [if_neg Bool.false_ne_true]
      exact q _ _ G2 H2 (W.trans r1 r2) (.bl _) (by rw [e1] <;> rfl)
/-! ### and, or, not as values -/
theorem em_one {op : BoolOp} (h : Em X W ds a P) : Em X W ds (.BoolOp op [a] pos) P := em_of (pe_one pe_u) h
theorem em_and {rest : List Expr} {x : Bool} {P : PyData → Prop} (ha : Em X W ds a (· = .bool x)) (hf : x = false → P (.bool false)) (hb : x = true → Em X W ds (.BoolOp .And (b :: rest) pos) P) : Em X W ds (.BoolOp .And (a :: b :: rest) pos) P := em_of (pe_and pe_u pe_u) fun σ G H ok env Q q =>
  ha σ G H ok env _ fun v d G1 H1 r1 hd e => by
    subst e
    cases hd
    refine ⟨x, rfl, ?_⟩
    cases x with
    | true =>
      rw [if_pos rfl]
      exact hb rfl σ G1 H1 (W.oks r1) (env.mono r1) _ fun v d G2 H2 r2 hd p => q v d G2 H2 (W.trans r1 r2) hd p
    | false =>
      rw [if_neg Bool.false_ne_true]
      exact q _ _ G1 H1 r1 (.bl _) (hf rfl)
theorem em_or {rest : List Expr} {x : Bool} {P : PyData → Prop} (ha : Em X W ds a (· = .bool x)) (hf : x = true → P (.bool true)) (hb : x = false → Em X W ds (.BoolOp .Or (b :: rest) pos) P) : Em X W ds (.BoolOp .Or (a :: b :: rest) pos) P := em_of (pe_or pe_u pe_u) fun σ G H ok env Q q =>
  ha σ G H ok env _ fun v d G1 H1 r1 hd e => by
    subst e
    cases hd
    refine ⟨x, rfl, ?_⟩
    cases x with
    | false =>
      rw [if_neg Bool.false_ne_true]
      exact hb rfl σ G1 H1 (W.oks r1) (env.mono r1) _ fun v d G2 H2 r2 hd p => q v d G2 H2 (W.trans r1 r2) hd p
    | true =>
      rw [if_pos rfl]
      exact q _ _ G1 H1 r1 (.bl _) (hf rfl)
theorem em_not {x : Bool} (ha : Em X W ds a (· = .bool x)) : Em X W ds (.UnaryOp .Not a pos) (· = .bool (!x)) := em_of (pe_not pe_u) fun σ G H ok env Q q => ha σ G H ok env _ fun v d G1 H1 r1 hd e => by
  subst e
  cases hd
  exact ⟨x, rfl, q _ _ G1 H1 r1 (.bl _) rfl⟩
/-! ### tests -/
theorem tm_val {x : Bool} (h : Em X W ds e (· = .bool x)) (he : ∀ whole, isTrue e X.env whole = (do let v ← whole; standAt e.pos; holding [v] (truthy v)) := by intro _; rfl) : Tm X W ds e (· = x) := tm_of (pt_val pe_u he) fun σ G H ok env Q q =>
  h σ G H ok env _ fun v d G1 H1 r1 hd e => by
    subst e
    cases hd
    exact ⟨x, rfl, q _ G1 H1 r1 rfl⟩
theorem tm_cmp {op : CmpOp} {r : R2} {P : Bool → Prop} (ho : OpR X (compareOp op) r) (hm : behindInMarks op b = false) (h : EmR X.K W ds (tOp r (uE X a) (uE X b)) (fun d => ∃ x, d = .bool x ∧ P x)) : Tm X W ds (.Compare a [op] [b] pos) P := tm_of (pt_cmpR ho pe_u pe_u hm) fun σ G H ok env Q q =>
  h σ G H ok env _ fun v d G1 H1 r1 hd ⟨x, e, p⟩ => by
    subst e
    cases hd
    exact ⟨x, rfl, q _ G1 H1 r1 p⟩
theorem tm_I {op : CmpOp} {g : Int → Int → Bool} (ho : OpR X (compareOp op) (rI0 fun i j => .bl (g i j))) (hm : behindInMarks op b = false) (ha : Em X W ds a (· = .int i)) (hb : Em X W ds b (· = .int j)) : Tm X W ds (.Compare a [op] [b] pos) (· = g i j) :=
  tm_cmp ho hm (em_op2 ha hb fun G H x y dx dy ok hx hy px py Q q => by
    subst px
    subst py
    cases hx
    cases hy
    exact ⟨i, j, rfl, rfl, q _ _ G H (W.refl ok) (.bl _) ⟨_, rfl, rfl⟩⟩)
theorem tm_lt (ha : Em X W ds a (· = .int i)) (hb : Em X W ds b (· = .int j)) : Tm X W ds (.Compare a [.Lt] [b] pos) (· = decide (i < j)) := tm_I op_lt (nomark _) ha hb
theorem tm_le (ha : Em X W ds a (· = .int i)) (hb : Em X W ds b (· = .int j)) : Tm X W ds (.Compare a [.LtE] [b] pos) (· = decide (i ≤ j)) := tm_I op_le (nomark _) ha hb
theorem tm_gt (ha : Em X W ds a (· = .int i)) (hb : Em X W ds b (· = .int j)) : Tm X W ds (.Compare a [.Gt] [b] pos) (· = decide (j < i)) := tm_I op_gt (nomark _) ha hb
theorem tm_ge (ha : Em X W ds a (· = .int i)) (hb : Em X W ds b (· = .int j)) : Tm X W ds (.Compare a [.GtE] [b] pos) (· = decide (j ≤ i)) := tm_I op_ge (nomark _) ha hb
theorem tm_eqI (ha : Em X W ds a (· = .int i)) (hb : Em X W ds b (· = .int j)) : Tm X W ds (.Compare a [.Eq] [b] pos) (· = decide (i = j)) := tm_cmp op_eq (nomark _) (em_op2 ha hb fun G H x y dx dy ok hx hy px py Q q => by
  subst px
  subst py
  cases hx
  cases hy
  exact ⟨rfl, q _ _ G H (W.refl ok) (.bl _) ⟨_, rfl, by rw [dec_int, Bool.beq_eq_decide_eq]⟩⟩)
theorem tm_eqI' {Pa Pb : PyData → Prop} {P : Bool → Prop} (ha : Em X W ds a Pa) (hb : Em X W ds b Pb) (k : ∀ x y, Pa x → Pb y → ∃ i j, x = .int i ∧ y = .int j ∧ P (decide (i = j))) : Tm X W ds (.Compare a [.Eq] [b] pos) P := tm_cmp op_eq (nomark _) (em_op2 ha hb fun G H x y dx dy ok hx hy px py Q q => by
  obtain ⟨i, j, rfl, rfl, p⟩ := k dx dy px py
  cases hx
  cases hy
  exact ⟨rfl, q _ _ G H (W.refl ok) (.bl _) ⟨_, rfl, by rw [dec_int, Bool.beq_eq_decide_eq]; exact p⟩⟩)
theorem tm_neI (ha : Em X W ds a (· = .int i)) (hb : Em X W ds b (· = .int j)) : Tm X W ds (.Compare a [.NotEq] [b] pos) (· = !decide (i = j)) := tm_cmp op_ne (nomark _) (em_op2 ha hb fun G H x y dx dy ok hx hy px py Q q => by
  subst px
  subst py
  cases hx
  cases hy
  exact ⟨rfl, q _ _ G H (W.refl ok) (.bl _) ⟨_, rfl, by rw [dec_int, Bool.beq_eq_decide_eq]⟩⟩)
theorem tm_eqS {x y : Str} (ha : Em X W ds a (· = .str x)) (hb : Em X W ds b (· = .str y)) : Tm X W ds (.Compare a [.Eq] [b] pos) (· = decide (x = y)) := tm_cmp op_eq (nomark _) (em_op2 ha hb fun G H u v dx dy ok hx hy px py Q q => by
  subst px
  subst py
  cases hx
  cases hy
  exact ⟨rfl, q _ _ G H (W.refl ok) (.bl _) ⟨_, rfl, by rw [dec_str]; rw [Bool.beq_eq_decide_eq]⟩⟩)
theorem tm_eqD {k : Nat} {d d' : PyData} (hr : Room k X.A) (s : SeqAt.shaped d = true) (s' : SeqAt.shaped d' = true) (ha : Em X W ds a (· = d)) (hb : Em X W ds b (· = d')) : Tm X W ds (.Compare a [.Eq] [b] pos) (· = PyData.eqv d d') := tm_cmp (op_eqD hr.units) (nomark _) (em_op2 ha hb fun G H u v dx dy ok hx hy px py Q q => by
  subst px
  subst py
  exact ⟨_, _, ddp _ _ (dmono (W.sub ok) _ _ hx), ddp _ _ (dmono (W.sub ok) _ _ hy), s, s', q _ _ G H (W.refl ok) (.bl _) ⟨_, rfl, rfl⟩⟩)
theorem tm_neD {k : Nat} {d d' : PyData} (hr : Room k X.A) (s : SeqAt.shaped d = true) (s' : SeqAt.shaped d' = true) (ha : Em X W ds a (· = d)) (hb : Em X W ds b (· = d')) : Tm X W ds (.Compare a [.NotEq] [b] pos) (· = !PyData.eqv d d') := tm_cmp (op_neD hr.units) (nomark _) (em_op2 ha hb fun G H u v dx dy ok hx hy px py Q q => by
  subst px
  subst py
  exact ⟨_, _, ddp _ _ (dmono (W.sub ok) _ _ hx), ddp _ _ (dmono (W.sub ok) _ _ hy), s, s', q _ _ G H (W.refl ok) (.bl _) ⟨_, rfl, rfl⟩⟩)
theorem tm_not {P : Bool → Prop} (h : Tm X W ds a fun x => P (!x)) : Tm X W ds (.UnaryOp .Not a pos) P := tm_of (pt_not pt_u) fun σ G H ok env Q q => h σ G H ok env _ fun x G1 H1 r1 p => q _ G1 H1 r1 p
theorem wm_and1 {P : Bool → Prop} (h : Tm X W ds a P) : Wm X W ds (.BoolOp .And [a] pos) P := wm_of (pw_and1 pt_u) h
theorem wm_or1 {P : Bool → Prop} (h : Tm X W ds a P) : Wm X W ds (.BoolOp .Or [a] pos) P := wm_of (pw_or1 pt_u) h
theorem wm_and {rest : List Expr} {P : Bool → Prop} {x : Bool} (ha : Tm X W ds a (· = x)) (hf : x = false → P false) (hb : x = true → Wm X W ds (.BoolOp .And (b :: rest) pos) P) : Wm X W ds (.BoolOp .And (a :: b :: rest) pos) P := wm_of (pw_and pt_u pw_u) fun σ G H ok env Q q =>
  ha σ G H ok env _ fun y G1 H1 r1 e => by
    subst e
    cases y with
    | true =>
      rw [if_pos rfl]
      exact hb rfl σ G1 H1 (W.oks r1) (env.mono r1) _ fun b G2 H2 r2 p => q b G2 H2 (W.trans r1 r2) p
    | false =>
      rw [if_neg Bool.false_ne_true]
      exact q _ G1 H1 r1 (hf rfl)
theorem wm_or {rest : List Expr} {P : Bool → Prop} {x : Bool} (ha : Tm X W ds a (· = x)) (hf : x = true → P true) (hb : x = false → Wm X W ds (.BoolOp .Or (b :: rest) pos) P) : Wm X W ds (.BoolOp .Or (a :: b :: rest) pos) P := wm_of (pw_or pt_u pw_u) fun σ G H ok env Q q =>
  ha σ G H ok env _ fun y G1 H1 r1 e => by
    subst e
    cases y with
    | true =>
      rw [if_pos rfl]
      exact q _ G1 H1 r1 (hf rfl)
    | false =>
      rw [if_neg Bool.false_ne_true]
      exact hb rfl σ G1 H1 (W.oks r1) (env.mono r1) _ fun b G2 H2 r2 p => q b G2 H2 (W.trans r1 r2) p
theorem tm_w {P : Bool → Prop} (h : Wm X W ds e P) : Tm X W ds e P := fun σ G H ok env Q q => by
  obtain ⟨t, p, z⟩ := h σ G H ok env Q q
  exact ⟨t, p.pt, z⟩
/-! ### arguments, displays -/
theorem am_nil : Am X W ds [] (· = []) := am_of pa_nil fun σ G H ok env Q q => q _ _ G H (W.refl ok) .nil rfl
theorem am_cons' {Pa : PyData → Prop} {Pr P : List PyData → Prop} (ha : Em X W ds e Pa) (hr : Am X W ds es Pr) (k : ∀ x xs, Pa x → Pr xs → P (x :: xs)) (hs : starEach (e :: es) X.env = (false, eval e X.env) :: starEach es X.env := by rfl) : Am X W ds (e :: es) P := am_of (pa_cons pe_u pa_u hs) fun σ G H ok env Q q =>
  ha σ G H ok env _ fun x dx G1 H1 r1 hx px => hr σ G1 H1 (W.oks r1) (env.mono r1) _ fun xs dxs G2 H2 r2 hxs pxs => q _ _ G2 H2 (W.trans r1 r2) (.cons (dmono (W.g r2) _ _ hx) hxs) (k _ _ px pxs)
theorem am_cons {as : List PyData} (ha : Em X W ds e (· = d)) (hr : Am X W ds es (· = as)) (hs : starEach (e :: es) X.env = (false, eval e X.env) :: starEach es X.env := by rfl) : Am X W ds (e :: es) (· = d :: as) := am_cons' ha hr (fun _ _ hx hxs => by rw [hx, hxs]) hs
theorem em_tup' {P : PyData → Prop} {Pa : List PyData → Prop} {n : Nat} (ha : Am X W ds es Pa) (k : ∀ as, Pa as → as.length ≤ 1000 ∧ P (.tuple as)) : Em X W ds (.Tuple es n pos) P := em_of (pe_tupZ pa_u) fun σ G H ok env Q q =>
  ha σ G H ok env _ fun vs as G1 H1 r1 hs p => by
    obtain ⟨hl, hp⟩ := k as p
    refine ⟨Nat.le_of_lt (small1000 (by rw [hs.len]; exact hl)), fun a ob ha hob => ?_⟩
    have st := Stp.new (o := .frz ob (.tup vs)) (W.sub (W.oks r1)) ha
    exact q _ _ _ _ (W.trans r1 (W.step (W.oks r1) st)) (.tup (.new hob) (dmonoAll st.g _ _ hs)) hp
theorem em_tup {as : List PyData} {n : Nat} (ha : Am X W ds es (· = as)) (hl : as.length ≤ 1000 := by exact Nat.le_of_ble_eq_true rfl) : Em X W ds (.Tuple es n pos) (· = .tuple as) := em_tup' ha fun _ e => by rw [e]; exact ⟨hl, rfl⟩
theorem em_lst' {P : PyData → Prop} {Pa : List PyData → Prop} (ha : Am X W ds es Pa) (k : ∀ as, Pa as → as.length ≤ 1000 ∧ P (.list as)) : Em X W ds (.List es pos) P := em_of (pe_lst pa_u) fun σ G H ok env Q q =>
  ha σ G H ok env _ fun vs as G1 H1 r1 hs p => by
    obtain ⟨hl, hp⟩ := k as p
    refine ⟨Nat.le_of_lt (small1000 (by rw [hs.len]; exact hl)), fun a ha => ?_⟩
    have st := Stp.new (o := .lst vs) (W.sub (W.oks r1)) ha
    exact q _ _ _ _ (W.trans r1 (W.step (W.oks r1) st)) (.lst upd_same (dmonoAll st.g _ _ hs)) hp
theorem em_lst {as : List PyData} (ha : Am X W ds es (· = as)) (hl : as.length ≤ 1000 := by exact Nat.le_of_ble_eq_true rfl) : Em X W ds (.List es pos) (· = .list as) := em_lst' ha fun _ e => by rw [e]; exact ⟨hl, rfl⟩
/-! ### subscripts -/
theorem Ds.atI {K : PySem.W.Frag} {G : Hp} {vs : List V} {as : List PyData} (h : Ds K G vs as) {d : PyData} (e : L2.atI as i = some d) : ∃ v, L2.atI vs i = some v ∧ Dd K G v d := by
  unfold L2.atI at e ⊢
  rw [h.len]
  cases q : ixN as.length i with
  | none => rw [q] at e; cases e
  | some j =>
    rw [q] at e
    obtain ⟨v, hv, hd⟩ := h.at (show as[j]? = some d from e)
    exact ⟨v, hv, hd⟩
theorem em_ixT' {Pa Pb : PyData → Prop} (ha : Em X W ds a Pa) (hb : Em X W ds b Pb) (k : ∀ x y, Pa x → Pb y → ∃ as i d, x = .tuple as ∧ y = .int i ∧ L2.atI as i = some d ∧ P d) (hs : PlainIx b := by exact fun _ _ => rfl) : Em X W ds (.Subscript a b pos) P := em_of (pe_ix ix_tup pe_u pe_u hs) (em_op2 ha hb fun G H u v dx dy ok hx hy px py Q q => by
  obtain ⟨as, i, d, rfl, rfl, h, p⟩ := k dx dy px py
  cases hy
  cases hx with
  | tup hh hd =>
    obtain ⟨v, hv, hdv⟩ := hd.atI h
    exact ⟨_, _, i, v, rfl, rfl, hh.sq (W.sub ok), hv, q _ _ G H (W.refl ok) hdv p⟩)
theorem em_ixT {as : List PyData} (h : L2.atI as i = some d) (ha : Em X W ds a (· = .tuple as)) (hb : Em X W ds b (· = .int i)) (hs : PlainIx b := by exact fun _ _ => rfl) : Em X W ds (.Subscript a b pos) (· = d) := em_ixT' ha hb (fun _ _ hx hy => ⟨as, i, d, hx, hy, h, rfl⟩) hs
theorem em_ixL' {Pa Pb : PyData → Prop} (ha : Em X W ds a Pa) (hb : Em X W ds b Pb) (k : ∀ x y, Pa x → Pb y → ∃ as i d, x = .list as ∧ y = .int i ∧ L2.atI as i = some d ∧ P d) (hs : PlainIx b := by exact fun _ _ => rfl) : Em X W ds (.Subscript a b pos) P := em_of (pe_ix ix_list pe_u pe_u hs) (em_op2 ha hb fun G H u v dx dy ok hx hy px py Q q => by
  obtain ⟨as, i, d, rfl, rfl, h, p⟩ := k dx dy px py
  cases hy
  cases hx with
  | lst hh hd =>
    obtain ⟨v, hv, hdv⟩ := hd.atI h
    exact ⟨_, _, i, v, rfl, rfl, .inl (.inl (W.sub ok _ _ hh)), hv, q _ _ G H (W.refl ok) hdv p⟩)
theorem em_ixL {as : List PyData} (h : L2.atI as i = some d) (ha : Em X W ds a (· = .list as)) (hb : Em X W ds b (· = .int i)) (hs : PlainIx b := by exact fun _ _ => rfl) : Em X W ds (.Subscript a b pos) (· = d) := em_ixL' ha hb (fun _ _ hx hy => ⟨as, i, d, hx, hy, h, rfl⟩) hs
end
end Dn
namespace Dn
open PySem PySem.Spec PyProof.Rows L2
/-- a def of the program that keeps a promise, by its name -/
structure Fk (P : Program) (w : World) (K : PySem.W.Frag) (mg : Str → Option Value) (base : Heap) (x : Str) (k : Nat) (ps : List Str) (sp : KSp) : Prop where
  ex : ∃ f fd, FnOk P w K mg base CX0 k f fd ps (sp K) ∧ mg x = some (.ref f) ∧ PySem.W.keepIn K (.ref f) = true ∧ Binds K fd ps []
section
variable {X : Cx} {W : Wr} {ds : List Sl} {e a b c : Expr} {es : List Expr} {pos p2 p3 : Pos} {P : PyData → Prop} {d : PyData} {i j : Int}
/-! ### calls of defs -/
theorem em_call' {x : Str} {k : Nat} {ps : List Str} {pre : List PyData → Prop} {post : List PyData → PyData → Prop} {Pa : List PyData → Prop} (F : Fk X.prog X.w X.K X.mg X.base x k ps (spP pre post)) (hr : Room k X.A) (ha : Am X W ds (e :: es) Pa) (hp : ∀ as, Pa as → pre as ∧ ∀ d, post as d → P d) (hg : Gl X x := by rfl)
    (hdb : (x == ("__debug__" : Str)) = false := by decide) (he : starEach (e :: es) X.env = (false, eval e X.env) :: starEach es X.env := by rfl) (hpl : (backTo pos (starEach es X.env)).any (·.1) = false := by rfl) : Em X W ds (.Call (.Name x p2) (e :: es) [] pos) P := by
  obtain ⟨f, fd, G, hm, hk, hb⟩ := F.ex
  refine em_of (pe_call G hr hg hm hk hb .nil pass0 pa_u hdb he hpl) fun σ G0 H0 ok env Q q => ha σ G0 H0 ok env _ fun vs as G1 H1 r1 hs p => ?_
  obtain ⟨p1, p2⟩ := hp as p
  rw [List.append_nil]
  exact ⟨G1, as, W.sub (W.oks r1), hs, p1, fun v d G2 H2 st hd hpo => q v d G2 H2 (W.trans r1 (W.step (W.oks r1) st)) hd (p2 d hpo)⟩
theorem em_call {x : Str} {k : Nat} {ps : List Str} {pre : List PyData → Prop} {post : List PyData → PyData → Prop} {as : List PyData} (F : Fk X.prog X.w X.K X.mg X.base x k ps (spP pre post)) (hr : Room k X.A) (ha : Am X W ds (e :: es) (· = as)) (hp : pre as) (hg : Gl X x := by rfl)
    (hdb : (x == ("__debug__" : Str)) = false := by decide) (he : starEach (e :: es) X.env = (false, eval e X.env) :: starEach es X.env := by rfl) (hpl : (backTo pos (starEach es X.env)).any (·.1) = false := by rfl) : Em X W ds (.Call (.Name x p2) (e :: es) [] pos) (post as) :=
  em_call' F hr ha (fun _ e => by rw [e]; exact ⟨hp, fun _ h => h⟩) hg hdb he hpl
/-- a new list, taken as data -/
theorem em_callL {x : Str} {k : Nat} {ps : List Str} {pre : List PyData → Prop} {post : List PyData → List PyData → Prop} {Pa : List PyData → Prop} (F : Fk X.prog X.w X.K X.mg X.base x k ps (spL pre post)) (hr : Room k X.A) (ha : Am X W ds (e :: es) Pa) (hp : ∀ as, Pa as → pre as ∧ ∀ xs, post as xs → P (.list xs)) (hg : Gl X x := by rfl)
    (hdb : (x == ("__debug__" : Str)) = false := by decide) (he : starEach (e :: es) X.env = (false, eval e X.env) :: starEach es X.env := by rfl) (hpl : (backTo pos (starEach es X.env)).any (·.1) = false := by rfl) : Em X W ds (.Call (.Name x p2) (e :: es) [] pos) P := by
  obtain ⟨f, fd, G, hm, hk, hb⟩ := F.ex
  refine em_of (pe_call G hr hg hm hk hb .nil pass0 pa_u hdb he hpl) fun σ G0 H0 ok env Q q => ha σ G0 H0 ok env _ fun vs as G1 H1 r1 hs p => ?_
  obtain ⟨p1, p2⟩ := hp as p
  rw [List.append_nil]
  refine ⟨G1, as, W.sub (W.oks r1), hs, p1, fun p us xs G2 H2 st h0 g2 h2 hd hpo => ?_⟩
  have st2 := st.freeze h0 g2 h2
  exact q _ _ _ H2 (W.trans r1 (W.step (W.oks r1) st2)) (.lst upd_same (dmonoAll (same_upd g2) _ _ hd)) (p2 xs hpo)
/-- a call with the bag ahead of all -/
theorem em_callB {x y : Str} {k n : Nat} {ps : List Str} {bg : Addr} {pre : List PyData → Prop} {post : List PyData → PyData → Prop} {Pa : List PyData → Prop} (F : Fk X.prog X.w X.K X.mg X.base x k ps (spB pre post)) (hr : Room k X.A) (hn : ds[n]? = some (.raw (.ref bg))) (ha : Am X (bw bg) ds es Pa) (hp : ∀ as, Pa as → pre as ∧ ∀ d, post as d → P d) (hg : Gl X x := by rfl)
    (hN : X.N[n]? = some y := by rfl) (hv : Vis X.env.scope y := by first | exact Or.inl rfl | exact Or.inr (Or.inl rfl) | exact Or.inr (Or.inr rfl)) (hd : (y == ("__debug__" : Str)) = false := by decide) (hcd : (y == ("__classdict__" : Str)) = false := by decide)
    (hdb : (x == ("__debug__" : Str)) = false := by decide) (he : starEach (.Name y p3 :: es) X.env = (false, eval (.Name y p3) X.env) :: starEach es X.env := by rfl) (hpl : (backTo pos (starEach es X.env)).any (·.1) = false := by rfl) : Em X (bw bg) ds (.Call (.Name x p2) (.Name y p3 :: es) [] pos) P := by
  obtain ⟨f, fd, G, hm, hk, hb⟩ := F.ex
  refine em_of (pe_call G hr hg hm hk hb .nil pass0 (pa_cons (pv n hN hv hd hcd) pa_u he) hdb he hpl) fun σ G0 H0 ok env Q q => ?_
  obtain ⟨z, e1, e2⟩ := env.at hn
  refine ⟨.ref bg, by rw [e1, show z = some (V.ref bg) from e2], ha σ G0 H0 ok env _ fun vs as G1 H1 r1 hs p => ?_⟩
  obtain ⟨p1, p2⟩ := hp as p
  rw [List.append_nil]
  exact ⟨bg, vs, G1, as, rfl, r1.ok, hs, p1, fun v d G2 H2 st hd hpo => q v d G2 H2 ((bw bg).trans r1 st) hd (p2 d hpo)⟩
/-! ### built-ins -/
theorem em_len {as : List PyData} (ha : Em X W ds a (fun d => d = .list as ∨ d = .tuple as)) (hm : X.mg "len" = none) (hg : Gl X "len" := by rfl) (hs : starEach [a] X.env = (false, eval a X.env) :: starEach [] X.env := by rfl) (hpl : (backTo pos (starEach [] X.env)).any (·.1) = false := by rfl) : Em X W ds (.Call (.Name "len" p2) [a] [] pos) (· = .int as.length) :=
  em_of (pe_callB call_len_seq hg hm PySem.boot_len (pa_cons pe_u pa_nil hs) (he := hs) (hpl := hpl)) fun σ G H ok env Q q => ha σ G H ok env _ fun v d G1 H1 r1 hd e => by
    rcases e with e | e
    · subst e
      cases hd with
      | lst hh hs => exact ⟨_, _, rfl, .inl (.inl (.inl (W.sub (W.oks r1) _ _ hh))), q _ _ G1 H1 r1 (.int _) (by rw [hs.len])⟩
    · subst e
      cases hd with
      | tup hh hs => exact ⟨_, _, rfl, .inr (hh.sq (W.sub (W.oks r1))), q _ _ G1 H1 r1 (.int _) (by rw [hs.len])⟩
theorem em_lenP {Pa : PyData → Prop} (ha : Em X W ds a (fun d => ∃ as, d = .list as ∧ Pa (.list as))) (hm : X.mg "len" = none) (hg : Gl X "len" := by rfl) (hs : starEach [a] X.env = (false, eval a X.env) :: starEach [] X.env := by rfl) (hpl : (backTo pos (starEach [] X.env)).any (·.1) = false := by rfl) : Em X W ds (.Call (.Name "len" p2) [a] [] pos) (fun d => ∃ as : List PyData, Pa (.list as) ∧ d = .int as.length) :=
  em_of (pe_callB call_len_seq hg hm PySem.boot_len (pa_cons pe_u pa_nil hs) (he := hs) (hpl := hpl)) fun σ G H ok env Q q => ha σ G H ok env _ fun v d G1 H1 r1 hd ⟨as, e, p⟩ => by
    subst e
    cases hd with
    | lst hh hs => exact ⟨_, _, rfl, .inl (.inl (.inl (W.sub (W.oks r1) _ _ hh))), q _ _ G1 H1 r1 (.int _) ⟨as, p, by rw [hs.len]⟩⟩
theorem em_abs (ha : Em X W ds a (· = .int i)) (hm : X.mg "abs" = none) (hg : Gl X "abs" := by rfl) (hs : starEach [a] X.env = (false, eval a X.env) :: starEach [] X.env := by rfl) (hpl : (backTo pos (starEach [] X.env)).any (·.1) = false := by rfl) : Em X W ds (.Call (.Name "abs" p2) [a] [] pos) (· = .int i.natAbs) :=
  em_of (pe_callB call_abs hg hm (by decide +kernel) (pa_cons pe_u pa_nil hs) (he := hs) (hpl := hpl)) fun σ G H ok env Q q => ha σ G H ok env _ fun v d G1 H1 r1 hd e => by
    subst e
    cases hd
    refine ⟨i, rfl, q _ _ G1 H1 r1 (.int _) ?_⟩
    congr 1
    split <;> omega
theorem em_max (hc : X.calm = true) (ha : Em X W ds a (· = .int i)) (hb : Em X W ds b (· = .int j)) (hm : X.mg "max" = none) (hg : Gl X "max" := by rfl) (hs1 : starEach [b] X.env = (false, eval b X.env) :: starEach [] X.env := by rfl) (hs : starEach [a, b] X.env = (false, eval a X.env) :: starEach [b] X.env := by rfl) (hpl : (backTo pos (starEach [b] X.env)).any (·.1) = false := by rfl) : Em X W ds (.Call (.Name "max" p2) [a, b] [] pos) (· = .int (max i j)) :=
  em_of (pe_callB (call_max2 hc) hg hm (by decide +kernel) (pa_cons pe_u (pa_cons pe_u pa_nil hs1) hs) (he := hs) (hpl := hpl)) fun σ G H ok env Q q => ha σ G H ok env _ fun v d G1 H1 r1 hd e => hb σ G1 H1 (W.oks r1) (env.mono r1) _ fun v2 d2 G2 H2 r2 hd2 e2 => by
    subst e
    subst e2
    cases hd
    cases hd2
    refine ⟨i, j, rfl, q _ _ G2 H2 (W.trans r1 r2) (.int _) ?_⟩
    congr 1
    split <;> omega
theorem em_min (hc : X.calm = true) (ha : Em X W ds a (· = .int i)) (hb : Em X W ds b (· = .int j)) (hm : X.mg "min" = none) (hg : Gl X "min" := by rfl) (hs1 : starEach [b] X.env = (false, eval b X.env) :: starEach [] X.env := by rfl) (hs : starEach [a, b] X.env = (false, eval a X.env) :: starEach [b] X.env := by rfl) (hpl : (backTo pos (starEach [b] X.env)).any (·.1) = false := by rfl) : Em X W ds (.Call (.Name "min" p2) [a, b] [] pos) (· = .int (min i j)) :=
  em_of (pe_callB (call_min2 hc) hg hm (by decide +kernel) (pa_cons pe_u (pa_cons pe_u pa_nil hs1) hs) (he := hs) (hpl := hpl)) fun σ G H ok env Q q => ha σ G H ok env _ fun v d G1 H1 r1 hd e => hb σ G1 H1 (W.oks r1) (env.mono r1) _ fun v2 d2 G2 H2 r2 hd2 e2 => by
    subst e
    subst e2
    cases hd
    cases hd2
    refine ⟨i, j, rfl, q _ _ G2 H2 (W.trans r1 r2) (.int _) ?_⟩
    congr 1
    split <;> omega
theorem em_intB {x : Bool} (ha : Em X W ds a (· = .bool x)) (hm : X.mg "int" = none) (hg : Gl X "int" := by rfl) (hs : starEach [a] X.env = (false, eval a X.env) :: starEach [] X.env := by rfl) (hpl : (backTo pos (starEach [] X.env)).any (·.1) = false := by rfl) : Em X W ds (.Call (.Name "int" p2) [a] [] pos) (· = .int (if x then 1 else 0)) :=
  em_of (pe_callTy call_int1 hg hm (by decide +kernel) (pa_cons pe_u pa_nil hs) (he := hs) (hpl := hpl)) fun σ G H ok env Q q => ha σ G H ok env _ fun v d G1 H1 r1 hd e => by
    subst e
    cases hd
    exact .inr ⟨x, rfl, q _ _ G1 H1 r1 (.int _) rfl⟩
theorem em_all {bs : List Bool} (hc : X.calm = true) (ha : Em X W ds a (· = .list (bs.map .bool))) (hm : X.mg "all" = none) (hg : Gl X "all" := by rfl) (hs : starEach [a] X.env = (false, eval a X.env) :: starEach [] X.env := by rfl) (hpl : (backTo pos (starEach [] X.env)).any (·.1) = false := by rfl) : Em X W ds (.Call (.Name "all" p2) [a] [] pos) (· = .bool (bs.all id)) :=
  em_of (pe_callB (cr_all hc) hg hm (by decide +kernel) (pa_cons pe_u pa_nil hs) (he := hs) (hpl := hpl)) fun σ G H ok env Q q => ha σ G H ok env _ fun v d G1 H1 r1 hd e => by
    subst e
    cases hd with
    | lst hh hs =>
      have e := hs.bls
      subst e
      exact ⟨_, bs, rfl, .inl (.inl (W.sub (W.oks r1) _ _ hh)), q _ _ G1 H1 r1 (.bl _) rfl⟩
theorem em_tupleOf {as : List PyData} (ha : Em X W ds a (· = .list as)) (hm : X.mg "tuple" = none) (hg : Gl X "tuple" := by rfl) (hs : starEach [a] X.env = (false, eval a X.env) :: starEach [] X.env := by rfl) (hpl : (backTo pos (starEach [] X.env)).any (·.1) = false := by rfl) : Em X W ds (.Call (.Name "tuple" p2) [a] [] pos) (· = .tuple as) :=
  em_of (pe_callTy call_tupleZ hg hm (by decide +kernel) (pa_cons pe_u pa_nil hs) (he := hs) (hpl := hpl)) fun σ G H ok env Q q => ha σ G H ok env _ fun v d G1 H1 r1 hd e => by
    subst e
    cases hd with
    | @lst _ us _ hh hs =>
      refine ⟨_, us, rfl, .inl (.inl (W.sub (W.oks r1) _ _ hh)), fun p ob hp hob => ?_⟩
      have st := Stp.new (o := .frz ob (.tup us)) (W.sub (W.oks r1)) hp
      exact q _ _ _ _ (W.trans r1 (W.step (W.oks r1) st)) (.tup (.new hob) (dmonoAll st.g _ _ hs)) rfl
theorem em_listOf {as : List PyData} (ha : Em X W ds a (fun d => d = .list as ∨ d = .tuple as)) (hm : X.mg "list" = none) (hg : Gl X "list" := by rfl) (hs : starEach [a] X.env = (false, eval a X.env) :: starEach [] X.env := by rfl) (hpl : (backTo pos (starEach [] X.env)).any (·.1) = false := by rfl) : Em X W ds (.Call (.Name "list" p2) [a] [] pos) (· = .list as) :=
  em_of (pe_callTy call_list_of hg hm (by decide +kernel) (pa_cons pe_u pa_nil hs) (he := hs) (hpl := hpl)) fun σ G H ok env Q q => ha σ G H ok env _ fun v d G1 H1 r1 hd e => by
    rcases e with e | e
    · subst e
      cases hd with
      | @lst _ us _ hh hs =>
        refine ⟨_, us, rfl, .inl (.inl (.inl (W.sub (W.oks r1) _ _ hh))), fun p hp => ?_⟩
        have st := Stp.new (o := .lst us) (W.sub (W.oks r1)) hp
        exact q _ _ _ _ (W.trans r1 (W.step (W.oks r1) st)) (.lst upd_same (dmonoAll st.g _ _ hs)) rfl
    · subst e
      cases hd with
      | @tup _ us _ hh hs =>
        refine ⟨_, us, rfl, .inr (hh.sq (W.sub (W.oks r1))), fun p hp => ?_⟩
        have st := Stp.new (o := .lst us) (W.sub (W.oks r1)) hp
        exact q _ _ _ _ (W.trans r1 (W.step (W.oks r1) st)) (.lst upd_same (dmonoAll st.g _ _ hs)) rfl
/-! ### isinstance against a built-in class -/
def tyOf : PyData → String
  | .none => "NoneType"
  | .bool _ => "bool"
  | .int _ => "int"
  | .str _ => "str"
  | .list _ => "list"
  | .tuple _ => "tuple"
  | .dict _ => "dict"
theorem tyx {K : PySem.W.Frag} {H : Hp} {v : V} (h : Dd K H v d) : TyX K H v (.type (tyOf d)) := by
  cases h with
  | non => exact .base .non
  | bl b => exact .base (.bl b)
  | int i => exact .base (.int i)
  | str x => exact .base (.str x)
  | lst h _ => exact .base (.lst h)
  | tup h _ =>
    rcases h with ⟨ob, h, _⟩ | ⟨ob, _, _, h1, h2, _⟩
    · exact .fTuple h
    · exact .kTuple h1 h2
theorem em_isi {T : String} {x : Str} {z : Bool} (ha : Em X W ds a (· = d)) (hm : X.mg "isinstance" = none) (hT : X.mg x = none) (hb : bootBuiltins x = some (.type T)) (hk : kitB (tyOf d) T = some z) (hg : Gl X "isinstance" := by rfl) (hgT : Gl X x := by rfl) (hn : x ≠ "__name__" := by decide) (hdx : (x == ("__debug__" : Str)) = false := by decide)
    (hs1 : starEach [.Name x p3] X.env = (false, eval (.Name x p3) X.env) :: starEach [] X.env := by rfl) (hs : starEach [a, .Name x p3] X.env = (false, eval a X.env) :: starEach [.Name x p3] X.env := by rfl) (hpl : (backTo pos (starEach [.Name x p3] X.env)).any (·.1) = false := by rfl) :
    Em X W ds (.Call (.Name "isinstance" p2) [a, .Name x p3] [] pos) (· = .bool z) :=
  em_of (pe_callB call_isi hg hm (by decide +kernel) (pa_cons pe_u (pa_cons (pe_bltn (v := .ty T) hgT hT hb rfl hn hdx) pa_nil hs1) hs) (he := hs) (hpl := hpl)) fun σ G H ok env Q q => ha σ G H ok env _ fun v d' G1 H1 r1 hd e => by
    subst e
    exact ⟨v, .ty T, _, _, z, rfl, .ty T, tyx (dmono (W.sub (W.oks r1)) _ _ hd), kit_ty hk, q _ _ G1 H1 r1 (.bl _) rfl⟩
/-! ### slices, sums of tuples and lists -/
def cutD (xs : List PyData) (lo hi : Option Int) : List PyData := (xs.drop (HT.sIx xs.length 0 lo)).take (HT.sIx xs.length xs.length hi - HT.sIx xs.length 0 lo)
theorem Ds.cut {K : PySem.W.Frag} {G : Hp} {vs : List V} {as : List PyData} (h : Ds K G vs as) (lo hi : Option Int) : Ds K G (cutV vs lo hi) (cutD as lo hi) := by
  unfold cutV cutD
  rw [h.len]
  exact (h.drop _).take _
/-- a part of a slice -/
def Om (X : Cx) (W : Wr) (ds : List Sl) (o : Option Expr) (x : Option Int) : Prop := ∃ t, PO X o t ∧ ∀ σ G H, W.ok G H → EnvOk X.K W G H ds σ → ∀ Q : Option Int → Hp → Prop, (∀ G2 H2, W.R G H G2 H2 → Q x H2) → t σ H Q
theorem om_none : Om X W ds none none := ⟨_, po_none, fun σ G H ok env Q q => q G H (W.refl ok)⟩
theorem om_some (h : Em X W ds e (· = .int i)) : Om X W ds (some e) (some i) := ⟨_, po_some pe_u, fun σ G H ok env Q q => h σ G H ok env _ fun v d G1 H1 r1 hd e => by
  subst e
  cases hd
  exact ⟨i, rfl, q G1 H1 r1⟩⟩
theorem em_sliceT {lo hi : Option Expr} {l h : Option Int} {as : List PyData} (ha : Em X W ds a (· = .tuple as)) (hl : Om X W ds lo l) (hh : Om X W ds hi h) : Em X W ds (.Subscript a (.Slice lo hi none p2) pos) (· = .tuple (cutD as l h)) := by
  obtain ⟨tl, pl, ml⟩ := hl
  obtain ⟨th, ph, mh⟩ := hh
  refine em_of (pe_slice sl_tupZ pe_u pl ph) fun σ G H ok env Q q => ha σ G H ok env _ fun v d G1 H1 r1 hd e => ml σ G1 H1 (W.oks r1) (env.mono r1) _ fun G2 H2 r2 => mh σ G2 H2 (W.oks r2) ((env.mono r1).mono r2) _ fun G3 H3 r3 => ?_
  subst e
  cases hd with
  | @tup _ us _ hq hs =>
    have g3 := dmonoAll ((W.g r2).trans (W.g r3)) _ _ hs
    have hq3 := (hq.mono (W.g r2)).mono (W.g r3)
    have R := W.trans (W.trans r1 r2) r3
    refine ⟨_, us, rfl, hq3.sq (W.sub (W.oks r3)), fun z => ?_, fun p ob hp hob => ?_⟩
    · exact q _ _ G3 H3 R (.tup hq3 (z ▸ g3.cut l h)) rfl
    · have st := Stp.new (o := .frz ob (.tup (cutV us l h))) (W.sub (W.oks r3)) hp
      exact q _ _ _ _ (W.trans R (W.step (W.oks r3) st)) (.tup (.new hob) (dmonoAll st.g _ _ (g3.cut l h))) rfl
theorem em_sliceL {lo hi : Option Expr} {l h : Option Int} {as : List PyData} (ha : Em X W ds a (· = .list as)) (hl : Om X W ds lo l) (hh : Om X W ds hi h) : Em X W ds (.Subscript a (.Slice lo hi none p2) pos) (· = .list (cutD as l h)) := by
  obtain ⟨tl, pl, ml⟩ := hl
  obtain ⟨th, ph, mh⟩ := hh
  refine em_of (pe_slice sl_list pe_u pl ph) fun σ G H ok env Q q => ha σ G H ok env _ fun v d G1 H1 r1 hd e => ml σ G1 H1 (W.oks r1) (env.mono r1) _ fun G2 H2 r2 => mh σ G2 H2 (W.oks r2) ((env.mono r1).mono r2) _ fun G3 H3 r3 => ?_
  subst e
  cases hd with
  | @lst _ us _ hq hs =>
    have g3 := dmonoAll ((W.g r2).trans (W.g r3)) _ _ hs
    have hq3 := (W.g r3) _ _ ((W.g r2) _ _ hq)
    have R := W.trans (W.trans r1 r2) r3
    refine ⟨_, us, rfl, .inl (.inl (W.sub (W.oks r3) _ _ hq3)), fun p hp => ?_⟩
    have st := Stp.new (o := .lst (cutV us l h)) (W.sub (W.oks r3)) hp
    exact q _ _ _ _ (W.trans R (W.step (W.oks r3) st)) (.lst upd_same (dmonoAll st.g _ _ (g3.cut l h))) rfl
theorem em_catT {as bs : List PyData} (hz : as.length + bs.length ≤ 1000) (ha : Em X W ds a (· = .tuple as)) (hb : Em X W ds b (· = .tuple bs)) : Em X W ds (.BinOp a .Add b pos) (· = .tuple (as ++ bs)) := em_of (pe_op op_catZ pe_u pe_u) (em_op2 ha hb fun G H u v dx dy ok hx hy px py Q q => by
  subst px
  subst py
  cases hx with
  | @tup _ us _ h1 d1 => cases hy with
    | @tup _ ws _ h2 d2 =>
      refine ⟨_, _, us, ws, rfl, rfl, h1.sq (W.sub ok), h2.sq (W.sub ok), Nat.le_of_lt (small1000 (by rw [d1.len, d2.len]; exact hz)), fun z => ?_, fun z => ?_, fun p ob hp hob => ?_⟩
      · subst z
        cases d1
        exact q _ _ G H (W.refl ok) (.tup h2 d2) rfl
      · subst z
        cases d2
        exact q _ _ G H (W.refl ok) (.tup h1 d1) (by rw [List.append_nil])
      · have st := Stp.new (o := .frz ob (.tup (us ++ ws))) (W.sub ok) hp
        exact q _ _ _ _ (W.step ok st) (.tup (.new hob) (dmonoAll st.g _ _ (d1.app d2))) rfl)
theorem em_catL {as bs : List PyData} (hz : as.length + bs.length ≤ 100000) (ha : Em X W ds a (· = .list as)) (hb : Em X W ds b (· = .list bs)) : Em X W ds (.BinOp a .Add b pos) (· = .list (as ++ bs)) := em_of (pe_op op_cat pe_u pe_u) (em_op2 ha hb fun G H u v dx dy ok hx hy px py Q q => by
  subst px
  subst py
  cases hx with
  | @lst _ us _ h1 d1 => cases hy with
    | @lst _ ws _ h2 d2 =>
      refine ⟨_, _, us, ws, rfl, rfl, W.sub ok _ _ h1, W.sub ok _ _ h2, Nat.le_trans (by rw [d1.len, d2.len]; exact hz) (by decide : 100000 ≤ sizeLine), fun p hp => ?_⟩
      have st := Stp.new (o := .lst (us ++ ws)) (W.sub ok) hp
      exact q _ _ _ _ (W.step ok st) (.lst upd_same (dmonoAll st.g _ _ (d1.app d2))) rfl)
theorem em_ifE {x : Bool} (hc : Tm X W ds c (· = x)) (h1 : x = true → Em X W ds a P) (h2 : x = false → Em X W ds b P) : Em X W ds (.IfExp c a b pos) P := em_of (pe_ifExp pt_u pe_u pe_u) fun σ G H ok env Q q => hc σ G H ok env _ fun y G1 H1 r1 e => by
  subst e
  cases y with
  | true =>
    rw [if_pos rfl]
    exact h1 rfl σ G1 H1 (W.oks r1) (env.mono r1) _ fun v d G2 H2 r2 hd p => q v d G2 H2 (W.trans r1 r2) hd p
  | false =>
    rw [if_neg Bool.false_ne_true]
    exact h2 rfl σ G1 H1 (W.oks r1) (env.mono r1) _ fun v d G2 H2 r2 hd p => q v d G2 H2 (W.trans r1 r2) hd p
end
end Dn
namespace Dn
open PySem PySem.Spec PyProof.Rows L2
section
variable {X : Cx} {W : Wr} {G0 H0 : Hp} {ds : List Sl} {e a b c : Expr} {es : List Expr} {pos p2 p3 p4 p5 : Pos} {P : PyData → Prop} {d : PyData} {i j : Nat} {N B C : NX} {r : RT} {rest body orelse : List Stmt} {st : Stmt}
theorem bm_of {t : TS} (h : PSs X body t) (m : SmR X.K W G0 H0 ds t N B C r) : Bm X W G0 H0 ds body N B C r := fun Gb σ G H D s env n b c q => ⟨t, h, m Gb σ G H D s env n b c q⟩
theorem bm_nil (h : N ds) : Bm X W G0 H0 ds [] N B C r := bm_of pss_nil fun Gb σ G H D s env n b c q => n ds σ G H s env h
theorem bm_false (h : False) : Bm X W G0 H0 ds body N B C r := h.elim
theorem bm_mono {N' B' C' : NX} {r' : RT} (h : Bm X W G0 H0 ds body N B C r) (hn : ∀ ds, N ds → N' ds) (hb : ∀ ds, B ds → B' ds) (hc : ∀ ds, C ds → C' ds) (hr : ∀ v G H, W.R G0 H0 G H → r v G H → r' v G H) : Bm X W G0 H0 ds body N' B' C' r' := fun Gb σ G H D s env n b c q =>
  h Gb σ G H D s env (fun ds' σ' G2 H2 s2 e2 p => n ds' σ' G2 H2 s2 e2 (hn _ p)) (fun ds' σ' G2 H2 s2 e2 p => b ds' σ' G2 H2 s2 e2 (hb _ p)) (fun ds' σ' G2 H2 s2 e2 p => c ds' σ' G2 H2 s2 e2 (hc _ p)) fun v G2 H2 s2 p => q v G2 H2 s2 (hr _ _ _ s2 p)
/-- a statement by its reading, then the rest -/
theorem bm_st {t : TS} {N1 : NX} (h : PS X st t) (m : SmR X.K W G0 H0 ds t N1 B C r) (k : ∀ ds', N1 ds' → Bm X W G0 H0 ds' rest N B C r) : Bm X W G0 H0 ds (st :: rest) N B C r := bm_of (pss_cons h pss_u) fun Gb σ G H D s env n b c q =>
  m Gb σ G H _ s env (fun ds' σ' G2 H2 s2 e2 p => k ds' p Gb σ' G2 H2 D s2 e2 n b c q) b c q
theorem bm_set' (i : Nat) {x : Str} (he : Em X W ds e P) (k : ∀ d, P d → Bm X W G0 H0 (ds.set i (.dat d)) rest N B C r) (hN : X.N.Nodup) (hi : X.N[i]? = some x := by rfl) (hx : Loc X.env.scope x := by first | exact Or.inl rfl | exact Or.inr rfl)
    (hs : swapsWith e (some (.Name x p2)) pos.line X.env = pure false := by rfl) (hf : X.fn x = true ∨ X.env.scope.names.lookup x = some .local := by first | exact .inl rfl | exact .inr rfl) : Bm X W G0 H0 ds (.Assign [.Name x p2] e pos :: rest) N B C r :=
  bm_st (N1 := fun ds' => ∃ d, P d ∧ ds' = ds.set i (.dat d)) (ps_set (i := i) hN hi hx pe_u hs hf) (fun Gb σ G H D s env n b c q => he σ G H s.ok env _ fun v d G2 H2 r2 hd p => n _ _ G2 H2 (s.to r2) ((env.mono r2).set i (.dat hd)) ⟨d, p, rfl⟩) fun ds' ⟨d, p, e⟩ => by
    rw [e]
    exact k d p
theorem bm_set (i : Nat) {x : Str} (he : Em X W ds e (· = d)) (k : Bm X W G0 H0 (ds.set i (.dat d)) rest N B C r) (hN : X.N.Nodup) (hi : X.N[i]? = some x := by rfl) (hx : Loc X.env.scope x := by first | exact Or.inl rfl | exact Or.inr rfl)
    (hs : swapsWith e (some (.Name x p2)) pos.line X.env = pure false := by rfl) (hf : X.fn x = true ∨ X.env.scope.names.lookup x = some .local := by first | exact .inl rfl | exact .inr rfl) : Bm X W G0 H0 ds (.Assign [.Name x p2] e pos :: rest) N B C r :=
  bm_set' i he (fun _ e => by rw [e]; exact k) hN hi hx hs hf
/-- x = [] -/
theorem bm_new (i : Nat) {x : Str} (k : ∀ a, H0 a = none → (∀ (j : Nat) a' xs, ds[j]? = some (.own a' xs) → a ≠ a') → W.stb a → Bm X W G0 H0 (ds.set i (.own a [])) rest N B C r) (hN : X.N.Nodup) (hi : X.N[i]? = some x := by rfl) (hx : Loc X.env.scope x := by first | exact Or.inl rfl | exact Or.inr rfl)
    (hs : swapsWith (.List [] p3) (some (.Name x p2)) pos.line X.env = pure false := by rfl) (hf : X.fn x = true ∨ X.env.scope.names.lookup x = some .local := by first | exact .inl rfl | exact .inr rfl) : Bm X W G0 H0 ds (.Assign [.Name x p2] (.List [] p3) pos :: rest) N B C r :=
  bm_st (N1 := fun ds' => ∃ a, H0 a = none ∧ (∀ (j : Nat) a' xs, ds[j]? = some (.own a' xs) → a ≠ a') ∧ W.stb a ∧ ds' = ds.set i (.own a [])) (ps_set (i := i) hN hi hx (pe_lst pa_nil) hs hf) (fun Gb σ G H D s env n b c q => ⟨Nat.zero_le _, fun a ha => by
    have g : G a = none := (W.sub s.ok).free ha
    have st : Stp G H G (upd H a (.lst [])) := ⟨.refl _, same_upd2 (W.sub s.ok) g, same_upd ha, fun _ _ h => h⟩
    have r2 := W.step s.ok st
    have sb := W.new s.ok ha
    refine n _ _ G _ (s.to r2) ((env.mono r2).set i (.own g sb upd_same .nil)) ⟨a, s.fresh ha, fun j a' xs h z => ?_, sb, rfl⟩
    obtain ⟨_, _, _, _, _, us, hu, _⟩ := env.at h
    rw [← z, ha] at hu
    cases hu⟩) fun ds' ⟨a, h1, h2, h3, e⟩ => by
    rw [e]
    exact k a h1 h2 h3
/-- x = f(..), a new list -/
theorem bm_callL (i : Nat) {x y : Str} {k : Nat} {ps : List Str} {pre : List PyData → Prop} {post : List PyData → List PyData → Prop} {Pa : List PyData → Prop} (F : Fk X.prog X.w X.K X.mg X.base y k ps (spL pre post)) (hr : Room k X.A) (ha : Am X W ds (e :: es) Pa) (hp : ∀ as, Pa as → pre as)
    (k : ∀ a as xs, Pa as → post as xs → H0 a = none → (∀ (j : Nat) a' xs, ds[j]? = some (.own a' xs) → a ≠ a') → W.stb a → Bm X W G0 H0 (ds.set i (.own a xs)) rest N B C r) (hN : X.N.Nodup) (hi : X.N[i]? = some x := by rfl) (hx : Loc X.env.scope x := by first | exact Or.inl rfl | exact Or.inr rfl)
    (hs : swapsWith (.Call (.Name y p3) (e :: es) [] p4) (some (.Name x p2)) pos.line X.env = pure false := by rfl) (hf : X.fn x = true ∨ X.env.scope.names.lookup x = some .local := by first | exact .inl rfl | exact .inr rfl) (hg : Gl X y := by rfl)
    (hdb : (y == ("__debug__" : Str)) = false := by decide) (he : starEach (e :: es) X.env = (false, eval e X.env) :: starEach es X.env := by rfl) (hpl : (backTo p4 (starEach es X.env)).any (·.1) = false := by rfl) : Bm X W G0 H0 ds (.Assign [.Name x p2] (.Call (.Name y p3) (e :: es) [] p4) pos :: rest) N B C r := by
  obtain ⟨f, fd, Gf, hm, hk, hb⟩ := F.ex
  refine bm_st (N1 := fun ds' => ∃ a as xs, Pa as ∧ post as xs ∧ H0 a = none ∧ (∀ (j : Nat) a' xs, ds[j]? = some (.own a' xs) → a ≠ a') ∧ W.stb a ∧ ds' = ds.set i (.own a xs)) (ps_set (i := i) hN hi hx (pe_call Gf hr hg hm hk hb .nil pass0 pa_u hdb he hpl) hs hf) (fun Gb σ G H D s env n b c q => ha σ G H s.ok env _ fun vs as G1 H1 r1 hs p => ?_) fun ds' ⟨a, as, xs, h1, h2, h3, h4, h5, e⟩ => by
    rw [e]
    exact k a as xs h1 h2 h3 h4 h5
  rw [List.append_nil]
  refine ⟨G1, as, W.sub (W.oks r1), hs, hp as p, fun a us xs G2 H2 st h0 g2 h2 hd hpo => ?_⟩
  have r2 := W.step (W.oks r1) st
  have sb := W.new (W.oks r1) h0
  have env2 := (env.mono r1).mono r2
  refine n _ _ G2 H2 ((s.to r1).to r2) (env2.set i (.own g2 sb h2 hd)) ⟨a, as, xs, p, hpo, (s.to r1).fresh h0, fun j a' xs' h z => ?_, sb, rfl⟩
  obtain ⟨_, _, _, _, _, us', hu, _⟩ := (env.mono r1).at h
  rw [← z, h0] at hu
  cases hu
/-- a list of one's own, read: its items are not changed by it -/
theorem em_own (i : Nat) {x : Str} {a : Addr} {xs : List PyData} (hi : ds[i]? = some (.own a xs)) {e : Expr} {t : TE} {P : PyData → Prop} (h : ∀ ta, (∀ σ G H, W.ok G H → EnvOk X.K W G H ds σ → ∀ Q : VK, (∀ vs, G a = none → H a = some (.lst vs) → Ds X.K G vs xs → Q (.ref a) H) → ta σ H Q) → PE X (.Name x pos) ta → Em X W ds e P) (hN : X.N[i]? = some x := by rfl)
    (hv : Vis X.env.scope x := by first | exact Or.inl rfl | exact Or.inr (Or.inl rfl) | exact Or.inr (Or.inr rfl)) (hd : (x == ("__debug__" : Str)) = false := by decide)
    (hcd : (x == ("__classdict__" : Str)) = false := by decide) : Em X W ds e P := h (tVar i) (fun σ G H ok env Q q => by
  obtain ⟨z, e1, e2, g, sb, vs, hvs, hd⟩ := env.at hi
  exact ⟨.ref a, by rw [e1, e2], q vs g hvs hd⟩) (pv i hN hv hd hcd)
/-- x.append(e) -/
theorem bm_app (i : Nat) {x : Str} {ad : Addr} {xs : List PyData} (hi : ds[i]? = some (.own ad xs)) (he : Em X W ds e P) (h0 : H0 ad = none) (hz : xs.length < 100000) (hn : ∀ (j : Nat) zs, ds[j]? = some (.own ad zs) → j = i) (k : ∀ d, P d → Bm X W G0 H0 (ds.set i (.own ad (xs ++ [d]))) rest N B C r) (hN : X.N[i]? = some x := by rfl)
    (hv : Vis X.env.scope x := by first | exact Or.inl rfl | exact Or.inr (Or.inl rfl) | exact Or.inr (Or.inr rfl)) (hd : (x == ("__debug__" : Str)) = false := by decide) (hcd : (x == ("__classdict__" : Str)) = false := by decide)
    (ht : PS X (.Expr (.Call (.Attribute (.Name x p2) "append" p3) [e] [] p4) pos) (tDrop (tBM X.K "list" rAppend (tVar i) (tCons (uE X e) tNil)))) (hf : W.fl = false := by rfl) : Bm X W G0 H0 ds (.Expr (.Call (.Attribute (.Name x p2) "append" p3) [e] [] p4) pos :: rest) N B C r :=
  bm_st (N1 := fun ds' => ∃ d, P d ∧ ds' = ds.set i (.own ad (xs ++ [d]))) ht (fun Gb σ G H D s env n b c q => by
    obtain ⟨z, e1, e2, g, sb, vs, hvs, hd⟩ := env.at hi
    refine ⟨.ref ad, by rw [e1, e2], .inl ⟨rfl, vs, .inl (.inl hvs)⟩, he σ G H s.ok env _ fun v d G2 H2 r2 hd p => ?_⟩
    obtain ⟨z, e1, e2, g2, sb, vs2, hvs2, hd2⟩ := (env.mono r2).at hi
    refine ⟨ad, vs2, v, rfl, rfl, hvs2, Nat.lt_of_lt_of_le (by rw [hd2.len]; exact hz) (by decide : 100000 ≤ sizeLine), ?_⟩
    have R := s.to r2
    refine n _ _ G2 _ (R.chg sb h0 g2 hvs2) ((env.mono r2).put hi hn (hd2.app (.one hd)) hf) ⟨d, p, rfl⟩) fun ds' ⟨d, p, e⟩ => by
    rw [e]
    exact k d p
theorem app_ps {x : Str} (i : Nat) (hN : X.N[i]? = some x := by rfl)
    (hv : Vis X.env.scope x := by first | exact Or.inl rfl | exact Or.inr (Or.inl rfl) | exact Or.inr (Or.inr rfl)) (hd : (x == ("__debug__" : Str)) = false := by decide) (hcd : (x == ("__classdict__" : Str)) = false := by decide) (h : PE X (.Name x p2) (tVar i) → PS X st (tDrop (tBM X.K "list" rAppend (tVar i) (tCons (uE X e) tNil)))) : PS X st (tDrop (tBM X.K "list" rAppend (tVar i) (tCons (uE X e) tNil))) := h (pv i hN hv hd hcd)
theorem bm_expr (he : Em X W ds e P) (k : (∃ d, P d) → Bm X W G0 H0 ds rest N B C r) (hs : swapsWith e none pos.line X.env = pure false := by rfl) : Bm X W G0 H0 ds (.Expr e pos :: rest) N B C r :=
  bm_st (N1 := fun ds' => (∃ d, P d) ∧ ds' = ds) (ps_expr pe_u hs) (fun Gb σ G H D s env n b c q => he σ G H s.ok env _ fun v d G2 H2 r2 hd p => n _ _ G2 H2 (s.to r2) (env.mono r2) ⟨⟨d, p⟩, rfl⟩) fun ds' ⟨h, e⟩ => by
    rw [e]
    exact k h
theorem bm_ret (he : Em X W ds e P) (h : ∀ v d G H, Dd X.K G v d → P d → r v G H) : Bm X W G0 H0 ds (.Return (some e) pos :: rest) N B C r := bm_of (pss_cons (ps_ret pe_u) pss_never) fun Gb σ G H D s env n b c q =>
  he σ G H s.ok env _ fun v d G2 H2 r2 hd p => q v G2 H2 (s.to r2).r (h v d G2 H2 hd p)
theorem bm_retD (he : Em X W ds e P) : Bm X W G0 H0 ds (.Return (some e) pos :: rest) N B C (rD X.K P) := bm_ret he fun v d G H hd p => ⟨d, hd, p⟩
/-- return of a list of one's own -/
theorem bm_retL (i : Nat) {x : Str} {ad : Addr} {xs : List PyData} (hi : ds[i]? = some (.own ad xs)) (h0 : H0 ad = none) {Pl : List PyData → Prop} (hp : Pl xs) (hN : X.N[i]? = some x := by rfl)
    (hv : Vis X.env.scope x := by first | exact Or.inl rfl | exact Or.inr (Or.inl rfl) | exact Or.inr (Or.inr rfl)) (hd : (x == ("__debug__" : Str)) = false := by decide) (hcd : (x == ("__classdict__" : Str)) = false := by decide) : Bm X W G0 H0 ds (.Return (some (.Name x p2)) pos :: rest) N B C (rL X.K H0 Pl) :=
  bm_of (pss_cons (ps_ret (pv i hN hv hd hcd)) pss_never) fun Gb σ G H D s env n b c q => by
    obtain ⟨z, e1, e2, g, sb, vs, hvs, hd⟩ := env.at hi
    exact ⟨.ref ad, by rw [e1, e2], q _ G H s.r ⟨ad, vs, xs, rfl, h0, g, hvs, hd, hp⟩⟩
/-- .. taken as data -/
theorem bm_retF (i : Nat) {x : Str} {ad : Addr} {xs : List PyData} (hi : ds[i]? = some (.own ad xs)) (h0 : H0 ad = none) (hp : P (.list xs)) (hN : X.N[i]? = some x := by rfl)
    (hv : Vis X.env.scope x := by first | exact Or.inl rfl | exact Or.inr (Or.inl rfl) | exact Or.inr (Or.inr rfl)) (hd : (x == ("__debug__" : Str)) = false := by decide) (hcd : (x == ("__classdict__" : Str)) = false := by decide) : Bm X W G0 H0 ds (.Return (some (.Name x p2)) pos :: rest) N B C (rD X.K P) :=
  bm_of (pss_cons (ps_ret (pv i hN hv hd hcd)) pss_never) fun Gb σ G H D s env n b c q => by
    obtain ⟨z, e1, e2, g, sb, vs, hvs, hd⟩ := env.at hi
    exact ⟨.ref ad, by rw [e1, e2], q _ _ H (W.frz s.r sb h0 g hvs) ⟨_, .lst upd_same (dmonoAll (same_upd g) _ _ hd), hp⟩⟩
/-! ### if -/
theorem bm_if' {Pc : Bool → Prop} {N1 : NX} (hc : Tm X W ds c Pc) (h1 : Pc true → Bm X W G0 H0 ds body N1 B C r) (h2 : Pc false → Bm X W G0 H0 ds orelse N1 B C r) (k : ∀ ds', N1 ds' → Bm X W G0 H0 ds' rest N B C r) : Bm X W G0 H0 ds (.If c body orelse pos :: rest) N B C r :=
  bm_st (ps_if pt_u pss_u pss_u) (fun Gb σ G H D s env n b c q => hc σ G H s.ok env _ fun x G2 H2 r2 p => by
    cases x with
    | true =>
      rw [if_pos rfl]
      exact h1 p Gb σ G2 H2 D (s.to r2) (env.mono r2) n b c q
    | false =>
      rw [if_neg Bool.false_ne_true]
      exact h2 p Gb σ G2 H2 D (s.to r2) (env.mono r2) n b c q) k
/-- if c: .. return, and the rest -/
theorem bm_ifR {x : Bool} (hc : Tm X W ds c (· = x)) (h1 : x = true → Bm X W G0 H0 ds body nono B C r) (h2 : x = false → Bm X W G0 H0 ds rest N B C r) : Bm X W G0 H0 ds (.If c body [] pos :: rest) N B C r :=
  bm_if' (N1 := fun ds' => ds' = ds ∧ x = false) hc (fun p => bm_mono (h1 p.symm) (fun _ z => z.elim) (fun _ z => z) (fun _ z => z) fun _ _ _ _ z => z) (fun p => bm_nil ⟨rfl, p.symm⟩) fun ds' ⟨e, p⟩ => by
    rw [e]
    exact h2 p
theorem bm_ifR' {Pc : Bool → Prop} (hc : Tm X W ds c Pc) (h1 : Pc true → Bm X W G0 H0 ds body nono B C r) (h2 : Pc false → Bm X W G0 H0 ds rest N B C r) : Bm X W G0 H0 ds (.If c body [] pos :: rest) N B C r :=
  bm_if' (N1 := fun ds' => ds' = ds ∧ Pc false) hc (fun p => bm_mono (h1 p) (fun _ z => z.elim) (fun _ z => z) (fun _ z => z) fun _ _ _ _ z => z) (fun p => bm_nil ⟨rfl, p⟩) fun ds' ⟨e, p⟩ => by
    rw [e]
    exact h2 p
/-! ### several targets -/
theorem bm_tup2' (i j : Nat) {x y : Str} {n : Nat} (he : Em X W ds e P) (k : ∀ d, P d → ∃ u v, d = .tuple [u, v] ∧ Bm X W G0 H0 ((ds.set i (.dat u)).set j (.dat v)) rest N B C r) (hc : X.calm = true) (hN : X.N.Nodup) (hi : X.N[i]? = some x := by rfl) (hj : X.N[j]? = some y := by rfl) (hx : Loc X.env.scope x := by first | exact Or.inl rfl | exact Or.inr rfl) (hy : Loc X.env.scope y := by first | exact Or.inl rfl | exact Or.inr rfl)
    (hfx : X.fn x = true ∨ X.env.scope.names.lookup x = some .local := by first | exact .inl rfl | exact .inr rfl) (hfy : X.fn y = true ∨ X.env.scope.names.lookup y = some .local := by first | exact .inl rfl | exact .inr rfl)
    (ht : PGs X [.Name x p2, .Name y p3] (gCons (gName i) (gCons (gName j) gNil)) → PS X (.Assign [.Tuple [.Name x p2, .Name y p3] n p4] e pos) (tAsg (uE X e) (gTup X.K 2 (gCons (gName i) (gCons (gName j) gNil)))))
    (hs1 : (assignEach [.Name x p2, .Name y p3] X.env).map (·.2) = assign (.Name x p2) X.env :: (assignEach [.Name y p3] X.env).map (·.2) := by rfl) (hs2 : (assignEach [.Name y p3] X.env).map (·.2) = assign (.Name y p3) X.env :: (assignEach [] X.env).map (·.2) := by rfl) :
    Bm X W G0 H0 ds (.Assign [.Tuple [.Name x p2, .Name y p3] n p4] e pos :: rest) N B C r :=
  bm_st (N1 := fun ds' => ∃ u v, P (.tuple [u, v]) ∧ ds' = (ds.set i (.dat u)).set j (.dat v)) (ht (pgs_cons (pg_name hN hi hx hfx) (pgs_cons (pg_name hN hj hy hfy) pgs_nil hs2) hs1)) (fun Gb σ G H D s env n b c q => he σ G H s.ok env _ fun v d G2 H2 r2 hd p => by
    obtain ⟨u, w, rfl, _⟩ := k d p
    cases hd with
    | @tup ad us _ hq hd =>
      cases hd with
      | cons h1 hd => cases hd with
        | cons h2 hd => cases hd with
          | nil =>
            rename_i v1 v2
            exact ⟨ad, [v1, v2], rfl, hq.sq (W.sub (W.oks r2)), rfl, v1, [v2], rfl, v2, [], rfl, rfl, n _ _ G2 H2 (s.to r2) (((env.mono r2).set i (.dat h1)).set j (.dat h2)) ⟨u, w, p, rfl⟩⟩) fun ds' ⟨u, v, p, e⟩ => by
    obtain ⟨u', v', e2, h⟩ := k _ p
    injection e2 with e2
    injection e2 with e2 e3
    injection e3 with e3 e4
    subst e2
    subst e3
    rw [e]
    exact h
theorem bm_tup2 (i j : Nat) {x y : Str} {n : Nat} {u v : PyData} (he : Em X W ds e (· = .tuple [u, v])) (k : Bm X W G0 H0 ((ds.set i (.dat u)).set j (.dat v)) rest N B C r) (hc : X.calm = true) (hN : X.N.Nodup) (hi : X.N[i]? = some x := by rfl) (hj : X.N[j]? = some y := by rfl) (hx : Loc X.env.scope x := by first | exact Or.inl rfl | exact Or.inr rfl) (hy : Loc X.env.scope y := by first | exact Or.inl rfl | exact Or.inr rfl)
    (hfx : X.fn x = true ∨ X.env.scope.names.lookup x = some .local := by first | exact .inl rfl | exact .inr rfl) (hfy : X.fn y = true ∨ X.env.scope.names.lookup y = some .local := by first | exact .inl rfl | exact .inr rfl)
    (ht : PGs X [.Name x p2, .Name y p3] (gCons (gName i) (gCons (gName j) gNil)) → PS X (.Assign [.Tuple [.Name x p2, .Name y p3] n p4] e pos) (tAsg (uE X e) (gTup X.K 2 (gCons (gName i) (gCons (gName j) gNil)))))
    (hs1 : (assignEach [.Name x p2, .Name y p3] X.env).map (·.2) = assign (.Name x p2) X.env :: (assignEach [.Name y p3] X.env).map (·.2) := by rfl) (hs2 : (assignEach [.Name y p3] X.env).map (·.2) = assign (.Name y p3) X.env :: (assignEach [] X.env).map (·.2) := by rfl) :
    Bm X W G0 H0 ds (.Assign [.Tuple [.Name x p2, .Name y p3] n p4] e pos :: rest) N B C r := bm_tup2' i j he (fun _ e => ⟨u, v, e, k⟩) hc hN hi hj hx hy hfx hfy ht hs1 hs2
/-- a, b = x, y -/
theorem bm_par (i j : Nat) {x y : Str} {n m : Nat} {Pa : List PyData → Prop} (ha : Am X W ds [a, b] Pa) (k : ∀ as, Pa as → ∃ u v, as = [u, v] ∧ Bm X W G0 H0 ((ds.set i (.dat u)).set j (.dat v)) rest N B C r) (hc : X.calm = true) (hN : X.N.Nodup) (hi : X.N[i]? = some x := by rfl) (hj : X.N[j]? = some y := by rfl) (hij : i ≠ j := by decide)
    (hx : X.env.scope.names.lookup x = some .local := by rfl) (hy : X.env.scope.names.lookup y = some .local := by rfl) (hw : swappedStores [.Tuple [.Name x p2, .Name y p3] n p4] (.Tuple [a, b] m p5) X.env = pure (some [x, y]) := by rfl)
    (hs : swapsWithSole [.Tuple [.Name x p2, .Name y p3] n p4] (.Tuple [a, b] m p5) pos.line X.env = pure false := by rfl) : Bm X W G0 H0 ds (.Assign [.Tuple [.Name x p2, .Name y p3] n p4] (.Tuple [a, b] m p5) pos :: rest) N B C r :=
  bm_st (N1 := fun ds' => ∃ u v, Pa [u, v] ∧ ds' = (ds.set i (.dat u)).set j (.dat v)) (ps_par hc hN hi hj hij hx hy pa_u hw hs) (fun Gb σ G H D s env n b c q => ha σ G H s.ok env _ fun vs as G2 H2 r2 hd p => by
    obtain ⟨u, w, rfl, _⟩ := k as p
    cases hd with
    | cons h1 hd => cases hd with
      | cons h2 hd => cases hd with
        | nil =>
          rename_i v1 v2
          exact ⟨v1, v2, rfl, n _ _ G2 H2 (s.to r2) (((env.mono r2).set i (.dat h1)).set j (.dat h2)) ⟨u, w, p, rfl⟩⟩) fun ds' ⟨u, v, p, e⟩ => by
    obtain ⟨u', v', e2, h⟩ := k _ p
    injection e2 with e2 e3
    injection e3 with e3 e4
    subst e2
    subst e3
    rw [e]
    exact h
/-! ### loops -/
theorem bm_while {N1 : NX} (I : Nat → List Sl → Prop) (m0 : Nat) (h0 : I m0 ds) (hp : PassesOwn (model X.prog X.w) X.A X.env X.xe)
    (hs : ∀ m ds', I m ds' → ∃ x, Tm X W ds' c (· = x) ∧ (x = true → Bm X W G0 H0 ds' body (fun ds2 => ∃ m', m' < m ∧ I m' ds2) (fun ds2 => N1 ds2) (fun ds2 => ∃ m', m' < m ∧ I m' ds2) r) ∧ (x = false → N1 ds')) (k : ∀ ds', N1 ds' → Bm X W G0 H0 ds' rest N B C r) : Bm X W G0 H0 ds (.While c body [] pos :: rest) N B C r :=
  bm_st (ps_while hp pt_u pss_u) (fun Gb σ G H D s env n b cc q => by
    refine ⟨fun m σ' H' => ∃ ds' G', At W Gb G0 H0 G' H' ∧ EnvOk X.K W G' H' ds' σ' ∧ I m ds', ⟨m0, ds, G, s, env, h0⟩, fun m σ' H' ⟨ds', G', s', env', hI⟩ => ?_⟩
    obtain ⟨x, hx, ht, hf⟩ := hs m ds' hI
    refine hx σ' G' H' (s'.ok) env' _ fun y G2 H2 r2 e => ?_
    subst e
    cases y with
    | true =>
      rw [if_pos rfl]
      refine ⟨fun σ2 H2 => ∃ m', m' < m ∧ ∃ ds2 G2, At W Gb G0 H0 G2 H2 ∧ EnvOk X.K W G2 H2 ds2 σ2 ∧ I m' ds2, fun σ2 H2 h => h, ?_⟩
      exact ht rfl Gb σ' G2 H2 _ (s'.to r2) (env'.mono r2) (fun ds2 σ2 G3 H3 s3 e3 ⟨m', hm, hI⟩ => ⟨m', hm, ds2, G3, s3, e3, hI⟩) (fun ds2 σ2 G3 H3 s3 e3 hN => n ds2 σ2 G3 H3 s3 e3 hN) (fun ds2 σ2 G3 H3 s3 e3 ⟨m', hm, hI⟩ => ⟨m', hm, ds2, G3, s3, e3, hI⟩) q
    | false =>
      rw [if_neg Bool.false_ne_true]
      exact n ds' σ' G2 H2 (s'.to r2) (env'.mono r2) (hf rfl)) k
/-- the turns of a for, by data -/
theorem bm_forT {N1 : NX} (i : Nat) {x : Str} {as : List PyData} (ha : Em X W ds a (· = .tuple as)) (I : Nat → List Sl → Prop) (h0 : I 0 ds) (hp : PassesOwn (model X.prog X.w) X.A X.env X.xe) (hc : X.calm = true)
    (hs : ∀ n d ds', as[n]? = some d → I n ds' → Bm X W G0 H0 (ds'.set i (.dat d)) body (I (n + 1)) N1 (I (n + 1)) r) (hd : ∀ ds', I as.length ds' → N1 ds') (k : ∀ ds', N1 ds' → Bm X W G0 H0 ds' rest N B C r) (hN : X.N.Nodup) (hi : X.N[i]? = some x := by rfl) (hx : Loc X.env.scope x := by first | exact Or.inl rfl | exact Or.inr rfl)
    (hf : X.fn x = true ∨ X.env.scope.names.lookup x = some .local := by first | exact .inl rfl | exact .inr rfl) (hs' : ∀ x, foldedSetIterable a X.env x = pure x := by intro _; rfl) : Bm X W G0 H0 ds (.For (.Name x p2) a body [] pos :: rest) N B C r :=
  bm_st (ps_for hp hc (pi_tup pe_u) (pg_name (i := i) hN hi hx hf) pss_u hs') (fun Gb σ G H D s env n b cc q => ha σ G H s.ok env _ fun v d G1 H1 r1 hv e => by
    subst e
    cases hv with
    | @tup ad us _ hq hus =>
      refine ⟨ad, rfl, ⟨us, hq.sq (W.sub (W.oks r1))⟩, for_tup (K := X.K) (xs := us) (fun n σ' H' => ∃ ds' G', At W G1 G0 H0 G' H' ∧ EnvOk X.K W G' H' ds' σ' ∧ I n ds') ⟨ds, G1, ⟨.refl _, (s.to r1).r⟩, env.mono r1, h0⟩ ?_ ?_ ?_⟩
      · rintro m σ' H' _ ⟨ds', G', s', _, _⟩
        exact (hq.mono s'.b).sq (W.sub s'.ok)
      · rintro m y σ' H' hm ⟨ds', G', s', env', hI⟩
        obtain ⟨dd, h1, h2⟩ := hus.atV hm
        exact hs m dd ds' h1 hI G1 _ G' H' _ s' (env'.set i (.dat (dmono s'.b _ _ h2))) (fun ds2 σ2 G3 H3 s3 e3 p => ⟨ds2, G3, s3, e3, p⟩) (fun ds2 σ2 G3 H3 s3 e3 p => n ds2 σ2 G3 H3 ⟨(s.to r1).b.trans s3.b, s3.r⟩ e3 p) (fun ds2 σ2 G3 H3 s3 e3 p => ⟨ds2, G3, s3, e3, p⟩) q
      · rintro σ' H' ⟨ds', G', s', env', hI⟩
        exact n ds' σ' G' H' ⟨(s.to r1).b.trans s'.b, s'.r⟩ env' (hd ds' (by rw [← hus.len]; exact hI))) k
theorem bm_forL {N1 : NX} (i : Nat) {x : Str} {as : List PyData} (ha : Em X W ds a (· = .list as)) (I : Nat → List Sl → Prop) (h0 : I 0 ds) (hp : PassesOwn (model X.prog X.w) X.A X.env X.xe) (hc : X.calm = true)
    (hs : ∀ n d ds', as[n]? = some d → I n ds' → Bm X W G0 H0 (ds'.set i (.dat d)) body (I (n + 1)) N1 (I (n + 1)) r) (hd : ∀ ds', I as.length ds' → N1 ds') (k : ∀ ds', N1 ds' → Bm X W G0 H0 ds' rest N B C r) (hN : X.N.Nodup) (hi : X.N[i]? = some x := by rfl) (hx : Loc X.env.scope x := by first | exact Or.inl rfl | exact Or.inr rfl)
    (hf : X.fn x = true ∨ X.env.scope.names.lookup x = some .local := by first | exact .inl rfl | exact .inr rfl) (hs' : ∀ x, foldedSetIterable a X.env x = pure x := by intro _; rfl) : Bm X W G0 H0 ds (.For (.Name x p2) a body [] pos :: rest) N B C r :=
  bm_st (ps_for hp hc (pi_list pe_u) (pg_name (i := i) hN hi hx hf) pss_u hs') (fun Gb σ G H D s env n b cc q => ha σ G H s.ok env _ fun v d G1 H1 r1 hv e => by
    subst e
    cases hv with
    | @lst ad us _ hq hus =>
      refine ⟨ad, rfl, ⟨us, .inl (.inl (W.sub (W.oks r1) _ _ hq))⟩, for_list (K := X.K) (xs := us) (fun n σ' H' => ∃ ds' G', At W G1 G0 H0 G' H' ∧ EnvOk X.K W G' H' ds' σ' ∧ I n ds') ⟨ds, G1, ⟨.refl _, (s.to r1).r⟩, env.mono r1, h0⟩ ?_ ?_ ?_⟩
      · rintro m σ' H' _ ⟨ds', G', s', _, _⟩
        exact .inl (.inl (W.sub s'.ok _ _ (s'.b _ _ hq)))
      · rintro m y σ' H' hm ⟨ds', G', s', env', hI⟩
        obtain ⟨dd, h1, h2⟩ := hus.atV hm
        exact hs m dd ds' h1 hI G1 _ G' H' _ s' (env'.set i (.dat (dmono s'.b _ _ h2))) (fun ds2 σ2 G3 H3 s3 e3 p => ⟨ds2, G3, s3, e3, p⟩) (fun ds2 σ2 G3 H3 s3 e3 p => n ds2 σ2 G3 H3 ⟨(s.to r1).b.trans s3.b, s3.r⟩ e3 p) (fun ds2 σ2 G3 H3 s3 e3 p => ⟨ds2, G3, s3, e3, p⟩) q
      · rintro σ' H' ⟨ds', G', s', env', hI⟩
        exact n ds' σ' G' H' ⟨(s.to r1).b.trans s'.b, s'.r⟩ env' (hd ds' (by rw [← hus.len]; exact hI))) k
theorem bm_forR {N1 : NX} (i : Nat) {x : Str} {z : Int} (ha : Em X W ds a (· = .int z)) (hz : -(2 ^ 62) ≤ z ∧ z < 2 ^ 62) (I : Nat → List Sl → Prop) (h0 : I 0 ds) (hp : PassesOwn (model X.prog X.w) X.A X.env X.xe) (hc : X.calm = true)
    (hs : ∀ (n : Nat) ds', n < z.toNat → I n ds' → Bm X W G0 H0 (ds'.set i (.dat (.int n))) body (I (n + 1)) N1 (I (n + 1)) r) (hd : ∀ ds', I z.toNat ds' → N1 ds') (k : ∀ ds', N1 ds' → Bm X W G0 H0 ds' rest N B C r) (hm : X.mg "range" = none) (hN : X.N.Nodup) (hi : X.N[i]? = some x := by rfl) (hx : Loc X.env.scope x := by first | exact Or.inl rfl | exact Or.inr rfl)
    (hf : X.fn x = true ∨ X.env.scope.names.lookup x = some .local := by first | exact .inl rfl | exact .inr rfl) (hg : Gl X "range" := by rfl) (hs1 : starEach [a] X.env = [(false, eval a X.env)] := by rfl) (hs2 : starEach [a] X.env = (false, eval a X.env) :: starEach [] X.env := by rfl) (hs' : ∀ x, foldedSetIterable (.Call (.Name "range" p3) [a] [] p4) X.env x = pure x := by intro _; rfl) :
    Bm X W G0 H0 ds (.For (.Name x p2) (.Call (.Name "range" p3) [a] [] p4) body [] pos :: rest) N B C r :=
  bm_st (ps_for hp hc (pi_range1 hg hm (pa_cons pe_u pa_nil hs2) hs1) (pg_name (i := i) hN hi hx hf) pss_u hs') (fun Gb σ G H D s env n b cc q => ha σ G H s.ok env _ fun v d G1 H1 r1 hv e => by
    subst e
    cases hv
    refine ⟨z, rfl, hz.1, hz.2, for_range (fun n σ' H' => ∃ ds' G', At W Gb G0 H0 G' H' ∧ EnvOk X.K W G' H' ds' σ' ∧ I n ds') ⟨ds, G1, s.to r1, env.mono r1, h0⟩ ?_ ?_⟩
    · rintro m σ' H' hm ⟨ds', G', s', env', hI⟩
      have e0 : (0 : Int) + (m : Int) = (m : Int) := Int.zero_add _
      show uB X body _ (σ'.set i (some (.int ((0 : Int) + (m : Int))))) H'
      rw [e0]
      exact hs m ds' hm hI Gb _ G' H' _ s' (env'.set i (.dat (.int _))) (fun ds2 σ2 G3 H3 s3 e3 p => ⟨ds2, G3, s3, e3, p⟩) (fun ds2 σ2 G3 H3 s3 e3 p => n ds2 σ2 G3 H3 s3 e3 p) (fun ds2 σ2 G3 H3 s3 e3 p => ⟨ds2, G3, s3, e3, p⟩) q
    · rintro σ' H' ⟨ds', G', s', env', hI⟩
      exact n ds' σ' G' H' s' env' (hd ds' hI)) k
end
/-! ## defs -/
section
variable {P : Program} {w : World} {K : PySem.W.Frag} {mg : Str → Option Value} {base : Heap} {x qual : Str} {params : Arguments} {body : List Stmt} {scope : Scope} {f : Addr} {fd : FuncData} {N ps : List Str} {k : Nat}
/-- the slots at a def's entry -/
def sl0 (N : List Str) (as : List PyData) : List Sl := as.map Sl.dat ++ List.replicate (N.length - as.length) .un
theorem env0 {W : Wr} {G H : Hp} {vs : List V} {as : List PyData} (h : Ds K G vs as) : EnvOk K W G H (sl0 N as) (start N vs) := by
  have hl := h.len
  refine ⟨?_, fun i s y a b => ?_⟩
  · unfold sl0 L2.start
    rw [List.length_append, List.length_append, List.length_map, List.length_map, List.length_replicate, List.length_replicate, hl]
  · unfold sl0 at a
    unfold L2.start at b
    by_cases hi : i < as.length
    · rw [List.getElem?_append_left (by rw [List.length_map]; exact hi), List.getElem?_map, List.getElem?_eq_getElem hi] at a
      obtain ⟨v, hv, hd⟩ := h.at (List.getElem?_eq_getElem hi)
      rw [List.getElem?_append_left (by rw [List.length_map, hl]; exact hi), List.getElem?_map, hv] at b
      cases a
      cases b
      exact .dat hd
    · rw [List.getElem?_append_right (by rw [List.length_map]; omega), List.getElem?_replicate] at a
      split at a
      · cases a
        trivial
      · cases a
abbrev Cx0 (P : Program) (w : World) (K : PySem.W.Frag) (mg : Str → Option Value) (base : Heap) (N : List Str) (qual : Str) (scope : Scope) (f : Addr) (cdv : Value) (A : Around) (outer : List Env) (s : Shared) (H : Hp) (E : XK) : Cx := (cxOf CX0 P w K mg base N qual scope f cdv A outer s H E).nox
abbrev FnO (P : Program) (w : World) (K : PySem.W.Frag) (mg : Str → Option Value) (base : Heap) (k : Nat) (f : Addr) (fd : FuncData) (ps : List Str) (sp : KSp) : Prop := FnOk P w K mg base CX0 k f fd ps (sp K)
theorem fk_of {sp : KSp} (F : FunD K x qual params body scope [] [] f fd) (hm : mg x = some (.ref f)) (h : FnO P w K mg base k f fd ps sp)
    (hb : ∀ (kV doc pm : Value) (an : Option Addr) (cdv ct : Value) (us : List Value), us.length = ps.length → bindArgs (PySem.W.fnOf x qual params body scope .none kV doc pm an cdv ct) ⟨us, []⟩ = pure (ps.zip us)) : Fk P w K mg base x k ps sp :=
  ⟨f, fd, h, hm, F.kp, F.bindsN hb⟩
theorem fn_P {pre : List PyData → Prop} {post : List PyData → PyData → Prop} (F : FunD K x qual params body scope [] [] f fd) (S : FnScope N ps scope) (hl : ∀ as, pre as → as.length = ps.length)
    (hb : ∀ (cdv : Value) (A : Around) (outer : List Env) (s : Shared) (H : Hp) (E : XK) (G : Hp) (as : List PyData), Room k (A.deeper (envOfC qual scope s.heap.objs.size f cdv)) → Same G H → pre as →
      Bm (Cx0 P w K mg base N qual scope f cdv A outer s H E) pw G H (sl0 N as) body (fun _ => post as .none) nono nono (rD K (post as))) : FnO P w K mg base (k + 1) f fd ps (spP pre post) := by
  refine F.ok S (fun vs H Q E ⟨G, as, sm, hd, p, _⟩ => by rw [hd.len]; exact hl as p) fun cdv A outer s H vs Q E hr ⟨G, as, sm, hd, p, q⟩ => ?_
  obtain ⟨t, ht, h⟩ := hb cdv A outer s H E G as hr sm p G (start N vs) G H { nx := fun _ H' => Q .non H', rt := Q } ⟨.refl _, .refl sm⟩ (env0 hd) (fun ds' σ' G2 H2 s2 _ p2 => q .non .none G2 H2 s2.r .non p2) (fun _ _ _ _ _ _ z => z.elim) (fun _ _ _ _ _ _ z => z.elim) fun v G2 H2 s2 ⟨d, hd2, p2⟩ => q v d G2 H2 s2 hd2 p2
  exact ⟨t, ht.nox, h⟩
theorem fn_L {pre : List PyData → Prop} {post : List PyData → List PyData → Prop} (F : FunD K x qual params body scope [] [] f fd) (S : FnScope N ps scope) (hl : ∀ as, pre as → as.length = ps.length)
    (hb : ∀ (cdv : Value) (A : Around) (outer : List Env) (s : Shared) (H : Hp) (E : XK) (G : Hp) (as : List PyData), Room k (A.deeper (envOfC qual scope s.heap.objs.size f cdv)) → Same G H → pre as →
      Bm (Cx0 P w K mg base N qual scope f cdv A outer s H E) pw G H (sl0 N as) body nono nono nono (rL K H (post as))) : FnO P w K mg base (k + 1) f fd ps (spL pre post) := by
  refine F.ok S (fun vs H Q E ⟨G, as, sm, hd, p, _⟩ => by rw [hd.len]; exact hl as p) fun cdv A outer s H vs Q E hr ⟨G, as, sm, hd, p, q⟩ => ?_
  obtain ⟨t, ht, h⟩ := hb cdv A outer s H E G as hr sm p G (start N vs) G H { nx := fun _ H' => Q .non H', rt := Q } ⟨.refl _, .refl sm⟩ (env0 hd) (fun _ _ _ _ _ _ z => z.elim) (fun _ _ _ _ _ _ z => z.elim) (fun _ _ _ _ _ _ z => z.elim) fun v G2 H2 s2 ⟨a, us, xs, e, h0, g2, h2, hd2, p2⟩ => by
    rw [e]
    exact q a us xs G2 H2 s2 h0 g2 h2 hd2 p2
  exact ⟨t, ht.nox, h⟩
/-- the slots at the entry of a def with a bag ahead -/
def sl1 (N : List Str) (b : Addr) (as : List PyData) : List Sl := .raw (.ref b) :: (as.map Sl.dat ++ List.replicate (N.length - (as.length + 1)) .un)
theorem env1 {W : Wr} {G H : Hp} {b : Addr} {vs : List V} {as : List PyData} (h : Ds K G vs as) : EnvOk K W G H (sl1 N b as) (start N (.ref b :: vs)) := by
  have hl := h.len
  have e : start N (.ref b :: vs) = some (.ref b) :: (vs.map some ++ List.replicate (N.length - (vs.length + 1)) none) := rfl
  rw [e]
  refine ⟨?_, fun i s y a b => ?_⟩
  · unfold sl1
    rw [List.length_cons, List.length_cons, List.length_append, List.length_append, List.length_map, List.length_map, List.length_replicate, List.length_replicate, hl]
  · unfold sl1 at a
    cases i with
    | zero =>
      cases a
      cases b
      rfl
    | succ i =>
      rw [List.getElem?_cons_succ] at a b
      by_cases hi : i < as.length
      · rw [List.getElem?_append_left (by rw [List.length_map]; exact hi), List.getElem?_map, List.getElem?_eq_getElem hi] at a
        obtain ⟨v, hv, hd⟩ := h.at (List.getElem?_eq_getElem hi)
        rw [List.getElem?_append_left (by rw [List.length_map, hl]; exact hi), List.getElem?_map, hv] at b
        cases a
        cases b
        exact .dat hd
      · rw [List.getElem?_append_right (by rw [List.length_map]; omega), List.getElem?_replicate] at a
        split at a
        · cases a
          trivial
        · cases a
theorem fn_B {pre : List PyData → Prop} {post : List PyData → PyData → Prop} (F : FunD K x qual params body scope [] [] f fd) (S : FnScope N ps scope) (hl : ∀ as, pre as → as.length + 1 = ps.length)
    (hb : ∀ (cdv : Value) (A : Around) (outer : List Env) (s : Shared) (H : Hp) (E : XK) (G : Hp) (b : Addr) (as : List PyData), Room k (A.deeper (envOfC qual scope s.heap.objs.size f cdv)) → BagOk b G H → pre as →
      Bm (Cx0 P w K mg base N qual scope f cdv A outer s H E) (bw b) G H (sl1 N b as) body (fun _ => post as .none) nono nono (rD K (post as))) : FnO P w K mg base (k + 1) f fd ps (spB pre post) := by
  refine F.ok S (fun vs H Q E ⟨b, us, G, as, e, ok, hd, p, _⟩ => by rw [e, List.length_cons, hd.len]; exact hl as p) fun cdv A outer s H vs Q E hr ⟨b, us, G, as, e, ok, hd, p, q⟩ => ?_
  rw [e]
  obtain ⟨t, ht, h⟩ := hb cdv A outer s H E G b as hr ok p G (start N (.ref b :: us)) G H { nx := fun _ H' => Q .non H', rt := Q } ⟨.refl _, (bw b).refl ok⟩ (env1 hd) (fun ds' σ' G2 H2 s2 _ p2 => q .non .none G2 H2 s2.r .non p2) (fun _ _ _ _ _ _ z => z.elim) (fun _ _ _ _ _ _ z => z.elim) fun v G2 H2 s2 ⟨d, hd2, p2⟩ => q v d G2 H2 s2 hd2 p2
  exact ⟨t, ht.nox, h⟩
end
end Dn
namespace Dn
open PySem PySem.Spec PyProof.Rows L2
/-! ## comprehensions: one for, a name -/
theorem EnvOk.other {K : PySem.W.Frag} {W : Wr} {G H : Hp} {ds : List Sl} {σ : L2.St} {D : Addr} {o : HO} (h : EnvOk K W G H ds σ) (hn : ∀ (j : Nat) s, ds[j]? = some s → ∀ a ∈ s.foot, a ≠ D) : EnvOk K W G (upd H D o) ds σ := by
  refine ⟨h.1, fun i s x a b => ?_⟩
  have z := h.2 i s x a b
  cases s with
  | un => trivial
  | dat d => exact z
  | raw v => exact z
  | scr K a ns => exact z
  | own a' xs =>
    obtain ⟨e1, g, st, us, hu, hd⟩ := z
    exact ⟨e1, g, st, us, by rw [upd_ne (hn i _ a a' (List.mem_cons_self ..))]; exact hu, hd⟩
  | kep q pt ms ss => exact ⟨z.1, z.2.1, z.2.2.other (hn i _ a _ (by simp [Sl.foot])) (hn i _ a _ (by simp [Sl.foot])) (hn i _ a _ (by simp [Sl.foot])) (hn i _ a _ (by simp [Sl.foot]))⟩
theorem EnvOk.fresh {K : PySem.W.Frag} {W : Wr} {G H : Hp} {ds : List Sl} {σ : L2.St} {D : Addr} (h : EnvOk K W G H ds σ) (hD : H D = none) : ∀ (j : Nat) s, ds[j]? = some s → ∀ a ∈ s.foot, a ≠ D := fun j s e a ha z => by
  obtain ⟨x, _, hs⟩ := h.at e
  subst z
  cases s with
  | own a' xs =>
    obtain ⟨_, _, _, us, hu, _⟩ := hs
    cases List.mem_singleton.mp ha
    rw [hD] at hu
    cases hu
  | kep q pt ms ss =>
    obtain ⟨vp, us, vs, h1, h2, h3, h4, _⟩ := hs.2.2.ex
    simp only [Sl.foot, List.mem_cons, List.not_mem_nil, or_false] at ha
    rcases ha with rfl | rfl | rfl | rfl
    · rw [hD] at h1; cases h1
    · rw [hD] at h2; cases h2
    · rw [hD] at h3; cases h3
    · rw [hD] at h4; cases h4
  | un => cases ha
  | dat d => cases ha
  | raw v => cases ha
  | scr K1 a ns => cases ha
structure LcI (K : PySem.W.Frag) (W : Wr) (G H : Hp) (ds : List Sl) (σ : L2.St) (G1 : Hp) (D : Addr) (Pe : Nat → PyData → Prop) (n : Nat) (H' : Hp) : Prop where
  ex : ∃ G' vs ys, W.R G H G' H' ∧ Same G1 G' ∧ EnvOk K W G' H' ds σ ∧ G' D = none ∧ H' D = some (.lst vs) ∧ Ds K G' vs ys ∧ ys.length = n ∧ ∀ m y, ys[m]? = some y → Pe m y
section
variable {X : Cx} {W : Wr} {ds : List Sl} {e a elt : Expr} {pos p2 p3 p4 : Pos} {P : PyData → Prop} {Pe : Nat → PyData → Prop} {G H G1 H1 : Hp} {σ : L2.St} {D : Addr}
theorem lc_start {K : PySem.W.Frag} (r1 : W.R G H G1 H1) (env : EnvOk K W G H ds σ) (hD : H1 D = none) : LcI K W G H ds σ G1 D Pe 0 (upd H1 D (.lst [])) := by
  have g : G1 D = none := (W.sub (W.oks r1)).free hD
  have st : Stp G1 H1 G1 (upd H1 D (.lst [])) := ⟨.refl _, same_upd2 (W.sub (W.oks r1)) g, same_upd hD, fun _ _ h => h⟩
  have r2 := W.step (W.oks r1) st
  exact ⟨G1, [], [], W.trans r1 r2, .refl _, (env.mono r1).mono r2, g, upd_same, .nil, rfl, fun m y h => by simp at h⟩
theorem lc_turn {K : PySem.W.Frag} {n : Nat} {H' G4 H4 : Hp} {G' : Hp} {vs : List V} {ys : List PyData} {y : V} {d : PyData} (hD : H D = none) (sb : W.stb D) (env0 : EnvOk K W G H ds σ) (r : W.R G H G' H') (g1 : Same G1 G') (env : EnvOk K W G' H' ds σ) (gD : G' D = none) (hv : H' D = some (.lst vs)) (hd : Ds K G' vs ys) (hl : ys.length = n) (hp : ∀ m y, ys[m]? = some y → Pe m y)
    (hn : n < 40000) (r4 : W.R G' H' G4 H4) (hy : Dd K G4 y d) (py : Pe n d) : ∃ acc, H4 D = some (.lst acc) ∧ acc.length < sizeLine ∧ LcI K W G H ds σ G1 D Pe (n + 1) (upd H4 D (.lst (acc ++ [y]))) := by
  obtain ⟨h4, g4⟩ := W.own r4 sb gD hv
  refine ⟨vs, h4, Nat.lt_of_lt_of_le (by rw [hd.len, hl]; exact hn) (by decide : 40000 ≤ sizeLine), G4, vs ++ [y], ys ++ [d], W.chg (W.trans r r4) sb hD g4 h4, g1.trans (W.g r4), (env.mono r4).other (env0.fresh hD), g4, upd_same, (dmonoAll (W.g r4) _ _ hd).app (.one hy), by rw [List.length_append, hl]; rfl, fun m z hz => ?_⟩
  by_cases hm : m < ys.length
  · rw [List.getElem?_append_left hm] at hz
    exact hp m z hz
  · rw [List.getElem?_append_right (by omega)] at hz
    have e : m = n := by
      by_cases q : m - ys.length = 0
      · omega
      · rw [List.getElem?_eq_none (by simp; omega)] at hz
        cases hz
    subst e
    rw [hl, Nat.sub_self] at hz
    cases hz
    exact py
theorem lc_end {K : PySem.W.Frag} {n : Nat} {H' : Hp} {Q : VK} (hD : H D = none) (sb : W.stb D) (hp : ∀ ys : List PyData, ys.length = n → (∀ m y, ys[m]? = some y → Pe m y) → P (.list ys)) (q : ∀ v d G2 H2, W.R G H G2 H2 → Dd K G2 v d → P d → Q v H2) (h : LcI K W G H ds σ G1 D Pe n H') : Q (.ref D) H' := by
  obtain ⟨G', vs, ys, r, g1, env, gD, hv, hd, hl, hpe⟩ := h.ex
  exact q _ _ _ _ (W.frz r sb hD gD hv) (.lst upd_same (dmonoAll (same_upd gD) _ _ hd)) (hp ys hl hpe)
/-- the element's reading in every block -/
def uEB (X : Cx) (scope : Scope) (elt : Expr) : TE := fun σ H Q => ∀ (s : Shared) (H' : Hp) (C : Addr) (cl : List (Str × Addr)) (fp : List Addr), uE (X.blk s H' scope (compEnvC scope cl C X.env) fp) elt σ H Q
theorem pe_uEB {scope : Scope} (s : Shared) (H' : Hp) (C : Addr) (cl : List (Str × Addr)) (fp : List Addr) : PE (X.blk s H' scope (compEnvC scope cl C X.env) fp) elt (uEB X scope elt) := ⟨fun pins s1 σ H Q I h => pe_u.run pins s1 σ H Q I (h s H' C cl fp)⟩
theorem wipe_set (σ : L2.St) (v : Nat) (x : V) : (wipe σ [v]).set v (some x) = σ.set v (some x) := by
  show (σ.set v none).set v (some x) = _
  rw [List.set_set]
theorem wipe_back (σ : L2.St) (v : Nat) (x : V) : wipe (σ.set v (some x)) [v] = wipe σ [v] := by
  show (σ.set v (some x)).set v none = σ.set v none
  rw [List.set_set]
theorem em_lcT (v : Nat) {x : Str} {scope : Scope} {as : List PyData} (ha : Em X W ds a (· = .tuple as))
    (he : ∀ (s : Shared) (H : Hp) (C : Addr) (cl : List (Str × Addr)) (fp : List Addr) (n : Nat) (d : PyData), as[n]? = some d → Em (X.blk s H scope (compEnvC scope cl C X.env) fp) W (ds.set v (.dat d)) elt (Pe n))
    (hp : ∀ ys : List PyData, ys.length = as.length → (∀ n y, ys[n]? = some y → Pe n y) → P (.list ys)) (hz : as.length ≤ 40000) (hc : X.calm = true) (hN : X.N.Nodup) (ok : BlkOk X.N X.env.scope scope [(x, v)])
    (hg : ∀ (s : Shared) (H : Hp) (C : Addr) (cl : List (Str × Addr)) (fp : List Addr), PG (X.blk s H scope (compEnvC scope cl C X.env) fp) (.Name x p2) (gName v)) (hs : ∀ x, foldedSetIterable a X.env x = pure x := by intro _; rfl) :
    Em X W ds (.ListComp elt [⟨.Name x p2, a, [], 0⟩] scope pos) P :=
  em_of (pe_lc hc hN (pi_tup pe_u) ok hg (fun _ _ _ _ _ => pts_nil) pe_uEB hs) fun σ G H okW env Q q => ha σ G H okW env _ fun u d G1 H1 r1 hu e => by
    subst e
    cases hu with
    | @tup ad us _ hq hus =>
      refine ⟨ad, rfl, ⟨us, hq.sq (W.sub (W.oks r1))⟩, fun D hD => lc_tup (K := X.K) (xs := us) (LcI X.K W G H ds σ G1 D Pe) (lc_start r1 env hD) (fun i H' _ h => ?_) (fun i y H' hi h => ?_) fun H' h => ?_⟩
      · obtain ⟨G', vs, ys, r, g1, env, gD, hv, hd, hl, hpe⟩ := h.ex
        exact (hq.mono g1).sq (W.sub (W.oks r))
      · show wipe ((wipe σ [v]).set v (some y)) [v] = wipe σ [v] ∧ _
        rw [wipe_set]
        obtain ⟨G', vs, ys, r, g1, env', gD, hv, hd, hl, hpe⟩ := h.ex
        obtain ⟨dd, e1, e2⟩ := hus.atV hi
        have hlt : i < us.length := (List.getElem?_eq_some_iff.mp hi).1
        refine ⟨wipe_back σ v y, fun s0 H0 C cl fp => ?_⟩
        show uE _ elt ((wipe σ [v]).set v (some y)) H' _
        rw [wipe_set]
        exact he s0 H0 C cl fp i dd e1 _ G' H' (W.oks r) (env'.set v (.dat (dmono g1 _ _ e2))) _ fun y d G4 H4 r4 hy py => lc_turn (W.fresh r1 hD) (W.new (W.oks r1) hD) env r g1 env' gD hv hd hl hpe (by rw [hus.len] at hlt; omega) r4 hy py
      · exact lc_end (W.fresh r1 hD) (W.new (W.oks r1) hD) (fun ys hl => hp ys (by rw [hl, hus.len])) q h
theorem em_lcL (v : Nat) {x : Str} {scope : Scope} {as : List PyData} (ha : Em X W ds a (· = .list as))
    (he : ∀ (s : Shared) (H : Hp) (C : Addr) (cl : List (Str × Addr)) (fp : List Addr) (n : Nat) (d : PyData), as[n]? = some d → Em (X.blk s H scope (compEnvC scope cl C X.env) fp) W (ds.set v (.dat d)) elt (Pe n))
    (hp : ∀ ys : List PyData, ys.length = as.length → (∀ n y, ys[n]? = some y → Pe n y) → P (.list ys)) (hz : as.length ≤ 40000) (hc : X.calm = true) (hN : X.N.Nodup) (ok : BlkOk X.N X.env.scope scope [(x, v)])
    (hg : ∀ (s : Shared) (H : Hp) (C : Addr) (cl : List (Str × Addr)) (fp : List Addr), PG (X.blk s H scope (compEnvC scope cl C X.env) fp) (.Name x p2) (gName v)) (hs : ∀ x, foldedSetIterable a X.env x = pure x := by intro _; rfl) :
    Em X W ds (.ListComp elt [⟨.Name x p2, a, [], 0⟩] scope pos) P :=
  em_of (pe_lc hc hN (pi_list pe_u) ok hg (fun _ _ _ _ _ => pts_nil) pe_uEB hs) fun σ G H okW env Q q => ha σ G H okW env _ fun u d G1 H1 r1 hu e => by
    subst e
    cases hu with
    | @lst ad us _ hq hus =>
      refine ⟨ad, rfl, ⟨us, .inl (.inl (W.sub (W.oks r1) _ _ hq))⟩, fun D hD => lc_list (K := X.K) (xs := us) (LcI X.K W G H ds σ G1 D Pe) (lc_start r1 env hD) (fun i H' _ h => ?_) (fun i y H' hi h => ?_) fun H' h => ?_⟩
      · obtain ⟨G', vs, ys, r, g1, env, gD, hv, hd, hl, hpe⟩ := h.ex
        exact .inl (.inl (W.sub (W.oks r) _ _ (g1 _ _ hq)))
      · show wipe ((wipe σ [v]).set v (some y)) [v] = wipe σ [v] ∧ _
        rw [wipe_set]
        obtain ⟨G', vs, ys, r, g1, env', gD, hv, hd, hl, hpe⟩ := h.ex
        obtain ⟨dd, e1, e2⟩ := hus.atV hi
        have hlt : i < us.length := (List.getElem?_eq_some_iff.mp hi).1
        refine ⟨wipe_back σ v y, fun s0 H0 C cl fp => ?_⟩
        show uE _ elt ((wipe σ [v]).set v (some y)) H' _
        rw [wipe_set]
        exact he s0 H0 C cl fp i dd e1 _ G' H' (W.oks r) (env'.set v (.dat (dmono g1 _ _ e2))) _ fun y d G4 H4 r4 hy py => lc_turn (W.fresh r1 hD) (W.new (W.oks r1) hD) env r g1 env' gD hv hd hl hpe (by rw [hus.len] at hlt; omega) r4 hy py
      · exact lc_end (W.fresh r1 hD) (W.new (W.oks r1) hD) (fun ys hl => hp ys (by rw [hl, hus.len])) q h
theorem em_lcR (v : Nat) {x : Str} {scope : Scope} {Pz : Int → Prop} (ha : Em X W ds a (fun d => ∃ z, d = .int z ∧ Pz z)) (hz : ∀ z, Pz z → 0 ≤ z ∧ z ≤ 40000)
    (he : ∀ (s : Shared) (H : Hp) (C : Addr) (cl : List (Str × Addr)) (fp : List Addr) (z : Int) (n : Nat), Pz z → n < z.toNat → Em (X.blk s H scope (compEnvC scope cl C X.env) fp) W (ds.set v (.dat (.int n))) elt (Pe n))
    (hp : ∀ (z : Int) (ys : List PyData), Pz z → ys.length = z.toNat → (∀ n y, ys[n]? = some y → Pe n y) → P (.list ys)) (hc : X.calm = true) (hN : X.N.Nodup) (ok : BlkOk X.N X.env.scope scope [(x, v)])
    (hg : ∀ (s : Shared) (H : Hp) (C : Addr) (cl : List (Str × Addr)) (fp : List Addr), PG (X.blk s H scope (compEnvC scope cl C X.env) fp) (.Name x p2) (gName v)) (hm : X.mg "range" = none)
    (hgl : Gl X "range" := by rfl) (hs1 : starEach [a] X.env = [(false, eval a X.env)] := by rfl) (hs2 : starEach [a] X.env = (false, eval a X.env) :: starEach [] X.env := by rfl) (hs : ∀ x, foldedSetIterable (.Call (.Name "range" p3) [a] [] p4) X.env x = pure x := by intro _; rfl) :
    Em X W ds (.ListComp elt [⟨.Name x p2, .Call (.Name "range" p3) [a] [] p4, [], 0⟩] scope pos) P :=
  em_of (pe_lc hc hN (pi_range1 hgl hm (pa_cons pe_u pa_nil hs2) hs1) ok hg (fun _ _ _ _ _ => pts_nil) pe_uEB hs) fun σ G H okW env Q q => ha σ G H okW env _ fun u d G1 H1 r1 hu ⟨z, e, hPz⟩ => by
    subst e
    cases hu
    have hzz := hz z hPz
    refine ⟨z, rfl, by omega, by omega, fun D hD => lc_range (LcI X.K W G H ds σ G1 D Pe) (lc_start r1 env hD) (fun i H' hi h => ?_) fun H' h => ?_⟩
    · have e0 : (0 : Int) + (i : Int) = (i : Int) := Int.zero_add _
      show wipe ((wipe σ [v]).set v (some (.int ((0 : Int) + (i : Int))))) [v] = wipe σ [v] ∧ _
      rw [wipe_set, e0]
      obtain ⟨G', vs, ys, r, g1, env', gD, hv, hd, hl, hpe⟩ := h.ex
      refine ⟨wipe_back σ v _, fun s0 H0 C cl fp => ?_⟩
      show uE _ elt ((wipe σ [v]).set v (some (.int (i : Int)))) H' _
      rw [wipe_set]
      exact he s0 H0 C cl fp z i hPz hi _ G' H' (W.oks r) (env'.set v (.dat (.int _))) _ fun y d G4 H4 r4 hy py => lc_turn (W.fresh r1 hD) (W.new (W.oks r1) hD) env r g1 env' gD hv hd hl hpe (by omega) r4 hy py
    · exact lc_end (W.fresh r1 hD) (W.new (W.oks r1) hD) (fun ys hl => hp z ys hPz hl) q h
end
end Dn
namespace Dn
open PySem PySem.Spec PyProof.Rows L2
/-! ## bags -/
theorem EnvOk.otherB {K : PySem.W.Frag} {b : Addr} {G H : Hp} {ds : List Sl} {σ : L2.St} {o : HO} (h : EnvOk K (bw b) G H ds σ) : EnvOk K (bw b) G (upd H b o) ds σ := by
  refine ⟨h.1, fun i s x p q => ?_⟩
  have z := h.2 i s x p q
  cases s with
  | un => trivial
  | dat d => exact z
  | raw v => exact z
  | scr K a ns => exact z
  | own a' xs =>
    obtain ⟨e1, g, st, us, hu, hd⟩ := z
    exact ⟨e1, g, st, us, by rw [upd_ne (show a' ≠ b from st)]; exact hu, hd⟩
  | kep q pt ms ss => exact absurd z.2.1 Bool.false_ne_true
section
variable {X : Cx} {W : Wr} {bg : Addr} {G0 H0 : Hp} {ds : List Sl} {e a c : Expr} {es : List Expr} {pos p2 p3 p4 p5 : Pos} {P : PyData → Prop} {d : PyData} {i j : Nat} {N B C : NX} {r : RT} {rest body orelse : List Stmt} {st : Stmt}
def isDraws (d : PyData) : Prop := ∃ ns : List Int, d = .list (ns.map .int) ∧ ns.length = 400
theorem em_bag0 (n : Nat) {x : Str} {k : Nat} (hn : ds[n]? = some (.raw (.ref bg))) (hN : X.N[n]? = some x := by rfl) (hv : Vis X.env.scope x := by first | exact Or.inl rfl | exact Or.inr (Or.inl rfl) | exact Or.inr (Or.inr rfl)) (hd : (x == ("__debug__" : Str)) = false := by decide) (hcd : (x == ("__classdict__" : Str)) = false := by decide)
    (hs : PlainIx (.Constant (.int 0) k p3) := by exact fun _ _ => rfl) : Em X (bw bg) ds (.Subscript (.Name x p2) (.Constant (.int 0) k p3) pos) isDraws := em_of (pe_ix ix_list (pv n hN hv hd hcd) pe_int hs) fun σ G H ok env Q q => by
  obtain ⟨z, e1, e2⟩ := env.at hn
  obtain ⟨sm, gb, l, k, ns, hb, hl, h4⟩ := id ok
  exact ⟨.ref bg, by rw [e1, show z = some (V.ref bg) from e2], bg, [.ref l, .int k], 0, .ref l, rfl, rfl, .inl (.inl hb), rfl, q _ _ G H ((bw bg).refl ok) (.lst hl (Ds.ints ns)) ⟨ns, rfl, h4⟩⟩
theorem em_bag1 (n : Nat) {x : Str} {k : Nat} (hn : ds[n]? = some (.raw (.ref bg))) (hN : X.N[n]? = some x := by rfl) (hv : Vis X.env.scope x := by first | exact Or.inl rfl | exact Or.inr (Or.inl rfl) | exact Or.inr (Or.inr rfl)) (hd : (x == ("__debug__" : Str)) = false := by decide) (hcd : (x == ("__classdict__" : Str)) = false := by decide)
    (hs : PlainIx (.Constant (.int 1) k p3) := by exact fun _ _ => rfl) : Em X (bw bg) ds (.Subscript (.Name x p2) (.Constant (.int 1) k p3) pos) (fun d => ∃ k, d = .int k) := em_of (pe_ix ix_list (pv n hN hv hd hcd) pe_int hs) fun σ G H ok env Q q => by
  obtain ⟨z, e1, e2⟩ := env.at hn
  obtain ⟨sm, gb, l, k, ns, hb, hl, h4⟩ := id ok
  exact ⟨.ref bg, by rw [e1, show z = some (V.ref bg) from e2], bg, [.ref l, .int k], 1, .int k, rfl, rfl, .inl (.inl hb), rfl, q _ _ G H ((bw bg).refl ok) (.int k) ⟨k, rfl⟩⟩
/-- bag[1] = e -/
theorem bm_bag1 (n : Nat) (hn : ds[n]? = some (.raw (.ref bg))) (he : Em X (bw bg) ds e (fun d => ∃ k, d = .int k)) (k : Bm X (bw bg) G0 H0 ds rest N B C r) (ht : PS X st (tAsg (uE X e) (gSub (tVar n) (tC (.int 1)) rSetL))) : Bm X (bw bg) G0 H0 ds (st :: rest) N B C r :=
  bm_st (N1 := fun ds' => ds' = ds) ht (fun Gb σ G H D s env n' b c q => he σ G H s.ok env _ fun v d G2 H2 r2 hd p => by
    obtain ⟨z, e1, e2⟩ := env.at hn
    obtain ⟨k, rfl⟩ := p
    cases hd
    have s2 := s.to r2
    obtain ⟨sm, gb, l, k', ns, hb, hl, h4⟩ := s2.ok
    refine ⟨.ref bg, by rw [e1, show z = some (V.ref bg) from e2], bg, [.ref l, .int k'], 1, 1, rfl, rfl, hb, rfl, ?_⟩
    have R := s2.r
    exact n' ds σ G2 _ ⟨s2.b, ⟨R.g, ⟨same_upd2 sm gb, gb, l, k, ns, upd_same, hl, h4⟩, fun a o ha h => by
      rw [upd_ne ha]
      exact R.h a o ha h, R.k⟩⟩ (env.mono r2).otherB rfl) fun ds' e => by
    rw [e]
    exact k
/-! ## the script -/
theorem em_slen (n : Nat) {x : Str} {ad : Addr} {ns : List Int} (hn : ds[n]? = some (.scr X.K ad ns)) (hm : X.mg "len" = none) (hN : X.N[n]? = some x := by rfl) (hv : Vis X.env.scope x := by first | exact Or.inl rfl | exact Or.inr (Or.inl rfl) | exact Or.inr (Or.inr rfl)) (hd : (x == ("__debug__" : Str)) = false := by decide) (hcd : (x == ("__classdict__" : Str)) = false := by decide)
    (hg : Gl X "len" := by rfl) (hs : starEach [.Name x p3] X.env = (false, eval (.Name x p3) X.env) :: starEach [] X.env := by rfl) (hpl : (backTo pos (starEach [] X.env)).any (·.1) = false := by rfl) : Em X W ds (.Call (.Name "len" p2) [.Name x p3] [] pos) (· = .int ns.length) :=
  em_of (pe_callB call_len_seq hg hm PySem.boot_len (pa_cons (pv n hN hv hd hcd) pa_nil hs) (he := hs) (hpl := hpl)) fun σ G H ok env Q q => by
    obtain ⟨z, e1, e2, e3⟩ := env.at hn
    exact ⟨.ref ad, by rw [e1, e2], ad, _, rfl, .inl ((W.sub ok).seq e3), q _ _ G H (W.refl ok) (.int _) (by rw [List.length_map])⟩
theorem em_six (n : Nat) {x : Str} {ad : Addr} {ns : List Int} {i : Nat} {z : Int} (hn : ds[n]? = some (.scr X.K ad ns)) (ha : Em X W ds a (· = .int i)) (hz : ns[i]? = some z) (hN : X.N[n]? = some x := by rfl) (hv : Vis X.env.scope x := by first | exact Or.inl rfl | exact Or.inr (Or.inl rfl) | exact Or.inr (Or.inr rfl)) (hd : (x == ("__debug__" : Str)) = false := by decide) (hcd : (x == ("__classdict__" : Str)) = false := by decide)
    (hs : PlainIx a := by exact fun _ _ => rfl) : Em X W ds (.Subscript (.Name x p2) a pos) (· = .int z) := em_of (pe_ix ix_list (pv n hN hv hd hcd) pe_u hs) fun σ G H ok env Q q => by
  obtain ⟨y, e1, e2, e3⟩ := env.at hn
  refine ⟨.ref ad, by rw [e1, e2], ha σ G H ok env _ fun v d G2 H2 r2 hd e => ?_⟩
  subst e
  cases hd
  exact ⟨ad, ns.map V.int, i, .int z, rfl, rfl, ((W.g r2).trans (W.sub (W.oks r2))).seq e3, atI_nat (by rw [List.getElem?_map, hz]; rfl), q _ _ G2 H2 r2 (.int z) rfl⟩
end
/-- of the script and data, to data; to a new list -/
def spS (pre : List Int → List PyData → Prop) (post : List Int → List PyData → PyData → Prop) : KSp := fun K vs H Q _ => ∃ a us G ns as, vs = .ref a :: us ∧ Same G H ∧ SqL K G a (ns.map V.int) ∧ Ds K G us as ∧ pre ns as ∧ ∀ v d G' H', Stp G H G' H' → Dd K G' v d → post ns as d → Q v H'
def spSL (pre : List Int → List PyData → Prop) (post : List Int → List PyData → List PyData → Prop) : KSp := fun K vs H Q _ => ∃ a us G ns as, vs = .ref a :: us ∧ Same G H ∧ SqL K G a (ns.map V.int) ∧ Ds K G us as ∧ pre ns as ∧ ∀ p us' xs G' H', Stp G H G' H' → H p = none → G' p = none → H' p = some (.lst us') → Ds K G' us' xs → post ns as xs → Q (.ref p) H'
section
variable {X : Cx} {W : Wr} {G0 H0 : Hp} {ds : List Sl} {es : List Expr} {pos p2 p3 p4 p5 : Pos} {P : PyData → Prop} {N B C : NX} {r : RT} {rest body : List Stmt}
theorem em_callS {x y : Str} {k n : Nat} {ps : List Str} {ad : Addr} {ns : List Int} {pre : List Int → List PyData → Prop} {post : List Int → List PyData → PyData → Prop} {Pa : List PyData → Prop} (F : Fk X.prog X.w X.K X.mg X.base x k ps (spS pre post)) (hr : Room k X.A) (hn : ds[n]? = some (.scr X.K ad ns)) (ha : Am X W ds es Pa) (hp : ∀ as, Pa as → pre ns as ∧ ∀ d, post ns as d → P d) (hg : Gl X x := by rfl)
    (hN : X.N[n]? = some y := by rfl) (hv : Vis X.env.scope y := by first | exact Or.inl rfl | exact Or.inr (Or.inl rfl) | exact Or.inr (Or.inr rfl)) (hd : (y == ("__debug__" : Str)) = false := by decide) (hcd : (y == ("__classdict__" : Str)) = false := by decide)
    (hdb : (x == ("__debug__" : Str)) = false := by decide) (he : starEach (.Name y p3 :: es) X.env = (false, eval (.Name y p3) X.env) :: starEach es X.env := by rfl) (hpl : (backTo pos (starEach es X.env)).any (·.1) = false := by rfl) : Em X W ds (.Call (.Name x p2) (.Name y p3 :: es) [] pos) P := by
  obtain ⟨f, fd, G, hm, hk, hb⟩ := F.ex
  refine em_of (pe_call G hr hg hm hk hb .nil pass0 (pa_cons (pv n hN hv hd hcd) pa_u he) hdb he hpl) fun σ G0 H0 ok env Q q => ?_
  obtain ⟨z, e1, e2, e3⟩ := env.at hn
  refine ⟨.ref ad, by rw [e1, e2], ha σ G0 H0 ok env _ fun vs as G1 H1 r1 hs p => ?_⟩
  obtain ⟨p1, p2⟩ := hp as p
  rw [List.append_nil]
  exact ⟨ad, vs, G1, ns, as, rfl, W.sub (W.oks r1), (W.g r1).seq e3, hs, p1, fun v d G2 H2 st hd hpo => q v d G2 H2 (W.trans r1 (W.step (W.oks r1) st)) hd (p2 d hpo)⟩
theorem bm_retNew {Pa Pl : List PyData → Prop} (ha : Am X W ds es Pa) (hp : ∀ as, Pa as → as.length ≤ 1000 ∧ Pl as) : Bm X W G0 H0 ds (.Return (some (.List es p2)) pos :: rest) N B C (rL X.K H0 Pl) :=
  bm_of (pss_cons (ps_ret (pe_lst pa_u)) pss_never) fun Gb σ G H D s env n b c q => ha σ G H s.ok env _ fun vs as G1 H1 r1 hs p => by
    obtain ⟨h1, h2⟩ := hp as p
    refine ⟨Nat.le_of_lt (small1000 (by rw [hs.len]; exact h1)), fun a ha => ?_⟩
    have s1 := s.to r1
    have g : G1 a = none := (W.sub s1.ok).free ha
    have st : Stp G1 H1 G1 (upd H1 a (.lst vs)) := ⟨.refl _, same_upd2 (W.sub s1.ok) g, same_upd ha, fun _ _ h => h⟩
    exact q _ G1 _ (s1.to (W.step s1.ok st)).r ⟨a, vs, as, rfl, s1.fresh ha, g, upd_same, hs, h2⟩
end
section
variable {P : Program} {w : World} {K : PySem.W.Frag} {mg : Str → Option Value} {base : Heap} {x qual : Str} {params : Arguments} {body : List Stmt} {scope : Scope} {f : Addr} {fd : FuncData} {N ps : List Str} {k : Nat}
def slS (N : List Str) (K : PySem.W.Frag) (b : Addr) (ns : List Int) (as : List PyData) : List Sl := .scr K b ns :: (as.map Sl.dat ++ List.replicate (N.length - (as.length + 1)) .un)
theorem envS {K : PySem.W.Frag} {W : Wr} {G H : Hp} {b : Addr} {ns : List Int} {vs : List V} {as : List PyData} (hb : SqL K G b (ns.map V.int)) (h : Ds K G vs as) : EnvOk K W G H (slS N K b ns as) (L2.start N (.ref b :: vs)) := by
  have z := env1 (N := N) (W := W) (H := H) (b := b) h
  refine ⟨z.1, fun i s y a c => ?_⟩
  cases i with
  | zero =>
    cases a
    cases c
    exact ⟨rfl, hb⟩
  | succ i => exact z.2 (i + 1) s y a c
theorem fn_S {pre : List Int → List PyData → Prop} {post : List Int → List PyData → PyData → Prop} (F : FunD K x qual params body scope [] [] f fd) (S : FnScope N ps scope) (hl : ∀ ns as, pre ns as → as.length + 1 = ps.length)
    (hb : ∀ (cdv : Value) (A : Around) (outer : List Env) (s : Shared) (H : Hp) (E : XK) (G : Hp) (b : Addr) (ns : List Int) (as : List PyData), Room k (A.deeper (envOfC qual scope s.heap.objs.size f cdv)) → pre ns as →
      Bm (Cx0 P w K mg base N qual scope f cdv A outer s H E) pw G H (slS N K b ns as) body (fun _ => post ns as .none) nono nono (rD K (post ns as))) : FnO P w K mg base (k + 1) f fd ps (spS pre post) := by
  refine F.ok S (fun vs H Q E ⟨b, us, G, ns, as, e, ok, hb, hd, p, _⟩ => by rw [e, List.length_cons, hd.len]; exact hl ns as p) fun cdv A outer s H vs Q E hr ⟨b, us, G, ns, as, e, ok, hS, hd, p, q⟩ => ?_
  rw [e]
  obtain ⟨t, ht, h⟩ := hb cdv A outer s H E G b ns as hr p G (L2.start N (.ref b :: us)) G H { nx := fun _ H' => Q .non H', rt := Q } ⟨.refl _, .refl ok⟩ (envS hS hd) (fun ds' σ' G2 H2 s2 _ p2 => q .non .none G2 H2 s2.r .non p2) (fun _ _ _ _ _ _ z => z.elim) (fun _ _ _ _ _ _ z => z.elim) fun v G2 H2 s2 ⟨d, hd2, p2⟩ => q v d G2 H2 s2 hd2 p2
  exact ⟨t, ht.nox, h⟩
theorem fn_SL {pre : List Int → List PyData → Prop} {post : List Int → List PyData → List PyData → Prop} (F : FunD K x qual params body scope [] [] f fd) (S : FnScope N ps scope) (hl : ∀ ns as, pre ns as → as.length + 1 = ps.length)
    (hb : ∀ (cdv : Value) (A : Around) (outer : List Env) (s : Shared) (H : Hp) (E : XK) (G : Hp) (b : Addr) (ns : List Int) (as : List PyData), Room k (A.deeper (envOfC qual scope s.heap.objs.size f cdv)) → pre ns as →
      Bm (Cx0 P w K mg base N qual scope f cdv A outer s H E) pw G H (slS N K b ns as) body nono nono nono (rL K H (post ns as))) : FnO P w K mg base (k + 1) f fd ps (spSL pre post) := by
  refine F.ok S (fun vs H Q E ⟨b, us, G, ns, as, e, ok, hb, hd, p, _⟩ => by rw [e, List.length_cons, hd.len]; exact hl ns as p) fun cdv A outer s H vs Q E hr ⟨b, us, G, ns, as, e, ok, hS, hd, p, q⟩ => ?_
  rw [e]
  obtain ⟨t, ht, h⟩ := hb cdv A outer s H E G b ns as hr p G (L2.start N (.ref b :: us)) G H { nx := fun _ H' => Q .non H', rt := Q } ⟨.refl _, .refl ok⟩ (envS hS hd) (fun _ _ _ _ _ _ z => z.elim) (fun _ _ _ _ _ _ z => z.elim) (fun _ _ _ _ _ _ z => z.elim) fun v G2 H2 s2 ⟨a, us, xs, e, h0, g2, h2, hd2, p2⟩ => by
    rw [e]
    exact q a us xs G2 H2 s2 h0 g2 h2 hd2 p2
  exact ⟨t, ht.nox, h⟩
end
/-! ## many bags -/
/-- what a bag holds -/
def BagAt (b : Addr) (G H : Hp) : Prop := G b = none ∧ ∃ (l : Addr) (k : Int) (ns : List Int), H b = some (.lst [.ref l, .int k]) ∧ G l = some (.lst (ns.map V.int)) ∧ ns.length = 400
def spBags (K : PySem.W.Frag) : Sp := fun vs H Q _ => ∃ (a : Addr) (G : Hp) (ns : List Int) (z : Int), vs = [.ref a, .int z] ∧ 1 ≤ z ∧ z ≤ 100 ∧ Same G H ∧ SqL K G a (ns.map V.int) ∧ ∀ L (bs : List Addr) G' H', Stp G H G' H' → G' L = some (.lst (bs.map V.ref)) → bs.Nodup → (∀ b ∈ bs, BagAt b G' H') → Q (.ref L) H'
/-- the world of a law: its bags may change -/
structure LwR (bs : List Addr) (G H G1 H1 : Hp) : Prop where
  g : Same G G1
  i : Same G1 H1
  o : ∀ b ∈ bs, H1 b ≠ none ∧ G1 b = none
  h : ∀ a o, a ∉ bs → H a = some o → H1 a = some o
  k : ∀ a, H a ≠ none → G a = none → G1 a = none
def lw (bs : List Addr) : Wr where
  ok := fun G H => Same G H ∧ ∀ b ∈ bs, H b ≠ none ∧ G b = none
  R := LwR bs
  stb := fun a => a ∉ bs
  fl := false
  refl := fun h => ⟨.refl _, h.1, h.2, fun _ _ _ q => q, fun _ _ q => q⟩
  trans := fun {G H G1 H1 G2 H2} a c => ⟨a.g.trans c.g, c.i, c.o, fun x o hx q => c.h x o hx (a.h x o hx q), fun x hx gx => c.k x (fun z => by
    by_cases hb : x ∈ bs
    · exact (a.o x hb).1 z
    · cases q : H x with
      | none => exact hx q
      | some o =>
        rw [a.h x o hb q] at z
        cases z) (a.k x hx gx)⟩
  step := fun o s => ⟨s.g, s.i, fun b hb => ⟨fun z => (o.2 b hb).1 (s.h.free z), s.k b (o.2 b hb).1 (o.2 b hb).2⟩, fun a o _ q => s.h a o q, s.k⟩
  oks := fun h => ⟨h.i, h.o⟩
  sub := fun h => h.1
  g := fun h => h.g
  own := fun s ha g h => ⟨s.h _ _ ha h, s.k _ (by rw [h]; exact fun z => nomatch z) g⟩
  fresh := fun {G H G1 H1 a} s h => by
    cases q : H a with
    | none => rfl
    | some o =>
      by_cases hb : a ∈ bs
      · exact absurd h (s.o a hb).1
      · rw [s.h a o hb q] at h
        cases h
  new := fun {G H a} o h z => (o.2 a z).1 h
  frz := fun {G H G1 H1 a o} s ha h0 g1 h1 => ⟨s.g.trans (same_upd g1), same_in s.i h1, fun b hb => ⟨(s.o b hb).1, by
    rw [upd_ne (fun z => ha (by rw [← z]; exact hb))]
    exact (s.o b hb).2⟩, s.h, fun x hx gx => by
      rw [upd_ne (fun z => hx (by rw [z]; exact h0))]
      exact s.k x hx gx⟩
  chg := fun {G H G1 H1 a o o'} s ha h0 g1 h1 => ⟨s.g, same_upd2 s.i g1, fun b hb => ⟨(by
    rw [upd_ne (fun z => ha (by rw [← z]; exact hb))]
    exact (s.o b hb).1), (s.o b hb).2⟩, fun x o hx q => by
      rw [upd_ne (fun z => by rw [z, h0] at q; cases q)]
      exact s.h x o hx q, s.k⟩
theorem BagR.lw {bs : List Addr} {b : Addr} {G H G1 H1 : Hp} (s : BagR b G H G1 H1) (hb : b ∈ bs) (o : ∀ c ∈ bs, H c ≠ none ∧ G c = none) : LwR bs G H G1 H1 :=
  ⟨s.g, s.ok.1, fun c hc => ⟨(fun z => by
    by_cases e : c = b
    · obtain ⟨_, _, l, k, ns, q, _⟩ := s.ok
      rw [e, q] at z
      cases z
    · cases q : H c with
      | none => exact (o c hc).1 q
      | some x =>
        rw [s.h c x e q] at z
        cases z), s.k c (o c hc).1 (o c hc).2⟩, fun a x ha q => s.h a x (fun z => ha (by rw [z]; exact hb)) q, s.k⟩
theorem BagAt.keep {b c : Addr} {G H G1 H1 : Hp} (s : BagR b G H G1 H1) (h : BagAt c G H) (e : c ≠ b) : BagAt c G1 H1 := by
  obtain ⟨g, l, k, ns, q, hl, h4⟩ := h
  exact ⟨s.k c (by rw [q]; exact fun z => nomatch z) g, l, k, ns, s.h c _ e q, s.g _ _ hl, h4⟩
section
variable {X : Cx} {pos p2 p3 p4 p5 p6 p7 : Pos}
/-- for bag in bags(script, n): body, then the rest, of a law that is to end by True -/
theorem law_loop {x sc bn : Str} {k m : Nat} {ps : List Str} {ad : Addr} {ns : List Int} {z : Int} {body rest : List Stmt} {G H : Hp} {σ : L2.St} {Q : VK} {kk : Nat} (F : Fk X.prog X.w X.K X.mg X.base x k ps spBags) (hr : Room k X.A) (hz : 1 ≤ z ∧ z ≤ 100)
    (hlen : σ.length = m) (hm : 2 ≤ m) (h0 : σ[0]? = some (some (.ref ad))) (sm : Same G H) (hS : SqL X.K G ad (ns.map V.int)) (q : ∀ H', Q (.bl true) H')
    (hbody : ∀ (b : Addr) (G1 H1 : Hp), BagOk b G1 H1 → Bm X (bw b) G1 H1 (.scr X.K ad ns :: .raw (.ref b) :: List.replicate (m - 2) .un) body (fun ds' => ds'.length = m ∧ ds'[0]? = some (.scr X.K ad ns)) nono nono (rD X.K (· = .bool true)))
    (hrest : ∀ (bs : List Addr) (G1 H1 : Hp), Bm X (lw bs) G1 H1 (.scr X.K ad ns :: List.replicate (m - 1) .un) rest nono nono nono (rD X.K (· = .bool true)))
    (hp : PassesOwn (model X.prog X.w) X.A X.env X.xe) (hc : X.calm = true) (hN : X.N.Nodup) (hN0 : X.N[0]? = some sc := by rfl) (hi : X.N[1]? = some bn := by rfl) (hx : Loc X.env.scope bn := by first | exact Or.inl rfl | exact Or.inr rfl) (hf : X.fn bn = true ∨ X.env.scope.names.lookup bn = some .local := by first | exact .inl rfl | exact .inr rfl)
    (hv : Vis X.env.scope sc := by first | exact Or.inl rfl | exact Or.inr (Or.inl rfl) | exact Or.inr (Or.inr rfl)) (hd : (sc == ("__debug__" : Str)) = false := by decide) (hcd : (sc == ("__classdict__" : Str)) = false := by decide) (hg : Gl X x := by rfl)
    (hdb : (x == ("__debug__" : Str)) = false := by decide) (he1 : starEach [.Constant (.int z) kk p6] X.env = (false, eval (.Constant (.int z) kk p6) X.env) :: starEach [] X.env := by rfl) (he : starEach [.Name sc p5, .Constant (.int z) kk p6] X.env = (false, eval (.Name sc p5) X.env) :: starEach [.Constant (.int z) kk p6] X.env := by rfl)
    (hpl : (backTo p4 (starEach [.Constant (.int z) kk p6] X.env)).any (·.1) = false := by rfl) (hs : ∀ y, foldedSetIterable (.Call (.Name x p3) [.Name sc p5, .Constant (.int z) kk p6] [] p4) X.env y = pure y := by intro _; rfl) :
    ∃ t, PSs X (.For (.Name bn p2) (.Call (.Name x p3) [.Name sc p5, .Constant (.int z) kk p6] [] p4) body [] pos :: rest) t ∧ t { nx := fun _ H' => Q .non H', rt := Q } σ H := by
  obtain ⟨f, fd, Gf, hmf, hk, hb⟩ := F.ex
  refine ⟨_, pss_cons (ps_for hp hc (pi_list (pe_call Gf hr hg hmf hk hb .nil pass0 (pa_cons (pv 0 hN0 hv hd hcd) (pa_cons pe_int pa_nil he1) he) hdb he hpl)) (pg_name (i := 1) hN hi hx hf) pss_u hs) pss_u, ?_⟩
  refine ⟨.ref ad, h0, ?_⟩
  refine ⟨ad, G, ns, z, rfl, hz.1, hz.2, sm, hS, fun L bs G1 H1 st hL nd hbs => ?_⟩
  have o1 : ∀ b ∈ bs, H1 b ≠ none ∧ G1 b = none := fun b hb => by
    obtain ⟨g, l, k, ns, e, _⟩ := hbs b hb
    exact ⟨(by rw [e]; exact fun z => nomatch z), g⟩
  have fin : ∀ v G2 H2, (rD X.K (· = .bool true)) v G2 H2 → Q v H2 := fun v G2 H2 ⟨d, hd, e⟩ => by
    subst e
    cases hd
    exact q H2
  refine ⟨L, rfl, ⟨_, .inl (.inl (st.i _ _ hL))⟩, for_list (K := X.K) (xs := bs.map V.ref) (fun n σ' H' => ∃ G', LwR bs G1 H1 G' H' ∧ σ'.length = m ∧ σ'[0]? = some (some (.ref ad)) ∧ ∀ j b, n ≤ j → bs[j]? = some b → BagAt b G' H') ⟨G1, (lw bs).refl ⟨st.i, o1⟩, hlen, h0, fun j b _ hj => hbs b (List.mem_of_getElem? hj)⟩ ?_ ?_ ?_⟩
  · rintro n σ' H' _ ⟨G', r, _⟩
    exact .inl (.inl (r.i _ _ (r.g _ _ hL)))
  · rintro n y σ' H' hn ⟨G', r, hl', h0', hbs'⟩
    rw [List.getElem?_map] at hn
    cases eb : bs[n]? with
    | none =>
      rw [eb] at hn
      cases hn
    | some b =>
      rw [eb] at hn
      cases hn
      have bo := hbs' n b (Nat.le_refl _) eb
      have bok : BagOk b G' H' := ⟨r.i, bo.1, bo.2⟩
      have hb : b ∈ bs := List.mem_of_getElem? eb
      have env : EnvOk X.K (bw b) G' H' (.scr X.K ad ns :: .raw (.ref b) :: List.replicate (m - 2) .un) (σ'.set 1 (some (.ref b))) := by
        refine ⟨by rw [List.length_cons, List.length_cons, List.length_replicate, List.length_set, hl']; omega, fun i s y a c => ?_⟩
        match i with
        | 0 =>
          cases a
          rw [List.getElem?_set_ne (by decide), h0'] at c
          cases c
          exact ⟨rfl, (st.g.trans r.g).seq hS⟩
        | 1 =>
          cases a
          rw [List.getElem?_set_self (by omega)] at c
          cases c
          rfl
        | i + 2 =>
          rw [List.getElem?_cons_succ, List.getElem?_cons_succ, List.getElem?_replicate] at a
          split at a
          · cases a
            trivial
          · cases a
      have next : ∀ (ds' : List Sl) σ2 G2 H2, At (bw b) G' G' H' G2 H2 → EnvOk X.K (bw b) G2 H2 ds' σ2 → ds'[0]? = some (.scr X.K ad ns) → σ2.length = m → ∃ G', LwR bs G1 H1 G' H2 ∧ σ2.length = m ∧ σ2[0]? = some (some (.ref ad)) ∧ ∀ j b, n + 1 ≤ j → bs[j]? = some b → BagAt b G' H2 := fun ds' σ2 G2 H2 s2 e2 hd l2 => by
        obtain ⟨y, e3, e4, _⟩ := e2.at hd
        refine ⟨G2, (lw bs).trans r (BagR.lw s2.r hb r.o), l2, by rw [e3, e4], fun j c hj hc => ?_⟩
        refine (hbs' j c (by omega) hc).keep s2.r fun z => ?_
        have e5 := nd
        rw [z] at hc
        obtain ⟨h1, q1⟩ := List.getElem?_eq_some_iff.mp hc
        obtain ⟨h2, q2⟩ := List.getElem?_eq_some_iff.mp eb
        have := (List.getElem_inj nd).mp (q1.trans q2.symm)
        omega
      exact hbody b G' H' bok G' _ G' H' _ ⟨.refl _, (bw b).refl bok⟩ env (fun ds2 σ2 G2 H2 s2 e2 p => next ds2 σ2 G2 H2 s2 e2 p.2 (e2.1.symm.trans p.1)) (fun _ _ _ _ _ _ z => z.elim) (fun _ _ _ _ _ _ z => z.elim) fun v G2 H2 _ h => fin v G2 H2 h
  · rintro σ' H' ⟨G', r, hl', h0', _⟩
    have env : EnvOk X.K (lw bs) G' H' (.scr X.K ad ns :: List.replicate (m - 1) .un) σ' := by
      refine ⟨by rw [List.length_cons, List.length_replicate, hl']; omega, fun i s y a c => ?_⟩
      match i with
      | 0 =>
        cases a
        rw [h0'] at c
        cases c
        exact ⟨rfl, (st.g.trans r.g).seq hS⟩
      | i + 1 =>
        rw [List.getElem?_cons_succ, List.getElem?_replicate] at a
        split at a
        · cases a
          trivial
        · cases a
    exact hrest bs G' H' G' σ' G' H' _ ⟨.refl _, (lw bs).refl ⟨r.i, r.o⟩⟩ env (fun _ _ _ _ _ _ z => z.elim) (fun _ _ _ _ _ _ z => z.elim) (fun _ _ _ _ _ _ z => z.elim) fun v G2 H2 _ h => fin v G2 H2 h
end
end Dn
namespace Dn
open PySem PySem.Spec PyProof.Rows L2
section
variable {X : Cx} {W : Wr} {G0 H0 : Hp} {ds : List Sl} {e a b c : Expr} {es : List Expr} {pos p2 p3 p4 p5 p6 : Pos} {P : PyData → Prop} {d : PyData} {N B C : NX} {r : RT} {rest body : List Stmt}
/-! ### a list of one's own, read -/
theorem em_olen (n : Nat) {x : Str} {ad : Addr} {xs : List PyData} (hn : ds[n]? = some (.own ad xs)) (hm : X.mg "len" = none) (hN : X.N[n]? = some x := by rfl) (hv : Vis X.env.scope x := by first | exact Or.inl rfl | exact Or.inr (Or.inl rfl) | exact Or.inr (Or.inr rfl)) (hd : (x == ("__debug__" : Str)) = false := by decide) (hcd : (x == ("__classdict__" : Str)) = false := by decide)
    (hg : Gl X "len" := by rfl) (hs : starEach [.Name x p3] X.env = (false, eval (.Name x p3) X.env) :: starEach [] X.env := by rfl) (hpl : (backTo pos (starEach [] X.env)).any (·.1) = false := by rfl) : Em X W ds (.Call (.Name "len" p2) [.Name x p3] [] pos) (· = .int xs.length) :=
  em_of (pe_callB call_len_seq hg hm PySem.boot_len (pa_cons (pv n hN hv hd hcd) pa_nil hs) (he := hs) (hpl := hpl)) fun σ G H ok env Q q => by
    obtain ⟨z, e1, e2, g, sb, vs, hvs, hd⟩ := env.at hn
    exact ⟨.ref ad, by rw [e1, e2], ad, vs, rfl, .inl (.inl (.inl hvs)), q _ _ G H (W.refl ok) (.int _) (by rw [hd.len])⟩
theorem em_oix (n : Nat) {x : Str} {ad : Addr} {xs : List PyData} {i : Int} (hn : ds[n]? = some (.own ad xs)) (ha : Em X W ds a (· = .int i)) (hz : L2.atI xs i = some d) (hN : X.N[n]? = some x := by rfl) (hv : Vis X.env.scope x := by first | exact Or.inl rfl | exact Or.inr (Or.inl rfl) | exact Or.inr (Or.inr rfl)) (hd : (x == ("__debug__" : Str)) = false := by decide) (hcd : (x == ("__classdict__" : Str)) = false := by decide)
    (hs : PlainIx a := by exact fun _ _ => rfl) : Em X W ds (.Subscript (.Name x p2) a pos) (· = d) := em_of (pe_ix ix_list (pv n hN hv hd hcd) pe_u hs) fun σ G H ok env Q q => by
  obtain ⟨y, e1, e2, _⟩ := env.at hn
  refine ⟨.ref ad, by rw [e1, e2], ha σ G H ok env _ fun v d' G2 H2 r2 hd e => ?_⟩
  subst e
  cases hd
  obtain ⟨_, _, _, g, sb, vs, hvs, hd⟩ := (env.mono r2).at hn
  obtain ⟨v, hv, hdv⟩ := hd.atI hz
  exact ⟨ad, vs, i, v, rfl, rfl, .inl (.inl hvs), hv, q _ _ G2 H2 r2 hdv rfl⟩
theorem em_oisi (n : Nat) {T : String} {x y : Str} {z : Bool} {ad : Addr} {xs : List PyData} (hn : ds[n]? = some (.own ad xs)) (hm : X.mg "isinstance" = none) (hT : X.mg x = none) (hb : bootBuiltins x = some (.type T)) (hk : kitB "list" T = some z) (hN : X.N[n]? = some y := by rfl) (hv : Vis X.env.scope y := by first | exact Or.inl rfl | exact Or.inr (Or.inl rfl) | exact Or.inr (Or.inr rfl)) (hd : (y == ("__debug__" : Str)) = false := by decide) (hcd : (y == ("__classdict__" : Str)) = false := by decide)
    (hg : Gl X "isinstance" := by rfl) (hgT : Gl X x := by rfl) (hnn : x ≠ "__name__" := by decide) (hdx : (x == ("__debug__" : Str)) = false := by decide)
    (hs1 : starEach [.Name x p3] X.env = (false, eval (.Name x p3) X.env) :: starEach [] X.env := by rfl) (hs : starEach [.Name y p4, .Name x p3] X.env = (false, eval (.Name y p4) X.env) :: starEach [.Name x p3] X.env := by rfl) (hpl : (backTo pos (starEach [.Name x p3] X.env)).any (·.1) = false := by rfl) :
    Em X W ds (.Call (.Name "isinstance" p2) [.Name y p4, .Name x p3] [] pos) (· = .bool z) :=
  em_of (pe_callB call_isi hg hm (by decide +kernel) (pa_cons (pv n hN hv hd hcd) (pa_cons (pe_bltn (v := .ty T) hgT hT hb rfl hnn hdx) pa_nil hs1) hs) (he := hs) (hpl := hpl)) fun σ G H ok env Q q => by
    obtain ⟨y, e1, e2, g, sb, vs, hvs, _⟩ := env.at hn
    exact ⟨.ref ad, by rw [e1, e2], .ref ad, .ty T, _, _, z, rfl, .ty T, .base (.lst hvs), kit_ty hk, q _ _ G H (W.refl ok) (.bl _) rfl⟩
theorem em_oslice (n : Nat) {x : Str} {lo hi : Option Expr} {l h : Option Int} {ad : Addr} {xs : List PyData} (hn : ds[n]? = some (.own ad xs)) (hl : Om X W ds lo l) (hh : Om X W ds hi h) (hN : X.N[n]? = some x := by rfl) (hv : Vis X.env.scope x := by first | exact Or.inl rfl | exact Or.inr (Or.inl rfl) | exact Or.inr (Or.inr rfl)) (hd : (x == ("__debug__" : Str)) = false := by decide) (hcd : (x == ("__classdict__" : Str)) = false := by decide) :
    Em X W ds (.Subscript (.Name x p3) (.Slice lo hi none p2) pos) (· = .list (cutD xs l h)) := by
  obtain ⟨tl, pl, ml⟩ := hl
  obtain ⟨th, ph, mh⟩ := hh
  refine em_of (pe_slice sl_list (pv n hN hv hd hcd) pl ph) fun σ G H ok env Q q => ?_
  obtain ⟨y, e1, e2, _⟩ := env.at hn
  refine ⟨.ref ad, by rw [e1, e2], ml σ G H ok env _ fun G2 H2 r2 => mh σ G2 H2 (W.oks r2) (env.mono r2) _ fun G3 H3 r3 => ?_⟩
  obtain ⟨_, _, _, g, sb, vs, hvs, hd⟩ := ((env.mono r2).mono r3).at hn
  have R := W.trans r2 r3
  refine ⟨ad, vs, rfl, .inl (.inl hvs), fun p hp => ?_⟩
  have st := Stp.new (o := .lst (cutV vs l h)) (W.sub (W.oks r3)) hp
  exact q _ _ _ _ (W.trans R (W.step (W.oks r3) st)) (.lst upd_same (dmonoAll st.g _ _ (hd.cut l h))) rfl
/-! ### more -/
theorem em_tupleOf' {Pa : List PyData → Prop} (ha : Em X W ds a (fun d => ∃ as, d = .list as ∧ Pa as)) (hp : ∀ as, Pa as → P (.tuple as)) (hm : X.mg "tuple" = none) (hg : Gl X "tuple" := by rfl) (hs : starEach [a] X.env = (false, eval a X.env) :: starEach [] X.env := by rfl) (hpl : (backTo pos (starEach [] X.env)).any (·.1) = false := by rfl) : Em X W ds (.Call (.Name "tuple" p2) [a] [] pos) P :=
  em_of (pe_callTy call_tupleZ hg hm (by decide +kernel) (pa_cons pe_u pa_nil hs) (he := hs) (hpl := hpl)) fun σ G H ok env Q q => ha σ G H ok env _ fun v d G1 H1 r1 hd ⟨as, e, p⟩ => by
    subst e
    cases hd with
    | @lst _ us _ hh hs =>
      refine ⟨_, us, rfl, .inl (.inl (W.sub (W.oks r1) _ _ hh)), fun p' ob hp' hob => ?_⟩
      have st := Stp.new (o := .frz ob (.tup us)) (W.sub (W.oks r1)) hp'
      exact q _ _ _ _ (W.trans r1 (W.step (W.oks r1) st)) (.tup (.new hob) (dmonoAll st.g _ _ hs)) (hp as p)
theorem bm_tup3' (i j l : Nat) {x y z : Str} {n : Nat} (he : Em X W ds e P) (k : ∀ d, P d → ∃ u v t, d = .tuple [u, v, t] ∧ Bm X W G0 H0 (((ds.set i (.dat u)).set j (.dat v)).set l (.dat t)) rest N B C r) (hc : X.calm = true) (hN : X.N.Nodup) (hi : X.N[i]? = some x := by rfl) (hj : X.N[j]? = some y := by rfl) (hl : X.N[l]? = some z := by rfl) (hx : Loc X.env.scope x := by first | exact Or.inl rfl | exact Or.inr rfl) (hy : Loc X.env.scope y := by first | exact Or.inl rfl | exact Or.inr rfl) (hz : Loc X.env.scope z := by first | exact Or.inl rfl | exact Or.inr rfl)
    (hfx : X.fn x = true ∨ X.env.scope.names.lookup x = some .local := by first | exact .inl rfl | exact .inr rfl) (hfy : X.fn y = true ∨ X.env.scope.names.lookup y = some .local := by first | exact .inl rfl | exact .inr rfl) (hfz : X.fn z = true ∨ X.env.scope.names.lookup z = some .local := by first | exact .inl rfl | exact .inr rfl)
    (ht : PGs X [.Name x p2, .Name y p3, .Name z p4] (gCons (gName i) (gCons (gName j) (gCons (gName l) gNil))) → PS X (.Assign [.Tuple [.Name x p2, .Name y p3, .Name z p4] n p5] e pos) (tAsg (uE X e) (gTup X.K 3 (gCons (gName i) (gCons (gName j) (gCons (gName l) gNil))))))
    (hs1 : (assignEach [.Name x p2, .Name y p3, .Name z p4] X.env).map (·.2) = assign (.Name x p2) X.env :: (assignEach [.Name y p3, .Name z p4] X.env).map (·.2) := by rfl) (hs2 : (assignEach [.Name y p3, .Name z p4] X.env).map (·.2) = assign (.Name y p3) X.env :: (assignEach [.Name z p4] X.env).map (·.2) := by rfl) (hs3 : (assignEach [.Name z p4] X.env).map (·.2) = assign (.Name z p4) X.env :: (assignEach [] X.env).map (·.2) := by rfl) :
    Bm X W G0 H0 ds (.Assign [.Tuple [.Name x p2, .Name y p3, .Name z p4] n p5] e pos :: rest) N B C r :=
  bm_st (N1 := fun ds' => ∃ u v t, P (.tuple [u, v, t]) ∧ ds' = ((ds.set i (.dat u)).set j (.dat v)).set l (.dat t)) (ht (pgs_cons (pg_name hN hi hx hfx) (pgs_cons (pg_name hN hj hy hfy) (pgs_cons (pg_name hN hl hz hfz) pgs_nil hs3) hs2) hs1)) (fun Gb σ G H D s env n b c q => he σ G H s.ok env _ fun v d G2 H2 r2 hd p => by
    obtain ⟨u, w, t, rfl, _⟩ := k d p
    cases hd with
    | @tup ad us _ hq hd =>
      cases hd with
      | cons h1 hd => cases hd with
        | cons h2 hd => cases hd with
          | cons h3 hd => cases hd with
            | nil =>
              rename_i v1 v2 v3
              exact ⟨ad, [v1, v2, v3], rfl, hq.sq (W.sub (W.oks r2)), rfl, v1, [v2, v3], rfl, v2, [v3], rfl, v3, [], rfl, rfl, n _ _ G2 H2 (s.to r2) ((((env.mono r2).set i (.dat h1)).set j (.dat h2)).set l (.dat h3)) ⟨u, w, t, p, rfl⟩⟩) fun ds' ⟨u, v, t, p, e⟩ => by
    obtain ⟨u', v', t', e2, h⟩ := k _ p
    injection e2 with e2
    injection e2 with e2 e3
    injection e3 with e3 e4
    injection e4 with e4 e5
    subst e2
    subst e3
    subst e4
    rw [e]
    exact h
end
end Dn
namespace Dn
open PySem PySem.Spec PyProof.Rows L2
section
variable {X : Cx} {W : Wr} {G0 H0 : Hp} {ds : List Sl} {e a b c : Expr} {es : List Expr} {pos p2 p3 p4 p5 p6 : Pos} {P : PyData → Prop} {d : PyData} {N B C : NX} {r : RT} {rest body : List Stmt}
/-! ### lists of one's own: made, frozen, extended -/
theorem bm_freeze (i : Nat) {ad : Addr} {xs : List PyData} {sts : List Stmt} (hi : ds[i]? = some (.own ad xs)) (h0 : H0 ad = none) (hn : ∀ (j : Nat) zs, ds[j]? = some (.own ad zs) → j = i) (k : Bm X W G0 H0 (ds.set i (.dat (.list xs))) sts N B C r) (hf : W.fl = false := by rfl) : Bm X W G0 H0 ds sts N B C r := fun Gb σ G H D s env n b c q => by
  obtain ⟨y, e1, e2, g, sb, vs, hvs, hd⟩ := env.at hi
  refine k Gb σ (upd G ad (.lst vs)) H D (s.frz sb h0 g hvs) ⟨by rw [List.length_set]; exact env.1, fun j t y' p q' => ?_⟩ n b c q
  by_cases e : i = j
  · subst e
    rw [List.getElem?_set_self', hi] at p
    cases p
    rw [e1] at q'
    cases q'
    rw [e2]
    exact .dat (.lst upd_same (dmonoAll (same_upd g) _ _ hd))
  · rw [List.getElem?_set_ne e] at p
    have z := env.2 j t y' p q'
    cases t with
    | un => trivial
    | dat d =>
      obtain ⟨v, e3, e4⟩ := z
      exact ⟨v, e3, dmono (same_upd g) _ _ e4⟩
    | raw v => exact z
    | scr K a ns => exact ⟨z.1, (same_upd g).seq z.2⟩
    | kep q pt ms ss => exact absurd z.2.1 (by rw [hf]; exact Bool.false_ne_true)
    | own a' zs =>
      obtain ⟨e3, g', st', us, hu, hd'⟩ := z
      have ne : a' ≠ ad := fun w => e (by rw [w] at p; exact (hn j zs p).symm)
      exact ⟨e3, by rw [upd_ne ne]; exact g', st', us, hu, dmonoAll (same_upd g) _ _ hd'⟩
theorem bm_setLst (i : Nat) {x : Str} {Pa : List PyData → Prop} (ha : Am X W ds es Pa) (hl : ∀ as, Pa as → as.length ≤ 1000) (k : ∀ a as, Pa as → H0 a = none → (∀ (j : Nat) a' xs, ds[j]? = some (.own a' xs) → a ≠ a') → W.stb a → Bm X W G0 H0 (ds.set i (.own a as)) rest N B C r) (hN : X.N.Nodup) (hi : X.N[i]? = some x := by rfl) (hx : Loc X.env.scope x := by first | exact Or.inl rfl | exact Or.inr rfl)
    (hs : swapsWith (.List es p3) (some (.Name x p2)) pos.line X.env = pure false := by rfl) (hf : X.fn x = true ∨ X.env.scope.names.lookup x = some .local := by first | exact .inl rfl | exact .inr rfl) : Bm X W G0 H0 ds (.Assign [.Name x p2] (.List es p3) pos :: rest) N B C r :=
  bm_st (N1 := fun ds' => ∃ a as, Pa as ∧ H0 a = none ∧ (∀ (j : Nat) a' xs, ds[j]? = some (.own a' xs) → a ≠ a') ∧ W.stb a ∧ ds' = ds.set i (.own a as)) (ps_set (i := i) hN hi hx (pe_lst pa_u) hs hf) (fun Gb σ G H D s env n b c q => ha σ G H s.ok env _ fun vs as G1 H1 r1 hs p => ⟨Nat.le_of_lt (small1000 (by rw [hs.len]; exact hl as p)), fun a ha => by
    have s1 := s.to r1
    have env1 := env.mono r1
    have g : G1 a = none := (W.sub s1.ok).free ha
    have st : Stp G1 H1 G1 (upd H1 a (.lst vs)) := ⟨.refl _, same_upd2 (W.sub s1.ok) g, same_upd ha, fun _ _ h => h⟩
    have r2 := W.step s1.ok st
    have sb := W.new s1.ok ha
    refine n _ _ G1 _ (s1.to r2) ((env1.mono r2).set i (.own g sb upd_same hs)) ⟨a, as, p, s1.fresh ha, fun j a' xs h z => ?_, sb, rfl⟩
    obtain ⟨_, _, _, _, _, us, hu, _⟩ := env1.at h
    rw [← z, ha] at hu
    cases hu⟩) fun ds' ⟨a, as, h0, h1, h2, h3, e⟩ => by
    rw [e]
    exact k a as h0 h1 h2 h3
/-- x.extend(f(..)), f makes a new list -/
theorem bm_extend (i : Nat) {x y : Str} {k : Nat} {ps : List Str} {ad : Addr} {xs : List PyData} {pre : List PyData → Prop} {post : List PyData → List PyData → Prop} {Pa : List PyData → Prop} (hi : ds[i]? = some (.own ad xs)) (F : Fk X.prog X.w X.K X.mg X.base y k ps (spL pre post)) (hr : Room k X.A) (ha : Am X W ds (e :: es) Pa) (hp : ∀ as, Pa as → pre as) (h0 : H0 ad = none)
    (hz : ∀ as zs, Pa as → post as zs → xs.length + zs.length ≤ 100000) (hn : ∀ (j : Nat) zs, ds[j]? = some (.own ad zs) → j = i) (kk : ∀ as zs, Pa as → post as zs → Bm X W G0 H0 (ds.set i (.own ad (xs ++ zs))) rest N B C r) (hg : Gl X y := by rfl) (hdb : (y == ("__debug__" : Str)) = false := by decide) (he : starEach (e :: es) X.env = (false, eval e X.env) :: starEach es X.env := by rfl) (hpl : (backTo p5 (starEach es X.env)).any (·.1) = false := by rfl)
    (ht : PE X (.Call (.Name y p4) (e :: es) [] p5) (tCall (spL pre post X.K) [] E0 (uA X (e :: es))) → PS X (.Expr (.Call (.Attribute (.Name x p2) "extend" p3) [.Call (.Name y p4) (e :: es) [] p5] [] p6) pos) (tDrop (tBM X.K "list" rExtend (tVar i) (tCons (tCall (spL pre post X.K) [] E0 (uA X (e :: es))) tNil)))) (hf : W.fl = false := by rfl) :
    Bm X W G0 H0 ds (.Expr (.Call (.Attribute (.Name x p2) "extend" p3) [.Call (.Name y p4) (e :: es) [] p5] [] p6) pos :: rest) N B C r := by
  obtain ⟨f, fd, Gf, hm, hk, hb⟩ := F.ex
  refine bm_st (N1 := fun ds' => ∃ as zs, Pa as ∧ post as zs ∧ ds' = ds.set i (.own ad (xs ++ zs))) (ht (pe_call Gf hr hg hm hk hb .nil pass0 pa_u hdb he hpl)) (fun Gb σ G H D s env n b c q => ?_) fun ds' ⟨as, zs, h1, h2, e⟩ => by
    rw [e]
    exact kk as zs h1 h2
  obtain ⟨z, e1, e2, g, sb, vs, hvs, hd⟩ := env.at hi
  refine ⟨.ref ad, by rw [e1, e2], .inl ⟨rfl, vs, .inl (.inl hvs)⟩, ha σ G H s.ok env _ fun us as G1 H1 r1 hs p => ?_⟩
  rw [List.append_nil]
  refine ⟨G1, as, W.sub (W.oks r1), hs, hp as p, fun pp ws zs G2 H2 st hp0 g2 h2 hd2 hpo => ?_⟩
  have r2 := W.step (W.oks r1) st
  have env2 := (env.mono r1).mono r2
  obtain ⟨_, _, _, g3, sb3, vs3, hvs3, hd3⟩ := env2.at hi
  refine ⟨ad, pp, vs3, ws, rfl, rfl, hvs3, h2, Nat.le_trans (by rw [hd3.len, hd2.len]; exact hz as zs p hpo) (by decide : 100000 ≤ sizeLine), ?_⟩
  exact n _ _ G2 _ (((s.to r1).to r2).chg sb3 h0 g3 hvs3) (env2.put hi hn (hd3.app hd2) hf) ⟨as, zs, p, hpo, rfl⟩
/-! ### for a, b in a list of pairs -/
theorem bm_forL2 {N1 : NX} (i j : Nat) {x y : Str} {n0 : Nat} {as : List PyData} (ha : Em X W ds a (· = .list as)) (I : Nat → List Sl → Prop) (h0 : I 0 ds) (hp : PassesOwn (model X.prog X.w) X.A X.env X.xe) (hc : X.calm = true)
    (hs : ∀ n d ds', as[n]? = some d → I n ds' → ∃ u v, d = .tuple [u, v] ∧ Bm X W G0 H0 ((ds'.set i (.dat u)).set j (.dat v)) body (I (n + 1)) N1 (I (n + 1)) r) (hd : ∀ ds', I as.length ds' → N1 ds') (k : ∀ ds', N1 ds' → Bm X W G0 H0 ds' rest N B C r) (hN : X.N.Nodup) (hi : X.N[i]? = some x := by rfl) (hj : X.N[j]? = some y := by rfl) (hx : Loc X.env.scope x := by first | exact Or.inl rfl | exact Or.inr rfl) (hy : Loc X.env.scope y := by first | exact Or.inl rfl | exact Or.inr rfl)
    (hfx : X.fn x = true ∨ X.env.scope.names.lookup x = some .local := by first | exact .inl rfl | exact .inr rfl) (hfy : X.fn y = true ∨ X.env.scope.names.lookup y = some .local := by first | exact .inl rfl | exact .inr rfl)
    (hs1 : (assignEach [.Name x p2, .Name y p3] X.env).map (·.2) = assign (.Name x p2) X.env :: (assignEach [.Name y p3] X.env).map (·.2) := by rfl) (hs2 : (assignEach [.Name y p3] X.env).map (·.2) = assign (.Name y p3) X.env :: (assignEach [] X.env).map (·.2) := by rfl)
    (hn1 : (assignEach [.Name x p2, .Name y p3] X.env).length = 2 := by rfl) (hst : (assignEach [.Name x p2, .Name y p3] X.env).findIdx? (·.1) = none := by rfl) (hs' : ∀ x, foldedSetIterable a X.env x = pure x := by intro _; rfl) : Bm X W G0 H0 ds (.For (.Tuple [.Name x p2, .Name y p3] n0 p4) a body [] pos :: rest) N B C r :=
  bm_st (ps_for hp hc (pi_list pe_u) (pg_tup hc (pgs_cons (pg_name (i := i) hN hi hx hfx) (pgs_cons (pg_name (i := j) hN hj hy hfy) pgs_nil hs2) hs1) hn1 hst) pss_u hs') (fun Gb σ G H D s env n b cc q => ha σ G H s.ok env _ fun v d G1 H1 r1 hv e => by
    subst e
    cases hv with
    | @lst ad us _ hq hus =>
      refine ⟨ad, rfl, ⟨us, .inl (.inl (W.sub (W.oks r1) _ _ hq))⟩, for_list (K := X.K) (xs := us) (fun n σ' H' => ∃ ds' G', At W G1 G0 H0 G' H' ∧ EnvOk X.K W G' H' ds' σ' ∧ I n ds') ⟨ds, G1, ⟨.refl _, (s.to r1).r⟩, env.mono r1, h0⟩ ?_ ?_ ?_⟩
      · rintro m σ' H' _ ⟨ds', G', s', _, _⟩
        exact .inl (.inl (W.sub s'.ok _ _ (s'.b _ _ hq)))
      · rintro m y σ' H' hm ⟨ds', G', s', env', hI⟩
        obtain ⟨dd, h1, h2⟩ := hus.atV hm
        obtain ⟨u, w, rfl, hB⟩ := hs m dd ds' h1 hI
        have h2 := dmono s'.b _ _ h2
        cases h2 with
        | @tup at' ts _ ht hts => cases hts with
          | cons t1 hts => cases hts with
            | cons t2 hts => cases hts with
              | nil =>
                rename_i v1 v2
                refine ⟨at', [v1, v2], rfl, ht.sq (W.sub s'.ok), rfl, v1, [v2], rfl, v2, [], rfl, rfl, ?_⟩
                exact hB G1 _ G' H' _ s' ((env'.set i (.dat t1)).set j (.dat t2)) (fun ds2 σ2 G3 H3 s3 e3 p => ⟨ds2, G3, s3, e3, p⟩) (fun ds2 σ2 G3 H3 s3 e3 p => n ds2 σ2 G3 H3 ⟨(s.to r1).b.trans s3.b, s3.r⟩ e3 p) (fun ds2 σ2 G3 H3 s3 e3 p => ⟨ds2, G3, s3, e3, p⟩) q
      · rintro σ' H' ⟨ds', G', s', env', hI⟩
        exact n ds' σ' G' H' ⟨(s.to r1).b.trans s'.b, s'.r⟩ env' (hd ds' (by rw [← hus.len]; exact hI))) k
/-! ### tests -/
def isNoneD : PyData → Bool
  | .none => true
  | _ => false
theorem tm_isN (ha : Em X W ds a (· = d)) {n : Nat} : Tm X W ds (.Compare a [.Is] [.Constant .none n p2] pos) (· = isNoneD d) := tm_of (pt_cmp (pc_isN pe_u)) fun σ G H ok env Q q => ha σ G H ok env _ fun v d' G2 H2 r hd e => by
  subst e
  refine ⟨_, rfl, q _ G2 H2 r ?_⟩
  cases hd <;> rfl
theorem tm_notN (ha : Em X W ds a (· = d)) {n : Nat} : Tm X W ds (.Compare a [.IsNot] [.Constant .none n p2] pos) (· = !isNoneD d) := tm_of (pt_cmp (pc_notN pe_u)) fun σ G H ok env Q q => ha σ G H ok env _ fun v d' G2 H2 r hd e => by
  subst e
  refine ⟨_, rfl, q _ G2 H2 r ?_⟩
  cases hd <;> rfl
theorem tm_notInD {k : Nat} {d : PyData} {xs : List PyData} (hr : Room (k + 1) X.A) (s : SeqAt.shaped d = true) (s' : SeqAt.shaped (.list xs) = true) (ha : Em X W ds a (· = d)) (hb : Em X W ds b (· = .list xs)) (hm : behindInMarks .NotIn b = false := by rfl) (hu : X.A.units + 65 < cLine) : Tm X W ds (.Compare a [.NotIn] [b] pos) (· = !xs.any fun z => PyData.eqv z d) := tm_cmp (op_notInD hu) hm (em_op2 ha hb fun G H u v dx dy ok hx hy px py Q q => by
  subst px
  subst py
  exact ⟨_, _, ddp _ _ (dmono (W.sub ok) _ _ hx), ddp _ _ (dmono (W.sub ok) _ _ hy), s, s', q _ _ G H (W.refl ok) (.bl _) ⟨_, rfl, rfl⟩⟩)
end
end Dn
namespace Dn
open PySem PySem.Spec PyProof.Rows L2
/-! ## comprehensions over pairs, with and without a test -/
structure LcJ (K : PySem.W.Frag) (W : Wr) (G H : Hp) (ds : List Sl) (σ : L2.St) (G1 : Hp) (D : Addr) (ys : List PyData) (H' : Hp) : Prop where
  ex : ∃ G' vs, W.R G H G' H' ∧ Same G1 G' ∧ EnvOk K W G' H' ds σ ∧ G' D = none ∧ H' D = some (.lst vs) ∧ Ds K G' vs ys
section
variable {X : Cx} {W : Wr} {ds : List Sl} {e a c elt : Expr} {pos p2 p3 p4 : Pos} {P : PyData → Prop} {G H G1 H1 : Hp} {σ : L2.St} {D : Addr}
theorem lcj_start {K : PySem.W.Frag} (r1 : W.R G H G1 H1) (env : EnvOk K W G H ds σ) (hD : H1 D = none) : LcJ K W G H ds σ G1 D [] (upd H1 D (.lst [])) := by
  have g : G1 D = none := (W.sub (W.oks r1)).free hD
  have st : Stp G1 H1 G1 (upd H1 D (.lst [])) := ⟨.refl _, same_upd2 (W.sub (W.oks r1)) g, same_upd hD, fun _ _ h => h⟩
  have r2 := W.step (W.oks r1) st
  exact ⟨G1, [], W.trans r1 r2, .refl _, (env.mono r1).mono r2, g, upd_same, .nil⟩
theorem lcj_turn {K : PySem.W.Frag} {H' G4 H4 : Hp} {G' : Hp} {vs : List V} {ys : List PyData} {y : V} {d : PyData} (hD : H D = none) (sb : W.stb D) (env0 : EnvOk K W G H ds σ) (r : W.R G H G' H') (g1 : Same G1 G') (env : EnvOk K W G' H' ds σ) (gD : G' D = none) (hv : H' D = some (.lst vs)) (hd : Ds K G' vs ys)
    (hn : ys.length < 40000) (r4 : W.R G' H' G4 H4) (hy : Dd K G4 y d) : ∃ acc, H4 D = some (.lst acc) ∧ acc.length < sizeLine ∧ LcJ K W G H ds σ G1 D (ys ++ [d]) (upd H4 D (.lst (acc ++ [y]))) := by
  obtain ⟨h4, g4⟩ := W.own r4 sb gD hv
  exact ⟨vs, h4, Nat.lt_of_lt_of_le (by rw [hd.len]; exact hn) (by decide : 40000 ≤ sizeLine), G4, vs ++ [y], W.chg (W.trans r r4) sb hD g4 h4, g1.trans (W.g r4), (env.mono r4).other (env0.fresh hD), g4, upd_same, (dmonoAll (W.g r4) _ _ hd).app (.one hy)⟩
theorem lcj_same {K : PySem.W.Frag} {H' G4 H4 : Hp} {ys : List PyData} (sb : W.stb D) (r4 : ∀ G', W.R G H G' H' → W.R G' H' G4 H4) (h : LcJ K W G H ds σ G1 D ys H') : True := trivial
theorem lcj_end {K : PySem.W.Frag} {H' : Hp} {Q : VK} {ys : List PyData} (hD : H D = none) (sb : W.stb D) (hp : P (.list ys)) (q : ∀ v d G2 H2, W.R G H G2 H2 → Dd K G2 v d → P d → Q v H2) (h : LcJ K W G H ds σ G1 D ys H') : Q (.ref D) H' := by
  obtain ⟨G', vs, r, g1, env, gD, hv, hd⟩ := h.ex
  exact q _ _ _ _ (W.frz r sb hD gD hv) (.lst upd_same (dmonoAll (same_upd gD) _ _ hd)) hp
/-- the test's reading in every block -/
def uTB (X : Cx) (scope : Scope) (c : Expr) : TT := fun σ H Q => ∀ (s : Shared) (H' : Hp) (C : Addr) (cl : List (Str × Addr)) (fp : List Addr), uT (X.blk s H' scope (compEnvC scope cl C X.env) fp) c σ H Q
theorem pt_uTB {scope : Scope} (s : Shared) (H' : Hp) (C : Addr) (cl : List (Str × Addr)) (fp : List Addr) : PT (X.blk s H' scope (compEnvC scope cl C X.env) fp) c (uTB X scope c) := ⟨fun pins s1 σ H Q I h => pt_u.run pins s1 σ H Q I (h s H' C cl fp)⟩
theorem wipe2 (σ : L2.St) {i j : Nat} (x y : V) : (((wipe σ [i, j]).set i (some x)).set j (some y)) = (σ.set i (some x)).set j (some y) := by
  show ((((σ.set j none).set i none).set i (some x)).set j (some y)) = _
  rw [List.set_set]
  by_cases e : i = j
  · subst e
    rw [List.set_set, List.set_set, List.set_set]
  · rw [List.set_comm _ _ (Ne.symm e), List.set_set]
theorem wipe2b (σ : L2.St) {i j : Nat} (x y : V) : wipe ((σ.set i (some x)).set j (some y)) [i, j] = wipe σ [i, j] := by
  show ((((σ.set i (some x)).set j (some y)).set j none).set i none) = (σ.set j none).set i none
  rw [List.set_set]
  by_cases e : i = j
  · subst e
    rw [List.set_set, List.set_set, List.set_set]
  · rw [List.set_comm _ _ e, List.set_set]
theorem filterMap_take {α β : Type} (h : α → Option β) (as : List α) {n : Nat} {d : α} (e : as[n]? = some d) : (as.take (n + 1)).filterMap h = (as.take n).filterMap h ++ (h d).toList := by
  rw [List.take_add_one, e, List.filterMap_append]
  cases q : h d with
  | none => simp [q]
  | some x => simp [q]
abbrev blkC (X : Cx) (scope : Scope) (s : Shared) (H : Hp) (C : Addr) (cl : List (Str × Addr)) (fp : List Addr) : Cx := X.blk s H scope (compEnvC scope cl C X.env) fp
theorem emr_lcF (i j : Nat) {scope : Scope} {as : List PyData} (h : PyData → Option PyData) (ha : Em X W ds a (· = .list as)) (hpair : ∀ (n : Nat) d, as[n]? = some d → ∃ u v, d = .tuple [u, v])
    (hh : ∀ (s : Shared) (H : Hp) (C : Addr) (cl : List (Str × Addr)) (fp : List Addr) (n : Nat) (u v : PyData), as[n]? = some (.tuple [u, v]) → ∃ b, Tm (blkC X scope s H C cl fp) W ((ds.set i (.dat u)).set j (.dat v)) c (· = b) ∧ (b = false → h (.tuple [u, v]) = none) ∧ (b = true → ∃ z, h (.tuple [u, v]) = some z ∧ ∀ (s : Shared) (H : Hp) (C : Addr) (cl : List (Str × Addr)) (fp : List Addr), Em (blkC X scope s H C cl fp) W ((ds.set i (.dat u)).set j (.dat v)) elt (· = z)))
    (hz : as.length < 40000) : EmR X.K W ds (tLc (iList X.K (uE X a)) (gTup X.K 2 (gCons (gName i) (gCons (gName j) gNil))) (uTB X scope c) (uEB X scope elt) [i, j]) (· = .list (as.filterMap h)) := fun σ G H okW env Q q => ha σ G H okW env _ fun u d G1 H1 r1 hu e => by
    subst e
    cases hu with
    | @lst ad us _ hq hus =>
      refine ⟨ad, rfl, ⟨us, .inl (.inl (W.sub (W.oks r1) _ _ hq))⟩, fun D hD => lc_list (K := X.K) (xs := us) (fun n H' => LcJ X.K W G H ds σ G1 D ((as.take n).filterMap h) H') (lcj_start r1 env hD) (fun n H' _ h => ?_) (fun n y H' hi hJ => ?_) fun H' hJ => ?_⟩
      · obtain ⟨G', vs, r, g1, env, gD, hv, hd⟩ := h.ex
        exact .inl (.inl (W.sub (W.oks r) _ _ (g1 _ _ hq)))
      · obtain ⟨G', vs, r, g1, env', gD, hv, hd⟩ := hJ.ex
        obtain ⟨dd, e1, e2⟩ := hus.atV hi
        have hlt : n < us.length := (List.getElem?_eq_some_iff.mp hi).1
        obtain ⟨u, v, rfl⟩ := hpair n dd e1
        have hlen : ((as.take n).filterMap h).length < 40000 := Nat.lt_of_le_of_lt (Nat.le_trans (List.length_filterMap_le ..) (by rw [List.length_take]; exact Nat.min_le_right ..)) hz
        have e2 := dmono g1 _ _ e2
        have step := filterMap_take h as e1
        have hDn := W.fresh r1 hD
        have sbD := W.new (W.oks r1) hD
        cases e2 with
        | @tup at' ts _ ht hts => cases hts with
          | cons t1 hts => cases hts with
            | cons t2 hts => cases hts with
              | nil =>
                rename_i v1 v2
                refine ⟨at', [v1, v2], rfl, ht.sq (W.sub (W.oks r)), rfl, v1, [v2], rfl, v2, [], rfl, rfl, ?_⟩
                show wipe (((wipe σ [i, j]).set i (some v1)).set j (some v2)) [i, j] = wipe σ [i, j] ∧ _
                refine ⟨by rw [wipe2]; exact wipe2b σ v1 v2, fun s0 H0 C cl fp => ?_⟩
                show uT _ c (((wipe σ [i, j]).set i (some v1)).set j (some v2)) H' _
                rw [wipe2]
                obtain ⟨b, hb, hf, ht'⟩ := hh s0 H0 C cl fp n u v e1
                have envB : EnvOk X.K W G' H' ((ds.set i (.dat u)).set j (.dat v)) ((σ.set i (some v1)).set j (some v2)) := (env'.set i (.dat t1)).set j (.dat t2)
                refine hb _ G' H' (W.oks r) envB _ fun b' G4 H4 r4 e => ?_
                subst e
                cases b' with
                | false =>
                  rw [if_neg Bool.false_ne_true, step, hf rfl]
                  obtain ⟨h4, g4⟩ := W.own r4 sbD gD hv
                  show LcJ X.K W G H ds σ G1 D ((as.take n).filterMap h ++ []) H4
                  rw [List.append_nil]
                  exact ⟨G4, vs, W.trans r r4, g1.trans (W.g r4), env'.mono r4, g4, h4, dmonoAll (W.g r4) _ _ hd⟩
                | true =>
                  rw [if_pos rfl]
                  obtain ⟨z, ez, hE⟩ := ht' rfl
                  rw [step, ez]
                  intro s5 H5 C5 cl5 fp5
                  obtain ⟨h4, g4⟩ := W.own r4 sbD gD hv
                  exact hE s5 H5 C5 cl5 fp5 _ G4 H4 (W.oks r4) (envB.mono r4) _ fun y d G6 H6 r6 hy py => by
                    subst py
                    exact lcj_turn hDn sbD env (W.trans r r4) (g1.trans (W.g r4)) (env'.mono r4) g4 h4 (dmonoAll (W.g r4) _ _ hd) hlen r6 hy
      · have hJ : LcJ X.K W G H ds σ G1 D ((as.take us.length).filterMap h) H' := hJ
        rw [hus.len, List.take_length] at hJ
        exact lcj_end (P := (· = .list (as.filterMap h))) (W.fresh r1 hD) (W.new (W.oks r1) hD) rfl q hJ
/-- [elt for a, b in list if c] -/
theorem em_lcF (i j : Nat) {x y : Str} {n0 : Nat} {scope : Scope} {as : List PyData} (h : PyData → Option PyData) (ha : Em X W ds a (· = .list as)) (hpair : ∀ (n : Nat) d, as[n]? = some d → ∃ u v, d = .tuple [u, v])
    (hh : ∀ (s : Shared) (H : Hp) (C : Addr) (cl : List (Str × Addr)) (fp : List Addr) (n : Nat) (u v : PyData), as[n]? = some (.tuple [u, v]) → ∃ b, Tm (blkC X scope s H C cl fp) W ((ds.set i (.dat u)).set j (.dat v)) c (· = b) ∧ (b = false → h (.tuple [u, v]) = none) ∧ (b = true → ∃ z, h (.tuple [u, v]) = some z ∧ ∀ (s : Shared) (H : Hp) (C : Addr) (cl : List (Str × Addr)) (fp : List Addr), Em (blkC X scope s H C cl fp) W ((ds.set i (.dat u)).set j (.dat v)) elt (· = z)))
    (hz : as.length < 40000) (hc : X.calm = true) (hN : X.N.Nodup) (ok : BlkOk X.N X.env.scope scope [(x, i), (y, j)])
    (hg : ∀ (s : Shared) (H : Hp) (C : Addr) (cl : List (Str × Addr)) (fp : List Addr), PG (blkC X scope s H C cl fp) (.Tuple [.Name x p2, .Name y p3] n0 p4) (gTup X.K 2 (gCons (gName i) (gCons (gName j) gNil)))) (hs : ∀ x, foldedSetIterable a X.env x = pure x := by intro _; rfl) :
    Em X W ds (.ListComp elt [⟨.Tuple [.Name x p2, .Name y p3] n0 p4, a, [c], 0⟩] scope pos) (· = .list (as.filterMap h)) :=
  em_of (pe_lc hc hN (pi_list pe_u) ok hg (fun s H C cl fp => pts_one (pt_uTB s H C cl fp)) pe_uEB hs) (emr_lcF i j h ha hpair hh hz)
/-- [elt for a, b in list] -/
theorem em_lcG (i j : Nat) {x y : Str} {n0 : Nat} {scope : Scope} {as : List PyData} (g : PyData → PyData) (ha : Em X W ds a (· = .list as)) (hpair : ∀ (n : Nat) d, as[n]? = some d → ∃ u v, d = .tuple [u, v])
    (hh : ∀ (s : Shared) (H : Hp) (C : Addr) (cl : List (Str × Addr)) (fp : List Addr) (n : Nat) (u v : PyData), as[n]? = some (.tuple [u, v]) → Em (blkC X scope s H C cl fp) W ((ds.set i (.dat u)).set j (.dat v)) elt (· = g (.tuple [u, v])))
    (hz : as.length < 40000) (hc : X.calm = true) (hN : X.N.Nodup) (ok : BlkOk X.N X.env.scope scope [(x, i), (y, j)])
    (hg : ∀ (s : Shared) (H : Hp) (C : Addr) (cl : List (Str × Addr)) (fp : List Addr), PG (blkC X scope s H C cl fp) (.Tuple [.Name x p2, .Name y p3] n0 p4) (gTup X.K 2 (gCons (gName i) (gCons (gName j) gNil)))) (hs : ∀ x, foldedSetIterable a X.env x = pure x := by intro _; rfl) :
    Em X W ds (.ListComp elt [⟨.Tuple [.Name x p2, .Name y p3] n0 p4, a, [], 0⟩] scope pos) (· = .list (as.map g)) :=
  em_of (pe_lc hc hN (pi_list pe_u) ok hg (fun _ _ _ _ _ => pts_nil) pe_uEB hs) fun σ G H okW env Q q => ha σ G H okW env _ fun u d G1 H1 r1 hu e => by
    subst e
    cases hu with
    | @lst ad us _ hq hus =>
      refine ⟨ad, rfl, ⟨us, .inl (.inl (W.sub (W.oks r1) _ _ hq))⟩, fun D hD => lc_list (K := X.K) (xs := us) (fun n H' => LcJ X.K W G H ds σ G1 D ((as.take n).map g) H') (lcj_start r1 env hD) (fun n H' _ h => ?_) (fun n y H' hi hJ => ?_) fun H' hJ => ?_⟩
      · obtain ⟨G', vs, r, g1, env, gD, hv, hd⟩ := h.ex
        exact .inl (.inl (W.sub (W.oks r) _ _ (g1 _ _ hq)))
      · obtain ⟨G', vs, r, g1, env', gD, hv, hd⟩ := hJ.ex
        obtain ⟨dd, e1, e2⟩ := hus.atV hi
        obtain ⟨u, v, rfl⟩ := hpair n dd e1
        have hlen : ((as.take n).map g).length < 40000 := by
          rw [List.length_map, List.length_take]
          omega
        have e2 := dmono g1 _ _ e2
        have step : (as.take (n + 1)).map g = (as.take n).map g ++ [g (.tuple [u, v])] := by
          rw [List.take_add_one, e1, List.map_append]
          rfl
        cases e2 with
        | @tup at' ts _ ht hts => cases hts with
          | cons t1 hts => cases hts with
            | cons t2 hts => cases hts with
              | nil =>
                rename_i v1 v2
                refine ⟨at', [v1, v2], rfl, ht.sq (W.sub (W.oks r)), rfl, v1, [v2], rfl, v2, [], rfl, rfl, ?_⟩
                show wipe (((wipe σ [i, j]).set i (some v1)).set j (some v2)) [i, j] = wipe σ [i, j] ∧ _
                refine ⟨by rw [wipe2]; exact wipe2b σ v1 v2, ?_⟩
                rw [step]
                intro s0 H0 C cl fp
                show uE _ elt (((wipe σ [i, j]).set i (some v1)).set j (some v2)) H' _
                rw [wipe2]
                exact hh s0 H0 C cl fp n u v e1 _ G' H' (W.oks r) ((env'.set i (.dat t1)).set j (.dat t2)) _ fun y d G6 H6 r6 hy py => by
                  subst py
                  exact lcj_turn (W.fresh r1 hD) (W.new (W.oks r1) hD) env r g1 env' gD hv hd hlen r6 hy
      · have hJ : LcJ X.K W G H ds σ G1 D ((as.take us.length).map g) H' := hJ
        rw [hus.len, List.take_length] at hJ
        exact lcj_end (P := (· = .list (as.map g))) (W.fresh r1 hD) (W.new (W.oks r1) hD) rfl q hJ
end
end Dn
namespace Dn
open PySem PySem.Spec PyProof.Rows L2
section
variable {X : Cx}
/-- a < b of data that are alike -/
def rLtD (K : PySem.W.Frag) : R2 := fun x y H Q => ∃ d e, Dp K H x d ∧ Dp K H y e ∧ PySem.W.alike d e = true ∧ d ≠ .none ∧ d.depth ≤ 60 ∧ Q (.bl (PySem.W.dataLt d e)) H
theorem op_ltD (hu : X.A.units + 64 < cLine) : OpR X (compareOp .Lt) (rLtD X.K) := by
  intro pins s σ H x y v u Q I rx ry h
  obtain ⟨d, e, hd, he, ha, hn, hk, q⟩ := h
  obtain ⟨as, r1⟩ := Dp.reads I d x v hd rx
  obtain ⟨bs, r2⟩ := Dp.reads I e y u he ry
  have hm : min d.depth e.depth ≤ d.depth := Nat.min_le_left _ _
  have z : EP X pins σ Q (.bool (PySem.W.dataLt d e)) s := ⟨.bl _, H, I, rfl, q⟩
  exact (PySem.W.rcLt_alike d e X.A s v u as bs r1 r2 ha hn (by omega) X.prog X.w X.xe _ z : wpAny (model X.prog X.w) X.A (richCompare .Lt v u) _ X.xe s)
/-! ### t[::-1] of a tuple -/
theorem cut_back {prog : Program} {w : World} {A : Around} {E : Value → Shared → Prop} {s : Shared} {sl : Addr} {vl vu vs : Value} {n : Nat} {Q : Int × Int × Nat → Shared → Prop} (hs : s.heap.IsSliceOf sl vl vu vs) (pl : IsPart vl none) (pu : IsPart vu none) (ps : IsPart vs (some (-1)))
    (h : Q ((n : Int) - 1, -1, n) s) : wpAny (model prog w) A (Builtin.Slice.sliceApplied (.ref sl) (pure (n : Int))) Q E s := by
  obtain ⟨os, hos, hcs, hds⟩ := id hs
  unfold Builtin.Slice.sliceApplied Builtin.Slice.sliceFields
  refine wpAny_bind (wpAny_bind (wpAny_field hos hds (x := vl) rfl (wpAny_bind (wpAny_field hos hds (x := vu) rfl (wpAny_bind (wpAny_field hos hds (x := vs) rfl (wpAny_pure ?_)))))))
  refine wpAny_bind (HT.slicePart_ ps ?_)
  show wpAny _ _ (if ((-1 : Int) == 0) = true then _ else _) _ _ s
  rw [if_neg (by decide)]
  refine wpAny_bind (HT.slicePart_ pl (wpAny_bind (HT.slicePart_ pu (wpAny_bind (wpAny_pure ?_)))))
  show wpAny _ _ (match Builtin.Slice.sliceAdjust none none (-1) (n : Int) with | (lo, hi) => pure (lo, (-1 : Int), Builtin.Slice.slicePlaces lo hi (-1))) _ _ s
  have e1 : Builtin.Slice.sliceAdjust none none (-1) (n : Int) = ((n : Int) - 1, -1) := rfl
  rw [e1]
  show wpAny _ _ (pure ((n : Int) - 1, (-1 : Int), Builtin.Slice.slicePlaces ((n : Int) - 1) (-1) (-1))) _ _ s
  have e2 : Builtin.Slice.slicePlaces ((n : Int) - 1) (-1) (-1) = n := by
    unfold Builtin.Slice.slicePlaces
    rw [if_neg (by decide)]
    by_cases hn : n = 0
    · subst hn
      rfl
    · rw [if_pos (by omega)]
      simp
  rw [e2]
  exact wpAny_pure h
theorem pick_back (xs : Array Value) : ((List.range xs.size).filterMap fun (m : Nat) => xs[(((xs.size : Nat) : Int) - 1 + (m : Int) * -1).toNat]?).toArray = xs.toList.reverse.toArray := by
  have e : (fun (m : Nat) => xs[(((xs.size : Nat) : Int) - 1 + (m : Int) * -1).toNat]?) = (fun k => xs[k]?) ∘ fun m => (0 + xs.size - 1) - m := by
    funext m
    have : (((xs.size : Nat) : Int) - 1 + (m : Int) * -1).toNat = (0 + xs.size - 1) - m := by omega
    show xs[_]? = xs[_]?
    rw [this]
  rw [e, ← List.filterMap_map, ← List.reverse_range', List.filterMap_reverse, ← List.range_eq_range', PySem.W.krv_all]
/-- t[::-1] -/
def tRevT (K : PySem.W.Frag) (te : TE) : TE := fun σ H Q => te σ H fun x H1 => ∃ a xs, x = .ref a ∧ SqT K H1 a xs ∧ newT xs.reverse H1 Q
theorem item_back {prog : Program} {w : World} {A : Around} {E : Value → Shared → Prop} {s : Shared} {t sl : Addr} {items : Array Value} {vl vu vs : Value} {Q : Value → Shared → Prop} (ht : IsTup s.heap t items) (hs : s.heap.IsSliceOf sl vl vu vs) (pl : IsPart vl none) (pu : IsPart vu none) (ps : IsPart vs (some (-1)))
    (h : Q (.ref s.heap.objs.size) { s with heap := s.heap.push { cls := .type "tuple", data := .seq items.toList.reverse.toArray } }) (hsz : items.size ≤ sizeLine) : wpAny (model prog w) A (getItem (.ref t) (.ref sl)) Q E s := by
  have htake : sizeOk (.seq items.toList.reverse.toArray) := by
    show items.toList.reverse.toArray.size ≤ sizeLine
    rw [List.size_toArray, List.length_reverse, Array.length_toList]
    exact hsz
  obtain ⟨os, hos, hcs, hds⟩ := id hs
  have hTs : s.TypeIs (.ref sl) "slice" := ⟨os, hos, hcs⟩
  unfold getItem
  try with_reducible refine wpAny_holding ?_
  first | refine wpAny_bind (wpAny_pure ?_) | skip
  refine wpAny_bind (wpAny_sequenceKey ht.typeIs (by decide) ?_)
  refine wpAny_bind (wpAny_callSpecial?_slot (name := Str.ofString "__getitem__") ht.typeIs PyProof.Rows.slot_tuple_getitem
    (wpAny_call_entry PyProof.Rows.slot_tuple_getitem ht.typeIs entry_tuple_getitem ?_ (args_tuple_getitem _ _)))
  show wpAny _ _ (Builtin.Tuple.tupleItemsOf (.ref t) >>= _) _ _ s
  refine wpAny_bind (tupleItemsOf_ ht ?_)
  refine wpAny_bind (wpAny_typeOf hTs ?_)
  rw [if_pos (by decide)]
  refine wpAny_bind (cut_back hs pl pu ps ?_)
  have hno : ¬ ((((items.size : Nat) : Int) - 1 == 0 && (-1 : Int) == 1 && items.size == items.size) = true) := by
    intro q
    rw [Bool.and_eq_true, Bool.and_eq_true] at q
    exact absurd q.1.2 (by decide)
  show wpAny _ _ (if (((items.size : Nat) : Int) - 1 == 0 && (-1 : Int) == 1 && items.size == items.size) = true then _ else _) _ _ s
  rw [if_neg hno, pick_back]
  first
    | exact wpAny_bind (m := Builtin.Tuple.tupleExact _) (wpAny_newObj_type (wpAny_pure ⟨_, rfl, wpAny_pure h⟩) htake)
    | exact wpAny_bind (m := Builtin.Tuple.tupleExact _) (wpAny_newObj_type (wpAny_bind (wpAny_pure (wpAny_pure ⟨_, rfl, wpAny_pure h⟩))) htake)
    | exact wpAny_bind (wpAny_bind (m := Builtin.Tuple.tupleExact _) (wpAny_newObj_type (wpAny_pure (wpAny_pure ⟨_, rfl, wpAny_pure h⟩)) htake))
    | exact wpAny_bind (wpAny_bind (m := Builtin.Tuple.tupleExact _) (wpAny_newObj_type (wpAny_pure ⟨_, rfl, wpAny_pure h⟩) htake))
theorem pe_revT {e : Expr} {te : TE} {k : Nat} {p1 p2 p3 pos : Pos} (he : PE X e te) : PE X (.Subscript e (.Slice none none (some (.UnaryOp .USub (.Constant (.int 1) k p1) p2)) p3) pos) (tRevT X.K te) := by
  refine ⟨fun pins s σ H Q I h => ?_⟩
  refine Subscript_ (thn (he.run pins s σ H _ I h) fun v s1 ⟨x, H1, I1, r1, q1⟩ => ?_)
  obtain ⟨a, xs, ex, hx, q⟩ := q1
  subst ex
  cases r1
  have hst : PO X (some (.UnaryOp .USub (.Constant (.int 1) k p1) p2)) (tPart (tUn (rU fun i => .int (-i)) (tC (.int 1)))) := po_some (pe_un un_neg pe_int)
  refine wpAny_Slice (thn (po_none.run pins s1 σ H1 (fun o H2 => o = none ∧ H2 = H1) I1 ⟨rfl, rfl⟩) fun vl s2 ⟨l, H2, I2, pl, el, e2⟩ => ?_)
  subst el e2
  refine thn (po_none.run pins s2 σ H2 (fun o H3 => o = none ∧ H3 = H2) I2 ⟨rfl, rfl⟩) fun vu s3 ⟨u, H3, I3, pu, eu, e3⟩ => ?_
  subst eu e3
  refine thn (hst.run pins s3 σ H3 (fun o H4 => o = some (-1) ∧ H4 = H3) I3 ⟨1, rfl, -1, rfl, rfl, rfl⟩) fun vs s4 ⟨o, H4, I4, ps, eo, e4⟩ => ?_
  subst eo e4
  have I5 : Inv X pins σ H4 { s4 with heap := s4.heap.push { cls := .type "slice", data := .fields #[vl, vu, vs] } } := I4.kept (t' := s4.toks) fun b ob q => Heap.get?_push_of_some _ q
  obtain ⟨its, r, ht, hz⟩ := I5.tuple hx
  have hlen := r.length
  show wpAny (model X.prog X.w) X.A (subscriptTail e (.Slice none none (some (.UnaryOp .USub (.Constant (.int 1) k p1) p2)) p3) (.ref a) (.ref s4.heap.objs.size)) (EP X pins σ Q) X.xe { s4 with heap := s4.heap.push { cls := .type "slice", data := .fields #[vl, vu, vs] } }
  refine tail_any (ops := [.ref a, .ref s4.heap.objs.size]) ht.typeIs (PyProof.Rows.slot_tuple_getitem.lookup) ?_ (by with_unfolding_all rfl)
  refine item_back ht (Heap.IsSliceOf.new _ vl vu vs) pl pu ps ?_ (by rw [List.size_toArray]; omega)
  exact newT_of I5 r.reverse (by rw [List.length_reverse]; exact hz) q
/-! ### t.count(x) -/
def rCntD (K : PySem.W.Frag) : V → List V → Hp → VK → Prop := fun x xs H Q => ∃ (y : V) (d : PyData) (ds : List PyData), xs = [y] ∧ Dp K H x (.tuple ds) ∧ Dp K H y d ∧ PyData.plainAll ds = true ∧ d.plain = true ∧ d.depth ≤ 50 ∧ Q (.int ((ds.countP fun z => PyData.eqv z d : Nat) : Int)) H
theorem mt_tcount (hu : X.A.units + 64 < cLine) : MtR X "tuple.count" (rCntD X.K) := by
  intro pins s σ H x xs v us Q I rx rxs h
  obtain ⟨y, d, ds, rfl, hl, hy, p1, p2, hk, q⟩ := h
  obtain ⟨u, rfl, ru⟩ := rxs.one
  obtain ⟨bs, r1⟩ := Dp.reads I d y u hy ru
  cases hl with
  | @tup a vs _ hs ha =>
    cases rx
    obtain ⟨its, rv, ht, hlen⟩ := I.tuple hs
    obtain ⟨as, r2⟩ := Dp.readsAll I ds _ its ha rv
    have hm : min (PyData.depthAll ds) d.depth ≤ d.depth := Nat.min_le_right _ _
    exact PySem.SeqAt.count_tuple_data (show s.heap.IsTuple a its.toArray from ht) (show ReadsAll s.heap its.toArray.toList ds as from r2) r1 p1 p2 (by omega) ⟨.int _, H, I.tok _, ⟨_, rfl⟩, q⟩
end
end Dn
namespace Dn
open PySem PySem.Spec PyProof.Rows L2
section
variable {X : Cx} {W : Wr} {G0 H0 : Hp} {ds : List Sl} {e a b c elt : Expr} {es : List Expr} {pos p2 p3 p4 p5 p6 : Pos} {P : PyData → Prop} {d : PyData} {N B C : NX} {r : RT} {rest body : List Stmt} {Pe : Nat → PyData → Prop}
theorem Ds.rev {K : PySem.W.Frag} {G : Hp} : ∀ {vs : List V} {as : List PyData}, Ds K G vs as → Ds K G vs.reverse as.reverse
  | _, _, .nil => .nil
  | _, _, .cons h t => by
    rw [List.reverse_cons, List.reverse_cons]
    exact (Ds.rev t).app (.one h)
theorem em_revT {as : List PyData} {k : Nat} (ha : Em X W ds a (· = .tuple as)) : Em X W ds (.Subscript a (.Slice none none (some (.UnaryOp .USub (.Constant (.int 1) k p2) p3)) p4) pos) (· = .tuple as.reverse) := em_of (pe_revT pe_u) fun σ G H ok env Q q => ha σ G H ok env _ fun v d G1 H1 r1 hd e => by
  subst e
  cases hd with
  | @tup ad us _ hq hs =>
    refine ⟨ad, us, rfl, hq.sq (W.sub (W.oks r1)), fun p ob hp hob => ?_⟩
    have st := Stp.new (o := .frz ob (.tup us.reverse)) (W.sub (W.oks r1)) hp
    exact q _ _ _ _ (W.trans r1 (W.step (W.oks r1) st)) (.tup (.new hob) (dmonoAll st.g _ _ hs.rev)) rfl
theorem em_ltD {d d' : PyData} (hu : X.A.units + 64 < cLine) (hal : PySem.W.alike d d' = true) (hn : d ≠ .none) (hk : d.depth ≤ 60) (ha : Em X W ds a (· = d)) (hb : Em X W ds b (· = d')) : Em X W ds (.Compare a [.Lt] [b] pos) (· = .bool (PySem.W.dataLt d d')) := em_of (pe_cmpR (op_ltD hu) pe_u pe_u (nomark _)) (em_op2 ha hb fun G H u v dx dy ok hx hy px py Q q => by
  subst px
  subst py
  exact ⟨_, _, ddp _ _ (dmono (W.sub ok) _ _ hx), ddp _ _ (dmono (W.sub ok) _ _ hy), hal, hn, hk, q _ _ G H (W.refl ok) (.bl _) rfl⟩)
theorem tm_neB {x y : Bool} (ha : Em X W ds a (· = .bool x)) (hb : Em X W ds b (· = .bool y)) : Tm X W ds (.Compare a [.NotEq] [b] pos) (· = !decide (x = y)) := tm_cmp op_ne (nomark _) (em_op2 ha hb fun G H u v dx dy ok hx hy px py Q q => by
  subst px
  subst py
  cases hx
  cases hy
  exact ⟨rfl, q _ _ G H (W.refl ok) (.bl _) ⟨_, rfl, by rw [dec_bl, Bool.beq_eq_decide_eq]⟩⟩)
/-- y = [elt for x in a tuple] -/
theorem bm_setLcT (i v : Nat) {x y : Str} {scope : Scope} {as : List PyData} (ha : Em X W ds a (· = .tuple as))
    (he : ∀ (s : Shared) (H : Hp) (C : Addr) (cl : List (Str × Addr)) (fp : List Addr) (n : Nat) (d : PyData), as[n]? = some d → Em (X.blk s H scope (compEnvC scope cl C X.env) fp) W (ds.set v (.dat d)) elt (Pe n))
    (k : ∀ ys : List PyData, ys.length = as.length → (∀ n y, ys[n]? = some y → Pe n y) → Bm X W G0 H0 (ds.set i (.dat (.list ys))) rest N B C r) (hz : as.length ≤ 40000) (hc : X.calm = true) (hN : X.N.Nodup) (ok : BlkOk X.N X.env.scope scope [(x, v)])
    (hg : ∀ (s : Shared) (H : Hp) (C : Addr) (cl : List (Str × Addr)) (fp : List Addr), PG (X.blk s H scope (compEnvC scope cl C X.env) fp) (.Name x p2) (gName v)) (hy : X.N[i]? = some y := by rfl) (hyl : X.env.scope.names.lookup y = some .local := by rfl)
    (hsw : swapsWith (.ListComp elt [⟨.Name x p2, a, [], 0⟩] scope p4) (some (.Name y p3)) pos.line X.env = pure true) (hs : ∀ x, foldedSetIterable a X.env x = pure x := by intro _; rfl) :
    Bm X W G0 H0 ds (.Assign [.Name y p3] (.ListComp elt [⟨.Name x p2, a, [], 0⟩] scope p4) pos :: rest) N B C r :=
  bm_st (N1 := fun ds' => ∃ ys : List PyData, ys.length = as.length ∧ (∀ n y, ys[n]? = some y → Pe n y) ∧ ds' = ds.set i (.dat (.list ys))) (ps_setLc hc hN hy hyl hsw (pi_tup pe_u) ok hg (fun _ _ _ _ _ => pts_nil) pe_uEB hs) (fun Gb σ G H D s env n b cc q => ha σ G H s.ok env _ fun u d G1 H1 r1 hu e => by
    subst e
    cases hu with
    | @tup ad us _ hq hus =>
      refine ⟨ad, rfl, ⟨us, hq.sq (W.sub (W.oks r1))⟩, fun D' hD => lc_tup (K := X.K) (xs := us) (LcI X.K W G H ds σ G1 D' Pe) (lc_start r1 env hD) (fun i H' _ h => ?_) (fun i y H' hi h => ?_) fun H' h => ?_⟩
      · obtain ⟨G', vs, ys, r, g1, env, gD, hv, hd, hl, hpe⟩ := h.ex
        exact (hq.mono g1).sq (W.sub (W.oks r))
      · show wipe ((wipe σ [v]).set v (some y)) [v] = wipe σ [v] ∧ _
        rw [wipe_set]
        obtain ⟨G', vs, ys, r, g1, env', gD, hv, hd, hl, hpe⟩ := h.ex
        obtain ⟨dd, e1, e2⟩ := hus.atV hi
        have hlt : i < us.length := (List.getElem?_eq_some_iff.mp hi).1
        refine ⟨wipe_back σ v y, fun s0 H0 C cl fp => ?_⟩
        show uE _ elt ((wipe σ [v]).set v (some y)) H' _
        rw [wipe_set]
        exact he s0 H0 C cl fp i dd e1 _ G' H' (W.oks r) (env'.set v (.dat (dmono g1 _ _ e2))) _ fun y d G4 H4 r4 hy py => lc_turn (W.fresh r1 hD) (W.new (W.oks r1) hD) env r g1 env' gD hv hd hl hpe (by rw [hus.len] at hlt; omega) r4 hy py
      · refine lc_end (P := fun d => ∃ ys : List PyData, d = .list ys ∧ ys.length = as.length ∧ ∀ n y, ys[n]? = some y → Pe n y) (Q := fun x H1 => gName i x σ H1 D.nx) (W.fresh r1 hD) (W.new (W.oks r1) hD) (fun ys hl hp => ⟨ys, rfl, by rw [hl, hus.len], hp⟩) (fun v' d' G2 H2 r2 hd2 ⟨ys, e, hl, hp⟩ => ?_) h
        subst e
        exact n _ _ G2 H2 (s.to r2) ((env.mono r2).set i (.dat hd2)) ⟨ys, hl, hp, rfl⟩) fun ds' ⟨ys, h1, h2, e⟩ => by
    rw [e]
    exact k ys h1 h2
end
end Dn
namespace Dn
open PySem PySem.Spec PyProof.Rows L2
section
variable {X : Cx} {W : Wr} {G0 H0 : Hp} {ds : List Sl} {e a b c : Expr} {es : List Expr} {pos p2 p3 p4 p5 p6 : Pos} {P : PyData → Prop} {d : PyData} {N B C : NX} {r : RT} {rest body : List Stmt} {st : Stmt}
/-! ### repr, of a truth value -/
theorem call_repr_bool : CallR X (.builtin "repr") (fun xs H Q => ∃ b, xs = [.bl b] ∧ Q (.str (if b then "True" else "False")) H) := by
  intro pins s σ H xs us Q I r h
  obtain ⟨b, rfl, q⟩ := h
  obtain ⟨u, rfl, rx⟩ := vals1 r
  cases rx
  exact PySem.P.repr_of_bool ⟨.str _, H, I.tok _, ⟨_, rfl⟩, q⟩
theorem em_reprB {x : Bool} (ha : Em X W ds a (· = .bool x)) (hm : X.mg "repr" = none) (hg : Gl X "repr" := by rfl) (hs : starEach [a] X.env = (false, eval a X.env) :: starEach [] X.env := by rfl) (hpl : (backTo pos (starEach [] X.env)).any (·.1) = false := by rfl) : Em X W ds (.Call (.Name "repr" p2) [a] [] pos) (· = .str (if x then "True" else "False")) :=
  em_of (pe_callB call_repr_bool hg hm (by decide +kernel) (pa_cons pe_u pa_nil hs) (he := hs) (hpl := hpl)) fun σ G H ok env Q q => ha σ G H ok env _ fun v d G1 H1 r1 hd e => by
    subst e
    cases hd
    exact ⟨x, rfl, q _ _ G1 H1 r1 (.str _) rfl⟩
theorem tm_neS {x y : Str} (ha : Em X W ds a (· = .str x)) (hb : Em X W ds b (· = .str y)) : Tm X W ds (.Compare a [.NotEq] [b] pos) (· = !decide (x = y)) := tm_cmp op_ne (nomark _) (em_op2 ha hb fun G H u v dx dy ok hx hy px py Q q => by
  subst px
  subst py
  cases hx
  cases hy
  exact ⟨rfl, q _ _ G H (W.refl ok) (.bl _) ⟨_, rfl, by rw [dec_str]; rw [Bool.beq_eq_decide_eq]⟩⟩)
theorem tm_eqB {x y : Bool} (ha : Em X W ds a (· = .bool x)) (hb : Em X W ds b (· = .bool y)) : Tm X W ds (.Compare a [.Eq] [b] pos) (· = decide (x = y)) := tm_cmp op_eq (nomark _) (em_op2 ha hb fun G H u v dx dy ok hx hy px py Q q => by
  subst px
  subst py
  cases hx
  cases hy
  exact ⟨rfl, q _ _ G H (W.refl ok) (.bl _) ⟨_, rfl, by rw [dec_bl, Bool.beq_eq_decide_eq]⟩⟩)
/-! ### isinstance, one of two -/
theorem em_isiT {T U : String} {x y : Str} {z z' : Bool} {n : Nat} (ha : Em X W ds a (· = d)) (hm : X.mg "isinstance" = none) (hT : X.mg x = none) (hU : X.mg y = none) (hb : bootBuiltins x = some (.type T)) (hb' : bootBuiltins y = some (.type U)) (hk : kitB (tyOf d) T = some z) (hk' : kitB (tyOf d) U = some z') (hg : Gl X "isinstance" := by rfl) (hgT : Gl X x := by rfl) (hgU : Gl X y := by rfl) (hn : x ≠ "__name__" := by decide) (hn' : y ≠ "__name__" := by decide)
    (hdx : (x == ("__debug__" : Str)) = false := by decide) (hdy : (y == ("__debug__" : Str)) = false := by decide)
    (hs0 : starEach [.Name y p4] X.env = (false, eval (.Name y p4) X.env) :: starEach [] X.env := by rfl) (hs1 : starEach [.Name x p3, .Name y p4] X.env = (false, eval (.Name x p3) X.env) :: starEach [.Name y p4] X.env := by rfl)
    (hs2 : starEach [.Tuple [.Name x p3, .Name y p4] n p5] X.env = (false, eval (.Tuple [.Name x p3, .Name y p4] n p5) X.env) :: starEach [] X.env := by rfl) (hs : starEach [a, .Tuple [.Name x p3, .Name y p4] n p5] X.env = (false, eval a X.env) :: starEach [.Tuple [.Name x p3, .Name y p4] n p5] X.env := by rfl) (hpl : (backTo pos (starEach [.Tuple [.Name x p3, .Name y p4] n p5] X.env)).any (·.1) = false := by rfl) :
    Em X W ds (.Call (.Name "isinstance" p2) [a, .Tuple [.Name x p3, .Name y p4] n p5] [] pos) (· = .bool (z || z')) :=
  em_of (pe_callB call_isiT hg hm (by decide +kernel) (pa_cons pe_u (pa_cons (pe_tup (pa_cons (pe_bltn (v := .ty T) hgT hT hb rfl hn hdx) (pa_cons (pe_bltn (v := .ty U) hgU hU hb' rfl hn' hdy) pa_nil hs0) hs1)) pa_nil hs2) hs) (he := hs) (hpl := hpl)) fun σ G H ok env Q q => ha σ G H ok env _ fun v d' G1 H1 r1 hd e => by
    subst e
    refine ⟨Nat.le_of_lt (small1000 (by show 2 ≤ 1000; decide)), fun t ht => ?_⟩
    have g : G1 t = none := (W.sub (W.oks r1)).free ht
    have st : Stp G1 H1 G1 (upd H1 t (.tup [.ty T, .ty U])) := ⟨.refl _, same_upd2 (W.sub (W.oks r1)) g, same_upd ht, fun _ _ h => h⟩
    refine ⟨v, t, [.ty T, .ty U], _, [.type T, .type U], z || z', rfl, upd_same, .cons (.ty T) (.cons (.ty U) .nil), tyx (dmono st.i _ _ hd), ?_, q _ _ G1 _ (W.trans r1 (W.step (W.oks r1) st)) (.bl _) rfl⟩
    refine kitAny_cons (b := z) (kit_ty hk) (fun h => ?_) (fun h => by rw [h]; rfl)
    refine kitAny_cons (b := z') (kit_ty hk') (fun h' => ?_) (fun h' => by rw [h', Bool.or_true])
    rw [h, h']
    rfl
/-! ### an item of one's own list -/
theorem Ds.put {K : PySem.W.Frag} {G : Hp} {v : V} {d : PyData} (h : Dd K G v d) : ∀ (j : Nat) {vs : List V} {xs : List PyData}, Ds K G vs xs → Ds K G (vs.set j v) (xs.set j d)
  | _, _, _, .nil => .nil
  | 0, _, _, .cons _ t => .cons h t
  | j + 1, _, _, .cons a t => .cons a (Ds.put h j t)
theorem bm_ostore (i : Nat) {ad : Addr} {xs : List PyData} {k : Int} {j : Nat} (hi : ds[i]? = some (.own ad xs)) (he : Em X W ds e P) (hb : Em X W ds b (· = .int k)) (hj : ixN xs.length k = some j) (h0 : H0 ad = none) (hn : ∀ (j : Nat) zs, ds[j]? = some (.own ad zs) → j = i)
    (kk : ∀ d, P d → Bm X W G0 H0 (ds.set i (.own ad (xs.set j d))) rest N B C r) (ht : PS X st (tAsg (uE X e) (gSub (tVar i) (uE X b) rSetL))) (hf : W.fl = false := by rfl) : Bm X W G0 H0 ds (st :: rest) N B C r :=
  bm_st (N1 := fun ds' => ∃ d, P d ∧ ds' = ds.set i (.own ad (xs.set j d))) ht (fun Gb σ G H D s env n b c q => he σ G H s.ok env _ fun v d G2 H2 r2 hd p => by
    obtain ⟨z, e1, e2, g, sb, vs, hvs, hds⟩ := env.at hi
    refine ⟨.ref ad, by rw [e1, e2], hb σ G2 H2 (W.oks r2) (env.mono r2) _ fun u du G3 H3 r3 hu pu => ?_⟩
    subst pu
    cases hu
    obtain ⟨z, e1, e2, g3, sb, vs3, hvs3, hd3⟩ := ((env.mono r2).mono r3).at hi
    refine ⟨ad, vs3, k, j, rfl, rfl, hvs3, by rw [hd3.len]; exact hj, ?_⟩
    have R := (s.to r2).to r3
    exact n _ _ G3 _ (R.chg sb h0 g3 hvs3) (((env.mono r2).mono r3).put hi hn (Ds.put (dmono (W.g r3) _ _ hd) j hd3) hf) ⟨d, p, rfl⟩) fun ds' ⟨d, p, e⟩ => by
    rw [e]
    exact kk d p
/-! ### (x, y), (z, w) = e -/
theorem bm_tup22 (i j k l : Nat) {x y z w : Str} {n n1 n2 : Nat} {p7 p8 : Pos} {u1 u2 u3 u4 : PyData} (he : Em X W ds e (· = .tuple [.tuple [u1, u2], .tuple [u3, u4]])) (kk : Bm X W G0 H0 ((((ds.set i (.dat u1)).set j (.dat u2)).set k (.dat u3)).set l (.dat u4)) rest N B C r)
    (ht : PS X (.Assign [.Tuple [.Tuple [.Name x p2, .Name y p3] n1 p7, .Tuple [.Name z p4, .Name w p5] n2 p8] n p6] e pos) (tAsg (uE X e) (gTup X.K 2 (gCons (gTup X.K 2 (gCons (gName i) (gCons (gName j) gNil))) (gCons (gTup X.K 2 (gCons (gName k) (gCons (gName l) gNil))) gNil))))) :
    Bm X W G0 H0 ds (.Assign [.Tuple [.Tuple [.Name x p2, .Name y p3] n1 p7, .Tuple [.Name z p4, .Name w p5] n2 p8] n p6] e pos :: rest) N B C r :=
  bm_st (N1 := fun ds' => ds' = (((ds.set i (.dat u1)).set j (.dat u2)).set k (.dat u3)).set l (.dat u4)) ht (fun Gb σ G H D s env n b c q => he σ G H s.ok env _ fun v d G2 H2 r2 hd p => by
    subst p
    cases hd with
    | @tup ad us _ hq hd =>
      cases hd with
      | cons h1 hd => cases hd with
        | cons h2 hd => cases hd with
          | nil =>
            cases h1 with
            | @tup a1 us1 _ hq1 hd1 =>
              cases h2 with
              | @tup a2 us2 _ hq2 hd2 =>
                cases hd1 with
                | cons x1 hd1 => cases hd1 with
                  | cons x2 hd1 => cases hd1 with
                    | nil => cases hd2 with
                      | cons x3 hd2 => cases hd2 with
                        | cons x4 hd2 => cases hd2 with
                          | nil =>
                            rename_i v1 v2 v3 v4
                            exact ⟨ad, [.ref a1, .ref a2], rfl, hq.sq (W.sub (W.oks r2)), rfl, .ref a1, [.ref a2], rfl, a1, [v1, v2], rfl, hq1.sq (W.sub (W.oks r2)), rfl, v1, [v2], rfl, v2, [], rfl, rfl, .ref a2, [], rfl, a2, [v3, v4], rfl, hq2.sq (W.sub (W.oks r2)), rfl, v3, [v4], rfl, v4, [], rfl, rfl, rfl, n _ _ G2 H2 (s.to r2) (((((env.mono r2).set i (.dat x1)).set j (.dat x2)).set k (.dat x3)).set l (.dat x4)) rfl⟩) fun ds' e => by
    rw [e]
    exact kk
/-! ### in -/
theorem em_inD {k : Nat} {d : PyData} {xs : List PyData} (hu : X.A.units + 65 < cLine) (s : SeqAt.shaped d = true) (s' : SeqAt.shaped (.list xs) = true) (ha : Em X W ds a (· = d)) (hb : Em X W ds b (· = .list xs)) (hm : behindInMarks .In b = false := by rfl) : Em X W ds (.Compare a [.In] [b] pos) (· = .bool (xs.any fun z => PyData.eqv z d)) := em_of (pe_cmpR (op_inD hu) pe_u pe_u hm) (em_op2 ha hb fun G H u v dx dy ok hx hy px py Q q => by
  subst px
  subst py
  exact ⟨_, _, ddp _ _ (dmono (W.sub ok) _ _ hx), ddp _ _ (dmono (W.sub ok) _ _ hy), s, s', q _ _ G H (W.refl ok) (.bl _) rfl⟩)
/-! ### x = list(e), a list of one's own -/
theorem bm_setListOf (i : Nat) {x : Str} {as : List PyData} (ha : Em X W ds a (fun d => d = .list as ∨ d = .tuple as)) (hm : X.mg "list" = none) (k : ∀ ad, H0 ad = none → (∀ (j : Nat) a' xs, ds[j]? = some (.own a' xs) → ad ≠ a') → W.stb ad → Bm X W G0 H0 (ds.set i (.own ad as)) rest N B C r) (hN : X.N.Nodup) (hi : X.N[i]? = some x := by rfl) (hx : Loc X.env.scope x := by first | exact Or.inl rfl | exact Or.inr rfl)
    (hs : swapsWith (.Call (.Name "list" p3) [a] [] p4) (some (.Name x p2)) pos.line X.env = pure false := by rfl) (hf : X.fn x = true ∨ X.env.scope.names.lookup x = some .local := by first | exact .inl rfl | exact .inr rfl) (hg : Gl X "list" := by rfl) (he : starEach [a] X.env = (false, eval a X.env) :: starEach [] X.env := by rfl) (hpl : (backTo p4 (starEach [] X.env)).any (·.1) = false := by rfl) :
    Bm X W G0 H0 ds (.Assign [.Name x p2] (.Call (.Name "list" p3) [a] [] p4) pos :: rest) N B C r :=
  bm_st (N1 := fun ds' => ∃ ad, H0 ad = none ∧ (∀ (j : Nat) a' xs, ds[j]? = some (.own a' xs) → ad ≠ a') ∧ W.stb ad ∧ ds' = ds.set i (.own ad as)) (ps_set (i := i) hN hi hx (pe_callTy call_list_of hg hm (by decide +kernel) (pa_cons pe_u pa_nil he) (he := he) (hpl := hpl)) hs hf) (fun Gb σ G H D s env n b c q => ha σ G H s.ok env _ fun v d G1 H1 r1 hd e => by
    have s1 := s.to r1
    have env1 := env.mono r1
    have fin : ∀ us : List V, Ds X.K G1 us as → ∀ p, H1 p = none → D.nx (σ.set i (some (.ref p))) (upd H1 p (.lst us)) := fun us hs p hp => by
      have g : G1 p = none := (W.sub s1.ok).free hp
      have st : Stp G1 H1 G1 (upd H1 p (.lst us)) := ⟨.refl _, same_upd2 (W.sub s1.ok) g, same_upd hp, fun _ _ h => h⟩
      have r2 := W.step s1.ok st
      have sb := W.new s1.ok hp
      refine n _ _ G1 _ (s1.to r2) ((env1.mono r2).set i (.own g sb upd_same hs)) ⟨p, s1.fresh hp, fun j a' xs h z => ?_, sb, rfl⟩
      obtain ⟨_, _, _, _, _, us', hu, _⟩ := env1.at h
      rw [← z, hp] at hu
      cases hu
    rcases e with e | e
    · subst e
      cases hd with
      | @lst _ us _ hh hs => exact ⟨_, us, rfl, .inl (.inl (.inl (W.sub (W.oks r1) _ _ hh))), fin us hs⟩
    · subst e
      cases hd with
      | @tup _ us _ hh hs => exact ⟨_, us, rfl, .inr (hh.sq (W.sub (W.oks r1))), fin us hs⟩) fun ds' ⟨ad, h1, h2, h3, e⟩ => by
    rw [e]
    exact k ad h1 h2 h3
/-! ### a[lo:] where neither is known -/
theorem em_from' {lo : Expr} {Pa Pl : PyData → Prop} (ha : Em X W ds a Pa) (hl : Em X W ds lo Pl) (k : ∀ x y, Pa x → Pl y → ∃ as i, x = .list as ∧ y = .int i ∧ P (.list (cutD as (some i) none))) : Em X W ds (.Subscript a (.Slice (some lo) none none p2) pos) P := by
  refine em_of (pe_slice sl_list pe_u (po_some pe_u) po_none) fun σ G H ok env Q q => ha σ G H ok env _ fun v d G1 H1 r1 hd e => hl σ G1 H1 (W.oks r1) (env.mono r1) _ fun u du G2 H2 r2 hu pu => ?_
  obtain ⟨as, i, rfl, rfl, p⟩ := k _ _ e pu
  cases hu
  refine ⟨i, rfl, ?_⟩
  cases hd with
  | @lst _ us _ hq hs =>
    have hq2 := (W.g r2) _ _ hq
    have g2 := dmonoAll (W.g r2) _ _ hs
    refine ⟨_, us, rfl, .inl (.inl (W.sub (W.oks r2) _ _ hq2)), fun p' hp' => ?_⟩
    have st := Stp.new (o := .lst (cutV us (some i) none)) (W.sub (W.oks r2)) hp'
    exact q _ _ _ _ (W.trans (W.trans r1 r2) (W.step (W.oks r2) st)) (.lst upd_same (dmonoAll st.g _ _ (g2.cut (some i) none))) p
/-! ### a + b of lists that are not known -/
theorem em_catL' {Pa Pb : PyData → Prop} (ha : Em X W ds a Pa) (hb : Em X W ds b Pb) (k : ∀ x y, Pa x → Pb y → ∃ as bs, x = .list as ∧ y = .list bs ∧ as.length + bs.length ≤ 100000 ∧ P (.list (as ++ bs))) : Em X W ds (.BinOp a .Add b pos) P := em_of (pe_op op_cat pe_u pe_u) (em_op2 ha hb fun G H u v dx dy ok hx hy px py Q q => by
  obtain ⟨as, bs, rfl, rfl, hz, p⟩ := k dx dy px py
  cases hx with
  | @lst _ us _ h1 d1 => cases hy with
    | @lst _ ws _ h2 d2 =>
      refine ⟨_, _, us, ws, rfl, rfl, W.sub ok _ _ h1, W.sub ok _ _ h2, Nat.le_trans (by rw [d1.len, d2.len]; exact hz) (by decide : 100000 ≤ sizeLine), fun p' hp' => ?_⟩
      have st := Stp.new (o := .lst (us ++ ws)) (W.sub ok) hp'
      exact q _ _ _ _ (W.step ok st) (.lst upd_same (dmonoAll st.g _ _ (d1.app d2))) p)
theorem ixN_nat {n j : Nat} (h : j < n) : ixN n (j : Int) = some j := by
  unfold ixN
  rw [if_pos (by omega), if_pos (by omega), Int.toNat_natCast]
end
end Dn
namespace Dn
open PySem PySem.Spec PyProof.Rows L2
section
variable {X : Cx} {W : Wr} {G0 H0 : Hp} {ds : List Sl} {e a b c : Expr} {es : List Expr} {pos p2 p3 p4 p5 : Pos} {P : PyData → Prop} {d : PyData} {N B C : NX} {r : RT} {rest body orelse : List Stmt} {st : Stmt}
/-! ### for over a list, a tuple, of which only something is known -/
theorem bm_forLP {N1 : NX} (i : Nat) {x : Str} {Pa : List PyData → Prop} (ha : Em X W ds a (fun d => ∃ as, d = .list as ∧ Pa as)) (I : List PyData → Nat → List Sl → Prop) (h0 : ∀ as, Pa as → I as 0 ds) (hp : PassesOwn (model X.prog X.w) X.A X.env X.xe) (hc : X.calm = true)
    (hs : ∀ as n d ds', Pa as → as[n]? = some d → I as n ds' → Bm X W G0 H0 (ds'.set i (.dat d)) body (I as (n + 1)) N1 (I as (n + 1)) r) (hd : ∀ as ds', Pa as → I as as.length ds' → N1 ds') (k : ∀ ds', N1 ds' → Bm X W G0 H0 ds' rest N B C r) (hN : X.N.Nodup) (hi : X.N[i]? = some x := by rfl) (hx : Loc X.env.scope x := by first | exact Or.inl rfl | exact Or.inr rfl)
    (hf : X.fn x = true ∨ X.env.scope.names.lookup x = some .local := by first | exact .inl rfl | exact .inr rfl) (hs' : ∀ x, foldedSetIterable a X.env x = pure x := by intro _; rfl) : Bm X W G0 H0 ds (.For (.Name x p2) a body [] pos :: rest) N B C r :=
  bm_st (ps_for hp hc (pi_list pe_u) (pg_name (i := i) hN hi hx hf) pss_u hs') (fun Gb σ G H D s env n b cc q => ha σ G H s.ok env _ fun v d G1 H1 r1 hv ⟨as, e, pa⟩ => by
    subst e
    cases hv with
    | @lst ad us _ hq hus =>
      refine ⟨ad, rfl, ⟨us, .inl (.inl (W.sub (W.oks r1) _ _ hq))⟩, for_list (K := X.K) (xs := us) (fun n σ' H' => ∃ ds' G', At W G1 G0 H0 G' H' ∧ EnvOk X.K W G' H' ds' σ' ∧ I as n ds') ⟨ds, G1, ⟨.refl _, (s.to r1).r⟩, env.mono r1, h0 as pa⟩ ?_ ?_ ?_⟩
      · rintro m σ' H' _ ⟨ds', G', s', _, _⟩
        exact .inl (.inl (W.sub s'.ok _ _ (s'.b _ _ hq)))
      · rintro m y σ' H' hm ⟨ds', G', s', env', hI⟩
        obtain ⟨dd, h1, h2⟩ := hus.atV hm
        exact hs as m dd ds' pa h1 hI G1 _ G' H' _ s' (env'.set i (.dat (dmono s'.b _ _ h2))) (fun ds2 σ2 G3 H3 s3 e3 p => ⟨ds2, G3, s3, e3, p⟩) (fun ds2 σ2 G3 H3 s3 e3 p => n ds2 σ2 G3 H3 ⟨(s.to r1).b.trans s3.b, s3.r⟩ e3 p) (fun ds2 σ2 G3 H3 s3 e3 p => ⟨ds2, G3, s3, e3, p⟩) q
      · rintro σ' H' ⟨ds', G', s', env', hI⟩
        exact n ds' σ' G' H' ⟨(s.to r1).b.trans s'.b, s'.r⟩ env' (hd as ds' pa (by rw [← hus.len]; exact hI))) k
theorem bm_forTP {N1 : NX} (i : Nat) {x : Str} {Pa : List PyData → Prop} (ha : Em X W ds a (fun d => ∃ as, d = .tuple as ∧ Pa as)) (I : List PyData → Nat → List Sl → Prop) (h0 : ∀ as, Pa as → I as 0 ds) (hp : PassesOwn (model X.prog X.w) X.A X.env X.xe) (hc : X.calm = true)
    (hs : ∀ as n d ds', Pa as → as[n]? = some d → I as n ds' → Bm X W G0 H0 (ds'.set i (.dat d)) body (I as (n + 1)) N1 (I as (n + 1)) r) (hd : ∀ as ds', Pa as → I as as.length ds' → N1 ds') (k : ∀ ds', N1 ds' → Bm X W G0 H0 ds' rest N B C r) (hN : X.N.Nodup) (hi : X.N[i]? = some x := by rfl) (hx : Loc X.env.scope x := by first | exact Or.inl rfl | exact Or.inr rfl)
    (hf : X.fn x = true ∨ X.env.scope.names.lookup x = some .local := by first | exact .inl rfl | exact .inr rfl) (hs' : ∀ x, foldedSetIterable a X.env x = pure x := by intro _; rfl) : Bm X W G0 H0 ds (.For (.Name x p2) a body [] pos :: rest) N B C r :=
  bm_st (ps_for hp hc (pi_tup pe_u) (pg_name (i := i) hN hi hx hf) pss_u hs') (fun Gb σ G H D s env n b cc q => ha σ G H s.ok env _ fun v d G1 H1 r1 hv ⟨as, e, pa⟩ => by
    subst e
    cases hv with
    | @tup ad us _ hq hus =>
      refine ⟨ad, rfl, ⟨us, hq.sq (W.sub (W.oks r1))⟩, for_tup (K := X.K) (xs := us) (fun n σ' H' => ∃ ds' G', At W G1 G0 H0 G' H' ∧ EnvOk X.K W G' H' ds' σ' ∧ I as n ds') ⟨ds, G1, ⟨.refl _, (s.to r1).r⟩, env.mono r1, h0 as pa⟩ ?_ ?_ ?_⟩
      · rintro m σ' H' _ ⟨ds', G', s', _, _⟩
        exact (hq.mono s'.b).sq (W.sub s'.ok)
      · rintro m y σ' H' hm ⟨ds', G', s', env', hI⟩
        obtain ⟨dd, h1, h2⟩ := hus.atV hm
        exact hs as m dd ds' pa h1 hI G1 _ G' H' _ s' (env'.set i (.dat (dmono s'.b _ _ h2))) (fun ds2 σ2 G3 H3 s3 e3 p => ⟨ds2, G3, s3, e3, p⟩) (fun ds2 σ2 G3 H3 s3 e3 p => n ds2 σ2 G3 H3 ⟨(s.to r1).b.trans s3.b, s3.r⟩ e3 p) (fun ds2 σ2 G3 H3 s3 e3 p => ⟨ds2, G3, s3, e3, p⟩) q
      · rintro σ' H' ⟨ds', G', s', env', hI⟩
        exact n ds' σ' G' H' ⟨(s.to r1).b.trans s'.b, s'.r⟩ env' (hd as ds' pa (by rw [← hus.len]; exact hI))) k
end
end Dn
namespace Dn
open PySem PySem.Spec PyProof.Rows L2
section
variable {X : Cx} {W : Wr} {G0 H0 : Hp} {ds : List Sl} {e a b c : Expr} {es : List Expr} {pos p2 p3 p4 p5 : Pos} {P : PyData → Prop} {d : PyData} {N B C : NX} {r : RT} {rest body orelse : List Stmt} {st : Stmt}
/-! ### a tuple that the module holds -/
theorem em_gtup {x : Str} {ad : Addr} {ns : List Int} (hm : X.mg x = some (.ref ad)) (hk : KT X.K ad (ns.map V.int)) (hg : Gl X x := by rfl) (hd : (x == ("__debug__" : Str)) = false := by decide) : Em X W ds (.Name x pos) (· = .tuple (ns.map .int)) :=
  em_of (pe_glob (v := .ref ad) hg hm rfl hd) fun σ G H ok env Q q => q _ _ G H (W.refl ok) (.tup (.inr hk) (Ds.ints ns)) rfl
/-! ### t.count(x) -/
def tyT (K : PySem.W.Frag) (x : V) (H : Hp) : Prop := ∃ a us, x = .ref a ∧ Tz K H a us
def tBMT (K : PySem.W.Frag) (r : V → List V → Hp → VK → Prop) (to : TE) (t : TA) : TE := fun σ H Q => to σ H fun x H1 => tyT K x H1 ∧ t σ H1 fun xs H2 => r x xs H2 Q
theorem tyT_is {pins : List (Addr × Obj)} {σ : L2.St} {H : Hp} {s : Shared} {x : V} {v : Value} (I : Inv X pins σ H s) (r : RelV x v) (ty : tyT X.K x H) :
    s.TypeIs v "tuple" ∧ ∀ a, v = .ref a → ∃ ob, s.heap.get? a = some ob ∧ ob.dict = none := by
  obtain ⟨a, us, rfl, h⟩ := ty
  cases r
  rcases h with ⟨ob, h, hd⟩ | ⟨ob, its, n, h1, h2, h3, h4, h5, h6⟩
  · obtain ⟨h1, _, its, _, ht⟩ := (show ObjOk X.prog X.w H s.heap a (.frz ob (.tup us)) from I.hok a _ h)
    refine ⟨ht.typeIs, fun b e => ?_⟩
    cases e
    exact ⟨ob, h1, hd⟩
  · have hg : s.heap.get? a = some ob := I.kIn _ _ h1
    refine ⟨⟨ob, hg, h2⟩, fun b e => ?_⟩
    cases e
    exact ⟨ob, hg, h3⟩
theorem pe_bmT {o e : Expr} {es : List Expr} {to : TE} {t : TA} {name : Str} {apos cpos : Pos} {id : String} {r : V → List V → Hp → VK → Prop} (slot : Slot "tuple" name id) (hty : typeOf (.builtin id) = pure (.type "method_descriptor")) (hm : MtR X id r) (ho : PE X o to) (ha : PA X (e :: es) t)
    (hbase : attributeBase o name X.env (eval o X.env) = eval o X.env := by rfl)
    (hfew : ((backTo cpos (starEach (e :: es) X.env)).all (fun x => !x.1) && (backToKw cpos (keywordEach [] X.env)).all (fun x => x.1.isSome)
      && decide ((e :: es).length + ([] : List Keyword).length + (if ([] : List Keyword).isEmpty then 0 else 1) < 30)) = true := by rfl)
    (hline : (apos.endLine == cpos.line) = true := by rfl) (hs : starEach (e :: es) X.env = (false, eval e X.env) :: starEach es X.env := by rfl) (hplain : (backTo cpos (starEach es X.env)).any (·.1) = false := by rfl) :
    PE X (.Call (.Attribute o name apos) (e :: es) [] cpos) (tBMT X.K r to t) := by
  refine ⟨fun pins s σ H Q I h => ?_⟩
  refine wpAny_Call_method_late hbase hfew hline rfl (thn (ho.run pins s σ H _ I h) fun v s1 ⟨x, H1, I1, r1, ty, q1⟩ => ?_)
  obtain ⟨h1, h2⟩ := tyT_is I1 r1 ty
  refine ⟨"tuple", id, PySem.F.plainAttrs_tuple, slot, hty, h1, h2, ?_⟩
  have hA := ha.run cpos pins s1 σ H1 _ I1 q1
  rw [hs] at hA ⊢
  refine Calls.callWith_builtin (by show (false || (backTo cpos (starEach es X.env)).any (·.1)) = false; rw [hplain] <;> rfl) (Calls.evalArgs_plain ?_)
  exact thn hA fun us s2 ⟨vs, H2, I2, r2, q2⟩ => hm pins s2 σ H2 x vs v us Q I2 r1 r2 q2
theorem em_count {as : List PyData} (hu : X.A.units + 64 < cLine) (ha : Em X W ds a (· = .tuple as)) (h1 : PyData.plainAll as = true) (h2 : d.plain = true) (hk : d.depth ≤ 50) (hb : Em X W ds b (· = d)) (ht : PA X [b] (tCons (uE X b) tNil) → PE X a (uE X a) → PE X (.Call (.Attribute a "count" p2) [b] [] pos) (tBMT X.K (rCntD X.K) (uE X a) (tCons (uE X b) tNil)))
    (hs : starEach [b] X.env = (false, eval b X.env) :: starEach [] X.env := by rfl) : Em X W ds (.Call (.Attribute a "count" p2) [b] [] pos) (· = .int ((as.countP fun z => PyData.eqv z d : Nat) : Int)) :=
  em_of (ht (pa_cons pe_u pa_nil hs) pe_u) fun σ G H ok env Q q => ha σ G H ok env _ fun v d' G1 H1 r1 hv e => by
    subst e
    cases hv with
    | @tup ad us _ hq hus =>
      refine ⟨⟨ad, us, rfl, hq.mono (W.sub (W.oks r1))⟩, hb σ G1 H1 (W.oks r1) (env.mono r1) _ fun y dy G2 H2 r2 hy e => ?_⟩
      subst e
      exact ⟨y, _, as, rfl, ddp _ _ (dmono ((W.g r2).trans (W.sub (W.oks r2))) _ _ (.tup hq hus)), ddp _ _ (dmono (W.sub (W.oks r2)) _ _ hy), h1, h2, hk, q _ _ G2 H2 (W.trans r1 r2) (.int _) rfl⟩
end
end Dn
namespace Dn
open PySem PySem.Spec PyProof.Rows L2
section
variable {X : Cx} {W : Wr} {G0 H0 : Hp} {ds : List Sl} {e a b c : Expr} {es : List Expr} {pos p2 p3 p4 p5 p6 : Pos} {P : PyData → Prop} {d : PyData} {N B C : NX} {r : RT} {rest body orelse : List Stmt} {st : Stmt} {i j : Int}
/-! ### 1 << n -/
theorem em_shl (h : CPow i j) (ha : Em X W ds a (· = .int i)) (hb : Em X W ds b (· = .int j)) : Em X W ds (.BinOp a .LShift b pos) (· = .int (i * 2 ^ j.toNat)) := em_opI (fun i j => .int (i * 2 ^ j.toNat)) op_shl (fun _ _ _ => .int _) ha hb fun _ _ hx hy => twoC h hx hy
/-! ### x < y < z in a test -/
theorem em_chainR {op op' : CmpOp} {g g' : Int → Int → Bool} {l : Int} (ha : Em X W ds a (· = .int i)) (hb : Em X W ds b (· = .int j)) (hc : Em X W ds c (· = .int l)) : EmR X.K W ds (tChain (rI0 fun i j => .bl (g i j)) (rI0 fun i j => .bl (g' i j)) (uE X a) (uE X b) (uE X c)) (· = .bool (g i j && g' j l)) := fun σ G H ok env Q q =>
  ha σ G H ok env _ fun x dx G1 H1 r1 hx px => hb σ G1 H1 (W.oks r1) (env.mono r1) _ fun y dy G2 H2 r2 hy py => by
    subst px
    subst py
    cases hx
    cases hy
    refine ⟨i, j, rfl, rfl, _, rfl, ?_⟩
    cases e : g i j with
    | true =>
      rw [if_pos rfl]
      refine hc σ G2 H2 (W.oks r2) ((env.mono r1).mono r2) _ fun z dz G3 H3 r3 hz pz => ?_
      subst pz
      cases hz
      exact ⟨j, l, rfl, rfl, q _ _ G3 H3 (W.trans (W.trans r1 r2) r3) (.bl _) (by rw [e] <;> rfl)⟩
    | false =>
      rw [if_neg Bool.false_ne_true]
      exact q _ _ G2 H2 (W.trans r1 r2) (.bl _) (by rw [e] <;> rfl)
theorem tm_chain {op op' : CmpOp} {g g' : Int → Int → Bool} {l : Int} (ho : OpR X (compareOp op) (rI0 fun i j => .bl (g i j))) (ho' : OpR X (compareOp op') (rI0 fun i j => .bl (g' i j))) (ha : Em X W ds a (· = .int i)) (hb : Em X W ds b (· = .int j)) (hc : Em X W ds c (· = .int l))
    (hm : lastMarks [op, op'] [b, c] = false := by with_unfolding_all rfl) : Tm X W ds (.Compare a [op, op'] [b, c] pos) (· = (g i j && g' j l)) := tm_of (pt_chain ho ho' pe_u pe_u pe_u hm) fun σ G H ok env Q q =>
  em_chainR (op := op) (op' := op') ha hb hc σ G H ok env _ fun v d G1 H1 r1 hd e => by
    subst e
    cases hd
    exact ⟨_, rfl, q _ G1 H1 r1 rfl⟩
/-! ### i not in (.., i, ..) -/
theorem tm_notInI {ns : List Int} (ha : Em X W ds a (· = .int i)) (hb : Em X W ds b (· = .tuple (ns.map .int))) (h : i ∈ ns) (hm : behindInMarks .NotIn b = false := by rfl) : Tm X W ds (.Compare a [.NotIn] [b] pos) (· = false) := tm_cmp op_notIn_seq hm (em_op2 ha hb fun G H u v dx dy ok hx hy px py Q q => by
  subst px
  subst py
  cases hx
  cases hy with
  | @tup ad us _ hq hs =>
    have e := hs.intsV
    subst e
    refine ⟨ad, _, rfl, .inr (hq.sq (W.sub ok)), rfl, ?_, q _ _ G H (W.refl ok) (.bl _) ⟨false, ?_, rfl⟩⟩
    · rw [List.all_map, List.all_eq_true]
      exact fun _ _ => rfl
    · have : inV (.int i) (ns.map V.int) = true := by
        unfold inV
        rw [List.any_map, List.any_eq_true]
        exact ⟨i, h, by simp [eqV]⟩
      rw [this]
      rfl)
/-! ### x += e, x -= e -/
theorem bm_augI {op : Operator} {g : Int → Int → Int} {u : Int} {Pe : Int → Prop} (n : Nat) {x : Str} (ho : OpR X (inplaceOp op) (rI0 fun i j => .int (g i j))) (hn : ds[n]? = some (.dat (.int u))) (he : Em X W ds e (fun d => ∃ v, d = .int v ∧ Pe v)) (k : ∀ v, Pe v → Bm X W G0 H0 (ds.set n (.dat (.int (g u v)))) rest N B C r) (hN : X.N.Nodup) (hi : X.N[n]? = some x := by rfl) (hx : Loc X.env.scope x := by first | exact Or.inl rfl | exact Or.inr rfl)
    (hf : X.fn x = true ∨ X.env.scope.names.lookup x = some .local := by first | exact .inl rfl | exact .inr rfl) (hs : PS X (.AugAssign (.Name x p2) op e pos) (tAug n (uE X e) (rI0 fun i j => .int (g i j)))) : Bm X W G0 H0 ds (.AugAssign (.Name x p2) op e pos :: rest) N B C r :=
  bm_st (N1 := fun ds' => ∃ v, Pe v ∧ ds' = ds.set n (.dat (.int (g u v)))) hs (fun Gb σ G H D s env nx b cc q => by
    obtain ⟨y, e1, v, e2, hv⟩ := env.at hn
    subst e2
    cases hv
    refine ⟨.int u, e1, he σ G H s.ok env _ fun w d G1 H1 r1 hw ⟨z, ez, pz⟩ => ?_⟩
    subst ez
    cases hw
    exact ⟨u, z, rfl, rfl, nx _ _ G1 H1 (s.to r1) ((env.mono r1).set n (.dat (.int _))) ⟨z, pz, rfl⟩⟩) fun ds' ⟨v, p, e⟩ => by
    rw [e]
    exact k v p
/-! ### for x in reversed(range(e)) -/
theorem bm_forRev {N1 : NX} (i : Nat) {x : Str} {z : Nat} (ha : Em X W ds a (· = .int z)) (hz : z < 2 ^ 62) (I : Nat → List Sl → Prop) (h0 : I 0 ds) (hp : PassesOwn (model X.prog X.w) X.A X.env X.xe) (hc : X.calm = true)
    (hs : ∀ (n : Nat) ds', n < z → I n ds' → Bm X W G0 H0 (ds'.set i (.dat (.int ((z - 1 - n : Nat) : Int)))) body (I (n + 1)) N1 (I (n + 1)) r) (hd : ∀ ds', I z ds' → N1 ds') (k : ∀ ds', N1 ds' → Bm X W G0 H0 ds' rest N B C r) (hm : X.mg "range" = none) (hmr : X.mg "reversed" = none) (hN : X.N.Nodup) (hi : X.N[i]? = some x := by rfl) (hx : Loc X.env.scope x := by first | exact Or.inl rfl | exact Or.inr rfl)
    (hf : X.fn x = true ∨ X.env.scope.names.lookup x = some .local := by first | exact .inl rfl | exact .inr rfl) (hg : Gl X "range" := by rfl) (hgr : Gl X "reversed" := by rfl) (hs1 : starEach [a] X.env = (false, eval a X.env) :: starEach [] X.env := by rfl)
    (hs2 : starEach [.Call (.Name "range" p3) [a] [] p4] X.env = (false, eval (.Call (.Name "range" p3) [a] [] p4) X.env) :: starEach [] X.env := by rfl) (hs' : ∀ x, foldedSetIterable (.Call (.Name "reversed" p5) [.Call (.Name "range" p3) [a] [] p4] [] p6) X.env x = pure x := by intro _; rfl) :
    Bm X W G0 H0 ds (.For (.Name x p2) (.Call (.Name "reversed" p5) [.Call (.Name "range" p3) [a] [] p4] [] p6) body [] pos :: rest) N B C r :=
  bm_st (ps_for hp hc (pi_revR hgr hmr (prg_1 hg hm pe_u hs1) hs2) (pg_name (i := i) hN hi hx hf) pss_u hs') (fun Gb σ G H D s env n b cc q => ha σ G H s.ok env _ fun v d G1 H1 r1 hv e => by
    subst e
    cases hv
    refine ⟨z, rfl, by omega, by omega, ?_⟩
    have ez : ((z : Int) - 0).toNat = z := by omega
    rw [ez]
    refine ⟨by omega, by omega, for_rangeC (fun n σ' H' => ∃ ds' G', At W Gb G0 H0 G' H' ∧ EnvOk X.K W G' H' ds' σ' ∧ I n ds') ⟨ds, G1, s.to r1, env.mono r1, h0⟩ ?_ ?_⟩
    · rintro m σ' H' hm ⟨ds', G', s', env', hI⟩
      have e0 : (0 : Int) + (z : Int) - 1 + (m : Nat) * (-1) = ((z - 1 - m : Nat) : Int) := by omega
      show uB X body _ (σ'.set i (some (.int ((0 : Int) + (z : Int) - 1 + (m : Nat) * (-1))))) H'
      rw [e0]
      exact hs m ds' hm hI Gb _ G' H' _ s' (env'.set i (.dat (.int _))) (fun ds2 σ2 G3 H3 s3 e3 p => ⟨ds2, G3, s3, e3, p⟩) (fun ds2 σ2 G3 H3 s3 e3 p => n ds2 σ2 G3 H3 s3 e3 p) (fun ds2 σ2 G3 H3 s3 e3 p => ⟨ds2, G3, s3, e3, p⟩) q
    · rintro σ' H' ⟨ds', G', s', env', hI⟩
      exact n ds' σ' G' H' s' env' (hd ds' hI)) k
/-! ### promises by a value that stands for the arguments -/
/-- of data, to data -/
def spQ {α : Type} (enc : α → List PyData) (pre : α → Prop) (post : α → PyData → Prop) : KSp := fun K vs H Q _ => ∃ G x, Same G H ∧ Ds K G vs (enc x) ∧ pre x ∧ ∀ v d G' H', Stp G H G' H' → Dd K G' v d → post x d → Q v H'
theorem em_callQ {α : Type} {enc : α → List PyData} {pre : α → Prop} {post : α → PyData → Prop} (v : α) {x : Str} {k : Nat} {ps : List Str} (F : Fk X.prog X.w X.K X.mg X.base x k ps (spQ enc pre post)) (hr : Room k X.A) (ha : Am X W ds (e :: es) (· = enc v)) (hp : pre v) (hg : Gl X x := by rfl)
    (hdb : (x == ("__debug__" : Str)) = false := by decide) (he : starEach (e :: es) X.env = (false, eval e X.env) :: starEach es X.env := by rfl) (hpl : (backTo pos (starEach es X.env)).any (·.1) = false := by rfl) : Em X W ds (.Call (.Name x p2) (e :: es) [] pos) (post v) := by
  obtain ⟨f, fd, G, hm, hk, hb⟩ := F.ex
  refine em_of (pe_call G hr hg hm hk hb .nil pass0 pa_u hdb he hpl) fun σ G0 H0 ok env Q q => ha σ G0 H0 ok env _ fun vs as G1 H1 r1 hs p => ?_
  subst p
  rw [List.append_nil]
  exact ⟨G1, v, W.sub (W.oks r1), hs, hp, fun u d G2 H2 st hd hpo => q u d G2 H2 (W.trans r1 (W.step (W.oks r1) st)) hd hpo⟩
/-- .. a function of them -/
abbrev spG {α : Type} (enc : α → List PyData) (pre : α → Prop) (g : α → PyData) : KSp := spQ enc pre fun v d => d = g v
theorem em_callG {α : Type} {enc : α → List PyData} {pre : α → Prop} {g : α → PyData} (v : α) {x : Str} {k : Nat} {ps : List Str} (F : Fk X.prog X.w X.K X.mg X.base x k ps (spG enc pre g)) (hr : Room k X.A) (ha : Am X W ds (e :: es) (· = enc v)) (hp : pre v) (hv : g v = d := by rfl) (hg : Gl X x := by rfl)
    (hdb : (x == ("__debug__" : Str)) = false := by decide) (he : starEach (e :: es) X.env = (false, eval e X.env) :: starEach es X.env := by rfl) (hpl : (backTo pos (starEach es X.env)).any (·.1) = false := by rfl) : Em X W ds (.Call (.Name x p2) (e :: es) [] pos) (· = d) :=
  em_mono (em_callQ v F hr ha hp hg hdb he hpl) fun _ z => z.trans hv
/-- .. where the arguments are only partly known -/
theorem em_callQ' {α : Type} {enc : α → List PyData} {pre : α → Prop} {post : α → PyData → Prop} {Pa : List PyData → Prop} {x : Str} {k : Nat} {ps : List Str} (F : Fk X.prog X.w X.K X.mg X.base x k ps (spQ enc pre post)) (hr : Room k X.A) (ha : Am X W ds (e :: es) Pa) (hp : ∀ as, Pa as → ∃ v, as = enc v ∧ pre v ∧ ∀ d, post v d → P d) (hg : Gl X x := by rfl)
    (hdb : (x == ("__debug__" : Str)) = false := by decide) (he : starEach (e :: es) X.env = (false, eval e X.env) :: starEach es X.env := by rfl) (hpl : (backTo pos (starEach es X.env)).any (·.1) = false := by rfl) : Em X W ds (.Call (.Name x p2) (e :: es) [] pos) P := by
  obtain ⟨f, fd, G, hm, hk, hb⟩ := F.ex
  refine em_of (pe_call G hr hg hm hk hb .nil pass0 pa_u hdb he hpl) fun σ G0 H0 ok env Q q => ha σ G0 H0 ok env _ fun vs as G1 H1 r1 hs p => ?_
  obtain ⟨v, ev, h1, h2⟩ := hp as p
  subst ev
  rw [List.append_nil]
  exact ⟨G1, v, W.sub (W.oks r1), hs, h1, fun u d G2 H2 st hd hpo => q u d G2 H2 (W.trans r1 (W.step (W.oks r1) st)) hd (h2 d hpo)⟩
end
section
variable {P : Program} {w : World} {K : PySem.W.Frag} {mg : Str → Option Value} {base : Heap} {x qual : Str} {params : Arguments} {body : List Stmt} {scope : Scope} {f : Addr} {fd : FuncData} {N ps : List Str} {k : Nat}
theorem fn_Q {α : Type} {enc : α → List PyData} {pre : α → Prop} {post : α → PyData → Prop} (F : FunD K x qual params body scope [] [] f fd) (S : FnScope N ps scope) (hl : ∀ v, (enc v).length = ps.length)
    (hb : ∀ (cdv : Value) (A : Around) (outer : List Env) (s : Shared) (H : Hp) (E : XK) (G : Hp) (v : α), Room k (A.deeper (envOfC qual scope s.heap.objs.size f cdv)) → Same G H → pre v →
      Bm (Cx0 P w K mg base N qual scope f cdv A outer s H E) pw G H (sl0 N (enc v)) body (fun _ => post v .none) nono nono (rD K (post v))) : FnO P w K mg base (k + 1) f fd ps (spQ enc pre post) := by
  refine F.ok S (fun vs H Q E ⟨G, v, sm, hd, p, _⟩ => by rw [hd.len]; exact hl v) fun cdv A outer s H vs Q E hr ⟨G, v, sm, hd, p, q⟩ => ?_
  obtain ⟨t, ht, h⟩ := hb cdv A outer s H E G v hr sm p G (start N vs) G H { nx := fun _ H' => Q .non H', rt := Q } ⟨.refl _, .refl sm⟩ (env0 hd) (fun ds' σ' G2 H2 s2 _ p2 => q .non .none G2 H2 s2.r .non p2) (fun _ _ _ _ _ _ z => z.elim) (fun _ _ _ _ _ _ z => z.elim) fun u G2 H2 s2 ⟨d, hd2, p2⟩ => q u d G2 H2 s2 hd2 p2
  exact ⟨t, ht.nox, h⟩
end
end Dn
namespace Dn
open PySem PySem.Spec PyProof.Rows L2
section
variable {X : Cx} {W : Wr} {G0 H0 : Hp} {ds : List Sl} {e a b c : Expr} {es : List Expr} {pos p2 p3 p4 p5 p6 : Pos} {P : PyData → Prop} {d : PyData} {N B C : NX} {r : RT} {rest body orelse : List Stmt} {st : Stmt} {i j : Int}
theorem em_catT' {Pa Pb : PyData → Prop} (ha : Em X W ds a Pa) (hb : Em X W ds b Pb) (k : ∀ x y, Pa x → Pb y → ∃ as bs, x = .tuple as ∧ y = .tuple bs ∧ as.length + bs.length ≤ 1000 ∧ P (.tuple (as ++ bs))) : Em X W ds (.BinOp a .Add b pos) P := em_of (pe_op op_catZ pe_u pe_u) (em_op2 ha hb fun G H u v dx dy ok hx hy px py Q q => by
  obtain ⟨as, bs, rfl, rfl, hz, p⟩ := k dx dy px py
  cases hx with
  | @tup _ us _ h1 d1 => cases hy with
    | @tup _ ws _ h2 d2 =>
      refine ⟨_, _, us, ws, rfl, rfl, h1.sq (W.sub ok), h2.sq (W.sub ok), Nat.le_of_lt (small1000 (by rw [d1.len, d2.len]; exact hz)), fun z => ?_, fun z => ?_, fun p' ob hp hob => ?_⟩
      · subst z
        cases d1
        exact q _ _ G H (W.refl ok) (.tup h2 d2) p
      · subst z
        cases d2
        rw [List.append_nil] at p
        exact q _ _ G H (W.refl ok) (.tup h1 d1) p
      · have st := Stp.new (o := .frz ob (.tup (us ++ ws))) (W.sub ok) hp
        exact q _ _ _ _ (W.step ok st) (.tup (.new hob) (dmonoAll st.g _ _ (d1.app d2))) p)
theorem em_sliceT' {Pa : PyData → Prop} {lo hi : Option Expr} {l h : Option Int} (ha : Em X W ds a Pa) (hl : Om X W ds lo l) (hh : Om X W ds hi h) (k : ∀ x, Pa x → ∃ as, x = .tuple as ∧ P (.tuple (cutD as l h))) : Em X W ds (.Subscript a (.Slice lo hi none p2) pos) P := by
  obtain ⟨tl, pl, ml⟩ := hl
  obtain ⟨th, ph, mh⟩ := hh
  refine em_of (pe_slice sl_tupZ pe_u pl ph) fun σ G H ok env Q q => ha σ G H ok env _ fun v d G1 H1 r1 hd e => ml σ G1 H1 (W.oks r1) (env.mono r1) _ fun G2 H2 r2 => mh σ G2 H2 (W.oks r2) ((env.mono r1).mono r2) _ fun G3 H3 r3 => ?_
  obtain ⟨as, rfl, p⟩ := k d e
  cases hd with
  | @tup _ us _ hq hs =>
    have g3 := dmonoAll ((W.g r2).trans (W.g r3)) _ _ hs
    have hq3 := (hq.mono (W.g r2)).mono (W.g r3)
    have R := W.trans (W.trans r1 r2) r3
    refine ⟨_, us, rfl, hq3.sq (W.sub (W.oks r3)), fun z => ?_, fun p' ob hp hob => ?_⟩
    · exact q _ _ G3 H3 R (.tup hq3 (z ▸ g3.cut l h)) p
    · have st := Stp.new (o := .frz ob (.tup (cutV us l h))) (W.sub (W.oks r3)) hp
      exact q _ _ _ _ (W.trans R (W.step (W.oks r3) st)) (.tup (.new hob) (dmonoAll st.g _ _ (g3.cut l h))) p
/-- a, b, c = x, y, z -/
theorem bm_par3 (i j l : Nat) {x y z : Str} {n m : Nat} {Pa : List PyData → Prop} (ha : Am X W ds [a, b, c] Pa) (k : ∀ as, Pa as → ∃ u v t, as = [u, v, t] ∧ Bm X W G0 H0 (((ds.set i (.dat u)).set j (.dat v)).set l (.dat t)) rest N B C r) (hc : X.calm = true) (hN : X.N.Nodup) (hi : X.N[i]? = some x := by rfl) (hj : X.N[j]? = some y := by rfl) (hl : X.N[l]? = some z := by rfl) (hij : i ≠ j := by decide) (hil : i ≠ l := by decide) (hjl : j ≠ l := by decide)
    (hx : X.env.scope.names.lookup x = some .local := by rfl) (hy : X.env.scope.names.lookup y = some .local := by rfl) (hz : X.env.scope.names.lookup z = some .local := by rfl) (hw : swappedStores [.Tuple [.Name x p2, .Name y p3, .Name z p4] n p5] (.Tuple [a, b, c] m p6) X.env = pure (some [x, y, z]) := by rfl)
    (hs : swapsWithSole [.Tuple [.Name x p2, .Name y p3, .Name z p4] n p5] (.Tuple [a, b, c] m p6) pos.line X.env = pure false := by rfl) : Bm X W G0 H0 ds (.Assign [.Tuple [.Name x p2, .Name y p3, .Name z p4] n p5] (.Tuple [a, b, c] m p6) pos :: rest) N B C r :=
  bm_st (N1 := fun ds' => ∃ u v t, Pa [u, v, t] ∧ ds' = ((ds.set i (.dat u)).set j (.dat v)).set l (.dat t)) (ps_par3 hc hN hi hj hl hij hil hjl hx hy hz pa_u hw hs) (fun Gb σ G H D s env n b c q => ha σ G H s.ok env _ fun vs as G2 H2 r2 hd p => by
    obtain ⟨u, w, t, rfl, _⟩ := k as p
    cases hd with
    | cons h1 hd => cases hd with
      | cons h2 hd => cases hd with
        | cons h3 hd => cases hd with
          | nil =>
            rename_i v1 v2 v3
            exact ⟨v1, v2, v3, rfl, n _ _ G2 H2 (s.to r2) ((((env.mono r2).set i (.dat h1)).set j (.dat h2)).set l (.dat h3)) ⟨u, w, t, p, rfl⟩⟩) fun ds' ⟨u, v, t, p, e⟩ => by
    obtain ⟨u', v', t', e2, h⟩ := k _ p
    injection e2 with e2 e3
    injection e3 with e3 e4
    injection e4 with e4 e5
    subst e2
    subst e3
    subst e4
    rw [e]
    exact h
/-- [elt for x in list if c] -/
theorem em_lcF1 {elt : Expr} (i : Nat) {x : Str} {scope : Scope} {as : List PyData} (h : PyData → Option PyData) (ha : Em X W ds a (· = .list as))
    (hh : ∀ (s : Shared) (H : Hp) (C : Addr) (cl : List (Str × Addr)) (fp : List Addr) (n : Nat) (u : PyData), as[n]? = some u → ∃ b, Tm (blkC X scope s H C cl fp) W (ds.set i (.dat u)) c (· = b) ∧ (b = false → h u = none) ∧ (b = true → ∃ z, h u = some z ∧ ∀ (s : Shared) (H : Hp) (C : Addr) (cl : List (Str × Addr)) (fp : List Addr), Em (blkC X scope s H C cl fp) W (ds.set i (.dat u)) elt (· = z)))
    (hz : as.length < 40000) (hc : X.calm = true) (hN : X.N.Nodup) (ok : BlkOk X.N X.env.scope scope [(x, i)])
    (hg : ∀ (s : Shared) (H : Hp) (C : Addr) (cl : List (Str × Addr)) (fp : List Addr), PG (blkC X scope s H C cl fp) (.Name x p2) (gName i)) (hs : ∀ x, foldedSetIterable a X.env x = pure x := by intro _; rfl) :
    Em X W ds (.ListComp elt [⟨.Name x p2, a, [c], 0⟩] scope pos) (· = .list (as.filterMap h)) :=
  em_of (pe_lc hc hN (pi_list pe_u) ok hg (fun s H C cl fp => pts_one (pt_uTB s H C cl fp)) pe_uEB hs) fun σ G H okW env Q q => ha σ G H okW env _ fun u d G1 H1 r1 hu e => by
    subst e
    cases hu with
    | @lst ad us _ hq hus =>
      refine ⟨ad, rfl, ⟨us, .inl (.inl (W.sub (W.oks r1) _ _ hq))⟩, fun D hD => lc_list (K := X.K) (xs := us) (fun n H' => LcJ X.K W G H ds σ G1 D ((as.take n).filterMap h) H') (lcj_start r1 env hD) (fun n H' _ h => ?_) (fun n y H' hi hJ => ?_) fun H' hJ => ?_⟩
      · obtain ⟨G', vs, r, g1, env, gD, hv, hd⟩ := h.ex
        exact .inl (.inl (W.sub (W.oks r) _ _ (g1 _ _ hq)))
      · obtain ⟨G', vs, r, g1, env', gD, hv, hd⟩ := hJ.ex
        obtain ⟨dd, e1, e2⟩ := hus.atV hi
        have hlt : n < us.length := (List.getElem?_eq_some_iff.mp hi).1
        have hlen : ((as.take n).filterMap h).length < 40000 := Nat.lt_of_le_of_lt (Nat.le_trans (List.length_filterMap_le ..) (by rw [List.length_take]; exact Nat.min_le_right ..)) hz
        have e2 := dmono g1 _ _ e2
        have step := filterMap_take h as e1
        have hDn := W.fresh r1 hD
        have sbD := W.new (W.oks r1) hD
        show wipe ((wipe σ [i]).set i (some y)) [i] = wipe σ [i] ∧ _
        refine ⟨by rw [wipe_set]; exact wipe_back σ i y, fun s0 H0 C cl fp => ?_⟩
        show uT _ c ((wipe σ [i]).set i (some y)) H' _
        rw [wipe_set]
        obtain ⟨b, hb, hf, ht'⟩ := hh s0 H0 C cl fp n dd e1
        have envB : EnvOk X.K W G' H' (ds.set i (.dat dd)) (σ.set i (some y)) := env'.set i (.dat e2)
        refine hb _ G' H' (W.oks r) envB _ fun b' G4 H4 r4 e => ?_
        subst e
        cases b' with
        | false =>
          rw [if_neg Bool.false_ne_true, step, hf rfl]
          obtain ⟨h4, g4⟩ := W.own r4 sbD gD hv
          show LcJ X.K W G H ds σ G1 D ((as.take n).filterMap h ++ []) H4
          rw [List.append_nil]
          exact ⟨G4, vs, W.trans r r4, g1.trans (W.g r4), env'.mono r4, g4, h4, dmonoAll (W.g r4) _ _ hd⟩
        | true =>
          rw [if_pos rfl]
          obtain ⟨z, ez, hE⟩ := ht' rfl
          rw [step, ez]
          intro s5 H5 C5 cl5 fp5
          show uE _ elt ((wipe σ [i]).set i (some y)) H4 _
          rw [wipe_set]
          obtain ⟨h4, g4⟩ := W.own r4 sbD gD hv
          exact hE s5 H5 C5 cl5 fp5 _ G4 H4 (W.oks r4) (envB.mono r4) _ fun y d G6 H6 r6 hy py => by
            subst py
            exact lcj_turn hDn sbD env (W.trans r r4) (g1.trans (W.g r4)) (env'.mono r4) g4 h4 (dmonoAll (W.g r4) _ _ hd) hlen r6 hy
      · have hJ : LcJ X.K W G H ds σ G1 D ((as.take us.length).filterMap h) H' := hJ
        rw [hus.len, List.take_length] at hJ
        exact lcj_end (P := (· = .list (as.filterMap h))) (W.fresh r1 hD) (W.new (W.oks r1) hD) rfl q hJ
/-- own != data, own == data -/
theorem tm_neO {k : Nat} (n : Nat) {x : Str} {ad : Addr} {xs : List PyData} (hr : Room k X.A) (hn : ds[n]? = some (.own ad xs)) (s : SeqAt.shaped (.list xs) = true) (s' : SeqAt.shaped d = true) (hb : Em X W ds b (· = d)) (hN : X.N[n]? = some x := by rfl) (hv : Vis X.env.scope x := by first | exact Or.inl rfl | exact Or.inr (Or.inl rfl) | exact Or.inr (Or.inr rfl)) (hd : (x == ("__debug__" : Str)) = false := by decide) (hcd : (x == ("__classdict__" : Str)) = false := by decide) :
    Tm X W ds (.Compare (.Name x p2) [.NotEq] [b] pos) (· = !PyData.eqv (.list xs) d) := tm_of (pt_cmpR (op_neD hr.units) (pv n hN hv hd hcd) pe_u (nomark _)) fun σ G H ok env Q q => by
  obtain ⟨y, e1, e2, g, st, vs, hv, hd⟩ := env.at hn
  refine ⟨.ref ad, by rw [e1, e2], hb σ G H ok env _ fun v d' G2 H2 r2 hd2 e => ?_⟩
  subst e
  obtain ⟨h2, g2⟩ := W.own r2 st g hv
  exact ⟨_, _, .lst (.inl (.inl h2)) (ddpAll _ _ (dmonoAll ((W.g r2).trans (W.sub (W.oks r2))) _ _ hd)), ddp _ _ (dmono (W.sub (W.oks r2)) _ _ hd2), s, s', _, rfl, q _ G2 H2 r2 rfl⟩
end
end Dn
namespace Dn
open PySem PySem.Spec PyProof.Rows L2
/-! ## tubs kept: instances of a class with two lists -/
abbrev kC (K : PySem.W.Frag) : Addr := He.ga K "Kept"
/-- what of the text the class must have -/
structure KCl (K : PySem.W.Frag) : Prop where
  cl : Cls K (kC K)
  nP : NoAttr K (kC K) "parts"
  nM : NoAttr K (kC K) "made"
  nS : NoAttr K (kC K) "shares"
theorem n_pm : ¬ (("parts" : Str) = "made") := by decide +kernel
theorem n_ps : ¬ (("parts" : Str) = "shares") := by decide +kernel
theorem n_ms : ¬ (("made" : Str) = "shares") := by decide +kernel
theorem kfs_eq (q : Kq) (vp : V) : putF "shares" (.ref q.ls) (putF "made" (.ref q.lm) (putF "parts" vp [])) = q.fs vp := by
  show putF "shares" (V.ref q.ls) (if ("parts" : Str) = "made" then _ else (("parts" : Str), vp) :: putF "made" (.ref q.lm) []) = _
  rw [if_neg n_pm]
  show (if ("parts" : Str) = "shares" then _ else (("parts" : Str), vp) :: (if ("made" : Str) = "shares" then _ else (("made" : Str), V.ref q.lm) :: putF "shares" (.ref q.ls) [])) = _
  rw [if_neg n_ps, if_neg n_ms]
  rfl
theorem kfs_parts (q : Kq) (vp : V) : (q.fs vp).lookup ("parts" : Str) = some vp := by
  rw [← kfs_eq, lookup_putF, if_neg n_ps, lookup_putF, if_neg n_pm, lookup_putF, if_pos rfl]
theorem kfs_made (q : Kq) (vp : V) : (q.fs vp).lookup ("made" : Str) = some (.ref q.lm) := by
  rw [← kfs_eq, lookup_putF, if_neg n_ms, lookup_putF, if_pos rfl]
theorem kfs_shares (q : Kq) (vp : V) : (q.fs vp).lookup ("shares" : Str) = some (.ref q.ls) := by
  rw [← kfs_eq, lookup_putF, if_pos rfl]
theorem kfs_no (q : Kq) (vp : V) {m : Str} (h1 : ¬ m = "parts") (h2 : ¬ m = "made") (h3 : ¬ m = "shares") : (q.fs vp).lookup m = none := by
  rw [← kfs_eq, lookup_putF, if_neg h3, lookup_putF, if_neg h2, lookup_putF, if_neg h1]
  rfl
/-- the heap without the two lists -/
def offK (q : Kq) (H : Hp) : Hp := fun a => if a = q.lm ∨ a = q.ls then none else H a
theorem offK_lm {q : Kq} {H : Hp} : offK q H q.lm = none := if_pos (.inl rfl)
theorem offK_ls {q : Kq} {H : Hp} : offK q H q.ls = none := if_pos (.inr rfl)
theorem offK_ne {q : Kq} {H : Hp} {a : Addr} (h1 : a ≠ q.lm) (h2 : a ≠ q.ls) : offK q H a = H a := if_neg (fun z => z.elim h1 h2)
theorem offK_sub {q : Kq} {H : Hp} : Same (offK q H) H := fun a o e => by
  unfold offK at e
  split at e
  · cases e
  · exact e
theorem KqAt.cast {K : PySem.W.Frag} {W : Wr} {G H : Hp} {q : Kq} {pt : PyData} {ms ss : List PyData} (h : KqAt K W G H q pt ms ss) : KqAt K pwk G H q pt ms ss := ⟨h.go, h.gd, h.gm, h.gs, trivial, trivial, trivial, trivial, h.ne, h.ex⟩
theorem KqAt.back {K : PySem.W.Frag} {W : Wr} {G H G' H' : Hp} {q : Kq} {pt pt' : PyData} {ms ss ms' ss' : List PyData} (h : KqAt K pwk G' H' q pt' ms' ss') (h0 : KqAt K W G H q pt ms ss) : KqAt K W G' H' q pt' ms' ss' := ⟨h.go, h.gd, h.gm, h.gs, h0.to, h0.td, h0.tm, h0.ts, h.ne, h.ex⟩
theorem SlOk.off {K : PySem.W.Frag} {W : Wr} {G H H' : Hp} {s : Sl} {x : Option V} (z : SlOk K W G H s x) (hf : ∀ a ∈ s.foot, H' a = H a) : SlOk K W G H' s x := by
  cases s with
  | un => trivial
  | dat d => exact z
  | raw v => exact z
  | scr K1 a ns => exact z
  | own a xs =>
    obtain ⟨e1, g, st, us, hu, hd⟩ := z
    exact ⟨e1, g, st, us, (hf a (List.mem_cons_self ..)).trans hu, hd⟩
  | kep q pt ms ss =>
    obtain ⟨e, fl, k⟩ := z
    obtain ⟨vp, us, vs, h1, h2, h3, h4, h5⟩ := k.ex
    exact ⟨e, fl, k.go, k.gd, k.gm, k.gs, k.to, k.td, k.tm, k.ts, k.ne, vp, us, vs, (hf _ (by simp [Sl.foot])).trans h1, (hf _ (by simp [Sl.foot])).trans h2, (hf _ (by simp [Sl.foot])).trans h3, (hf _ (by simp [Sl.foot])).trans h4, h5⟩
/-- the lists of one slot changed -/
theorem EnvOk.kcall {K : PySem.W.Frag} {W : Wr} {G H H1 G2 H2 : Hp} {ds : List Sl} {σ : L2.St} {i : Nat} {q : Kq} {pt : PyData} {ms ss ms' ss' : List PyData} (h : EnvOk K W G H ds σ) (hi : ds[i]? = some (.kep q pt ms ss))
    (hn : ∀ (j : Nat) s, j ≠ i → ds[j]? = some s → ∀ a ∈ s.foot, a ≠ q.lm ∧ a ≠ q.ls) (hH : ∀ a, a ≠ q.lm → a ≠ q.ls → H1 a = H a) (r : W.R G H1 G2 H2) (hk : KqAt K W G2 H2 q pt ms' ss') : EnvOk K W G2 H2 (ds.set i (.kep q pt ms' ss')) σ := by
  refine ⟨by rw [List.length_set]; exact h.1, fun j t y p z => ?_⟩
  by_cases e : i = j
  · subst e
    rw [List.getElem?_set_self', hi] at p
    cases p
    have w := h.2 i _ _ hi z
    exact ⟨w.1, w.2.1, hk⟩
  · rw [List.getElem?_set_ne e] at p
    refine (SlOk.off (h.2 j t y p z) fun a ha => ?_).mono r
    obtain ⟨h1, h2⟩ := hn j t (Ne.symm e) p a ha
    exact hH a h1 h2
section
variable {X : Cx} {W : Wr} {G0 H0 : Hp} {ds : List Sl} {e a b c : Expr} {es : List Expr} {pos p2 p3 p4 p5 p6 : Pos} {P : PyData → Prop} {d : PyData} {N B C : NX} {r : RT} {rest body orelse : List Stmt} {st : Stmt} {q : Kq} {pt : PyData} {ms ss : List PyData}
/-! ### fields read -/
theorem em_kparts (n : Nat) {x : Str} (T : KCl X.K) (hq : q.C = kC X.K) (hn : ds[n]? = some (.kep q pt ms ss)) (hN : X.N[n]? = some x := by rfl) (hv : Vis X.env.scope x := by first | exact Or.inl rfl | exact Or.inr (Or.inl rfl) | exact Or.inr (Or.inr rfl)) (hd : (x == ("__debug__" : Str)) = false := by decide) (hcd : (x == ("__classdict__" : Str)) = false := by decide)
    (hb : attributeBase (.Name x p2) "parts" X.env (eval (.Name x p2) X.env) = eval (.Name x p2) X.env := by rfl) : Em X W ds (.Attribute (.Name x p2) "parts" pos) (· = pt) := em_of (pe_fld (pv n hN hv hd hcd) hb) fun σ G H ok env Q k => by
  obtain ⟨z, e1, e2, _, h⟩ := env.at hn
  obtain ⟨vp, us, vs, h1, h2, h3, h4, h5, h6, h7⟩ := h.ex
  exact ⟨.ref q.o, by rw [e1, e2], q.o, _, q.dx, _, vp, rfl, h1, hq ▸ T.cl, hq ▸ T.nP, kfs_parts q vp, k _ _ G H (W.refl ok) h5 rfl⟩
theorem em_klen (n : Nat) {x : Str} (T : KCl X.K) (hq : q.C = kC X.K) (hn : ds[n]? = some (.kep q pt ms ss)) (hm : X.mg "len" = none) (hN : X.N[n]? = some x := by rfl) (hv : Vis X.env.scope x := by first | exact Or.inl rfl | exact Or.inr (Or.inl rfl) | exact Or.inr (Or.inr rfl)) (hd : (x == ("__debug__" : Str)) = false := by decide) (hcd : (x == ("__classdict__" : Str)) = false := by decide)
    (hb : attributeBase (.Name x p2) "made" X.env (eval (.Name x p2) X.env) = eval (.Name x p2) X.env := by rfl)
    (hg : Gl X "len" := by rfl) (hs : starEach [.Attribute (.Name x p2) "made" p3] X.env = (false, eval (.Attribute (.Name x p2) "made" p3) X.env) :: starEach [] X.env := by rfl) (hpl : (backTo pos (starEach [] X.env)).any (·.1) = false := by rfl) : Em X W ds (.Call (.Name "len" p4) [.Attribute (.Name x p2) "made" p3] [] pos) (· = .int ms.length) :=
  em_of (pe_callB call_len_seq hg hm PySem.boot_len (pa_cons (pe_fld (pv n hN hv hd hcd) hb) pa_nil hs) (he := hs) (hpl := hpl)) fun σ G H ok env Q k => by
    obtain ⟨z, e1, e2, _, h⟩ := env.at hn
    obtain ⟨vp, us, vs, h1, h2, h3, h4, h5, h6, h7⟩ := h.ex
    exact ⟨.ref q.o, by rw [e1, e2], q.o, _, q.dx, _, _, rfl, h1, hq ▸ T.cl, hq ▸ T.nM, kfs_made q vp, q.lm, us, rfl, .inl (.inl (.inl h3)), k _ _ G H (W.refl ok) (.int _) (by rw [h6.len])⟩
/-- x.shares[..] -/
theorem em_kix (n : Nat) {x : Str} {i : Int} (T : KCl X.K) (hq : q.C = kC X.K) (hn : ds[n]? = some (.kep q pt ms ss)) (ha : Em X W ds a (· = .int i)) (hz : L2.atI ss i = some d) (hN : X.N[n]? = some x := by rfl) (hv : Vis X.env.scope x := by first | exact Or.inl rfl | exact Or.inr (Or.inl rfl) | exact Or.inr (Or.inr rfl)) (hd : (x == ("__debug__" : Str)) = false := by decide) (hcd : (x == ("__classdict__" : Str)) = false := by decide)
    (hb : attributeBase (.Name x p2) "shares" X.env (eval (.Name x p2) X.env) = eval (.Name x p2) X.env := by rfl) (hs : PlainIx a := by exact fun _ _ => rfl) : Em X W ds (.Subscript (.Attribute (.Name x p2) "shares" p3) a pos) (· = d) := em_of (pe_ix ix_list (pe_fld (pv n hN hv hd hcd) hb) pe_u hs) fun σ G H ok env Q k => by
  obtain ⟨z, e1, e2, _, h⟩ := env.at hn
  obtain ⟨vp, us, vs, h1, h2, h3, h4, h5, h6, h7⟩ := h.ex
  refine ⟨.ref q.o, by rw [e1, e2], q.o, _, q.dx, _, _, rfl, h1, hq ▸ T.cl, hq ▸ T.nS, kfs_shares q vp, ha σ G H ok env _ fun v d' G2 H2 r2 hd e => ?_⟩
  subst e
  cases hd
  obtain ⟨_, _, _, _, h'⟩ := (env.mono r2).at hn
  obtain ⟨a4, b4⟩ := W.own r2 h.ts h.gs h4
  obtain ⟨v, hv, hdv⟩ := (dmonoAll (W.g r2) _ _ h7).atI hz
  exact ⟨q.ls, vs, i, v, rfl, rfl, .inl (.inl a4), hv, k _ _ G2 H2 r2 hdv rfl⟩
/-! ### x.shares.append(e), x.made.append(e) -/
theorem bm_kappS (i : Nat) {x : Str} (T : KCl X.K) (hq : q.C = kC X.K) (hi : ds[i]? = some (.kep q pt ms ss)) (he : Em X W ds e P) (h0 : H0 q.ls = none) (hz : ss.length < 100000) (hn : ∀ (j : Nat) s, j ≠ i → ds[j]? = some s → ∀ a ∈ s.foot, a ≠ q.lm ∧ a ≠ q.ls) (k : ∀ d, P d → Bm X W G0 H0 (ds.set i (.kep q pt ms (ss ++ [d]))) rest N B C r)
    (ht : PS X (.Expr (.Call (.Attribute (.Attribute (.Name x p2) "shares" p5) "append" p3) [e] [] p4) pos) (tDrop (tBM X.K "list" rAppend (tFld X.K (tVar i) "shares") (tCons (uE X e) tNil)))) : Bm X W G0 H0 ds (.Expr (.Call (.Attribute (.Attribute (.Name x p2) "shares" p5) "append" p3) [e] [] p4) pos :: rest) N B C r :=
  bm_st (N1 := fun ds' => ∃ d, P d ∧ ds' = ds.set i (.kep q pt ms (ss ++ [d]))) ht (fun Gb σ G H D s env n b c kk => by
    obtain ⟨z, e1, e2, _, h⟩ := env.at hi
    obtain ⟨vp, us, vs, h1, h2, h3, h4, h5, h6, h7⟩ := h.ex
    refine ⟨.ref q.o, by rw [e1, e2], q.o, _, q.dx, _, _, rfl, h1, hq ▸ T.cl, hq ▸ T.nS, kfs_shares q vp, .inl ⟨rfl, vs, .inl (.inl h4)⟩, he σ G H s.ok env _ fun v d G2 H2 r2 hd p => ?_⟩
    obtain ⟨a1, b1⟩ := W.own r2 h.to h.go h1
    obtain ⟨a2, b2⟩ := W.own r2 h.td h.gd h2
    obtain ⟨a3, b3⟩ := W.own r2 h.tm h.gm h3
    obtain ⟨a4, b4⟩ := W.own r2 h.ts h.gs h4
    refine ⟨q.ls, vs, v, rfl, rfl, a4, Nat.lt_of_lt_of_le (by rw [h7.len]; exact hz) (by decide : 100000 ≤ sizeLine), ?_⟩
    have R := (s.to r2).chg (o' := .lst (vs ++ [v])) h.ts h0 b4 a4
    have nod : q.o ≠ q.ls := ne_of a1 a4 (fun z => by cases z)
    have ndd : q.dx ≠ q.ls := ne_of a2 a4 (fun z => by cases z)
    refine n _ _ G2 _ R ((env.mono r2).kcall hi hn (fun a _ n2 => upd_ne n2) (W.refl R.ok) ⟨b1, b2, b3, b4, h.to, h.td, h.tm, h.ts, h.ne, vp, us, vs ++ [v], by rw [upd_ne nod]; exact a1, by rw [upd_ne ndd]; exact a2, by rw [upd_ne h.ne]; exact a3, upd_same, dmono (W.g r2) _ _ h5, dmonoAll (W.g r2) _ _ h6, (dmonoAll (W.g r2) _ _ h7).app (.one hd)⟩) ⟨d, p, rfl⟩) fun ds' ⟨d, p, e⟩ => by
    rw [e]
    exact k d p
theorem bm_kappM (i : Nat) {x : Str} (T : KCl X.K) (hq : q.C = kC X.K) (hi : ds[i]? = some (.kep q pt ms ss)) (he : Em X W ds e P) (h0 : H0 q.lm = none) (hz : ms.length < 100000) (hn : ∀ (j : Nat) s, j ≠ i → ds[j]? = some s → ∀ a ∈ s.foot, a ≠ q.lm ∧ a ≠ q.ls) (k : ∀ d, P d → Bm X W G0 H0 (ds.set i (.kep q pt (ms ++ [d]) ss)) rest N B C r)
    (ht : PS X (.Expr (.Call (.Attribute (.Attribute (.Name x p2) "made" p5) "append" p3) [e] [] p4) pos) (tDrop (tBM X.K "list" rAppend (tFld X.K (tVar i) "made") (tCons (uE X e) tNil)))) : Bm X W G0 H0 ds (.Expr (.Call (.Attribute (.Attribute (.Name x p2) "made" p5) "append" p3) [e] [] p4) pos :: rest) N B C r :=
  bm_st (N1 := fun ds' => ∃ d, P d ∧ ds' = ds.set i (.kep q pt (ms ++ [d]) ss)) ht (fun Gb σ G H D s env n b c kk => by
    obtain ⟨z, e1, e2, _, h⟩ := env.at hi
    obtain ⟨vp, us, vs, h1, h2, h3, h4, h5, h6, h7⟩ := h.ex
    refine ⟨.ref q.o, by rw [e1, e2], q.o, _, q.dx, _, _, rfl, h1, hq ▸ T.cl, hq ▸ T.nM, kfs_made q vp, .inl ⟨rfl, us, .inl (.inl h3)⟩, he σ G H s.ok env _ fun v d G2 H2 r2 hd p => ?_⟩
    obtain ⟨a1, b1⟩ := W.own r2 h.to h.go h1
    obtain ⟨a2, b2⟩ := W.own r2 h.td h.gd h2
    obtain ⟨a3, b3⟩ := W.own r2 h.tm h.gm h3
    obtain ⟨a4, b4⟩ := W.own r2 h.ts h.gs h4
    refine ⟨q.lm, us, v, rfl, rfl, a3, Nat.lt_of_lt_of_le (by rw [h6.len]; exact hz) (by decide : 100000 ≤ sizeLine), ?_⟩
    have R := (s.to r2).chg (o' := .lst (us ++ [v])) h.tm h0 b3 a3
    have nod : q.o ≠ q.lm := ne_of a1 a3 (fun z => by cases z)
    have ndd : q.dx ≠ q.lm := ne_of a2 a3 (fun z => by cases z)
    refine n _ _ G2 _ R ((env.mono r2).kcall hi hn (fun a n1 _ => upd_ne n1) (W.refl R.ok) ⟨b1, b2, b3, b4, h.to, h.td, h.tm, h.ts, h.ne, vp, us ++ [v], vs, by rw [upd_ne nod]; exact a1, by rw [upd_ne ndd]; exact a2, upd_same, by rw [upd_ne h.ne.symm]; exact a4, dmono (W.g r2) _ _ h5, (dmonoAll (W.g r2) _ _ h6).app (.one hd), dmonoAll (W.g r2) _ _ h7⟩) ⟨d, p, rfl⟩) fun ds' ⟨d, p, e⟩ => by
    rw [e]
    exact k d p
end
end Dn
namespace Dn
open PySem PySem.Spec PyProof.Rows L2
/-! ## promises of methods -/
abbrev KPre := PyData → List PyData → List PyData → List PyData → Prop
abbrev KPost := PyData → List PyData → List PyData → List PyData → List PyData → List PyData → PyData → Prop
/-- of tubs kept and data: what they are behind it, and data -/
def spM (pre : KPre) (post : KPost) : KSp := fun K vs H Q _ => ∃ G q pt ms ss us as, vs = .ref q.o :: us ∧ q.C = kC K ∧ Same G H ∧ KqAt K pwk G H q pt ms ss ∧ Ds K G us as ∧ pre pt ms ss as ∧
  ∀ v d ms' ss' G' H', Stp G (offK q H) G' H' → KqAt K pwk G' H' q pt ms' ss' → Dd K G' v d → post pt ms ss as ms' ss' d → Q v H'
/-- __init__ -/
def spI (pre : PyData → PyData → Prop) : KSp := fun K vs H Q _ => ∃ G x dx vp vs' pt sh, vs = [.ref x, vp, vs'] ∧ Same G H ∧ G x = none ∧ G dx = none ∧ H x = some (.ins (kC K) dx []) ∧ H dx = some (.own x) ∧ Dd K G vp pt ∧ Dd K G vs' sh ∧ pre pt sh ∧
  ∀ lm ls G' H', H lm = none → H ls = none → Same G G' → Same G' H' → (∀ a o, a ≠ x → H a = some o → H' a = some o) → (∀ a, H a ≠ none → G a = none → G' a = none) → KqAt K pwk G' H' ⟨kC K, x, dx, lm, ls⟩ pt [] [sh] → Q .non H'
section
variable {P : Program} {w : World} {K : PySem.W.Frag} {mg : Str → Option Value} {base : Heap} {x qual : Str} {params : Arguments} {body : List Stmt} {scope : Scope} {f : Addr} {fd : FuncData} {N ps : List Str} {k : Nat}
def slK (N : List Str) (q : Kq) (pt : PyData) (ms ss as : List PyData) : List Sl := .kep q pt ms ss :: (as.map Sl.dat ++ List.replicate (N.length - (as.length + 1)) .un)
theorem envK {G H : Hp} {q : Kq} {pt : PyData} {ms ss : List PyData} {vs : List V} {as : List PyData} (hb : KqAt K pwk G H q pt ms ss) (h : Ds K G vs as) : EnvOk K pwk G H (slK N q pt ms ss as) (L2.start N (.ref q.o :: vs)) := by
  have z := env1 (N := N) (W := pwk) (H := H) (b := q.o) h
  refine ⟨z.1, fun i s y a c => ?_⟩
  cases i with
  | zero =>
    cases a
    cases c
    exact ⟨rfl, rfl, hb⟩
  | succ i => exact z.2 (i + 1) s y a c
/-- returned by a method: data, and the tubs as they are -/
def rK (K : PySem.W.Frag) (q : Kq) (pt : PyData) (P : List PyData → List PyData → PyData → Prop) : RT := fun v G H => ∃ d ms ss, KqAt K pwk G H q pt ms ss ∧ Dd K G v d ∧ P ms ss d
theorem fn_M {pre : KPre} {post : KPost} (F : FunD K x qual params body scope [] [] f fd) (S : FnScope N ps scope) (hl : ∀ pt ms ss as, pre pt ms ss as → as.length + 1 = ps.length)
    (hb : ∀ (cdv : Value) (A : Around) (outer : List Env) (s : Shared) (H : Hp) (E : XK) (G : Hp) (q : Kq) (pt : PyData) (ms ss as : List PyData), Room k (A.deeper (envOfC qual scope s.heap.objs.size f cdv)) → q.C = kC K → pre pt ms ss as →
      Bm (Cx0 P w K mg base N qual scope f cdv A outer s H E) pwk G (offK q H) (slK N q pt ms ss as) body (fun ds' => ∃ ms' ss', ds'[0]? = some (.kep q pt ms' ss') ∧ post pt ms ss as ms' ss' .none) nono nono (rK K q pt (post pt ms ss as))) : FnO P w K mg base (k + 1) f fd ps (spM pre post) := by
  refine F.ok S (fun vs H Q E ⟨G, q, pt, ms, ss, us, as, e, _, _, _, hd, p, _⟩ => by rw [e, List.length_cons, hd.len]; exact hl pt ms ss as p) fun cdv A outer s H vs Q E hr ⟨G, q, pt, ms, ss, us, as, e, hC, sm, hk, hd, p, kk⟩ => ?_
  rw [e]
  obtain ⟨t, ht, h⟩ := hb cdv A outer s H E G q pt ms ss as hr hC p G (L2.start N (.ref q.o :: us)) G H { nx := fun _ H' => Q .non H', rt := Q } ⟨.refl _, ⟨.refl _, sm, offK_sub, fun _ _ h => h⟩⟩ (envK hk hd)
    (fun ds' σ' G2 H2 s2 env p2 => by
      obtain ⟨ms', ss', h0, hp⟩ := p2
      obtain ⟨_, _, _, _, hk2⟩ := env.at h0
      exact kk .non .none ms' ss' G2 H2 s2.r hk2 .non hp) (fun _ _ _ _ _ _ z => z.elim) (fun _ _ _ _ _ _ z => z.elim) fun v G2 H2 s2 ⟨d, ms', ss', hk2, hd2, p2⟩ => kk v d ms' ss' G2 H2 s2 hk2 hd2 p2
  exact ⟨t, ht.nox, h⟩
end
section
variable {X : Cx} {W : Wr} {G0 H0 : Hp} {ds : List Sl} {e a b c : Expr} {es : List Expr} {pos p2 p3 p4 p5 p6 : Pos} {P : PyData → Prop} {d : PyData} {N B C : NX} {r : RT} {rest body orelse : List Stmt} {st : Stmt} {q : Kq} {pt : PyData} {ms ss : List PyData}
theorem bm_retK (n : Nat) {Pk : List PyData → List PyData → PyData → Prop} (hn : ds[n]? = some (.kep q pt ms ss)) (he : Em X W ds e P) (h : ∀ d, P d → Pk ms ss d) : Bm X W G0 H0 ds (.Return (some e) pos :: rest) N B C (rK X.K q pt Pk) := bm_of (pss_cons (ps_ret pe_u) pss_never) fun Gb σ G H D s env n' b c k =>
  he σ G H s.ok env _ fun v d G2 H2 r2 hd p => by
    obtain ⟨_, _, _, _, hk⟩ := (env.mono r2).at hn
    exact k v G2 H2 (s.to r2).r ⟨d, ms, ss, hk.cast, hd, h d p⟩
/-- a method of the program that keeps a promise -/
structure Mk1 (P : Program) (w : World) (K : PySem.W.Frag) (mg : Str → Option Value) (base : Heap) (m : Str) (k : Nat) (ps : List Str) (sp : KSp) : Prop where
  ex : ∃ f fd, FnOk P w K mg base CX0 k f fd ps (sp K) ∧ Meth K (kC K) m f ∧ Binds K fd ps []
/-- behind a method's call -/
theorem kstep {G H G2 H2 : Hp} {Gb : Hp} {ms' ss' : List PyData} {σ : L2.St} {i : Nat} (s : At W Gb G0 H0 G H) (env : EnvOk X.K W G H ds σ) (hi : ds[i]? = some (.kep q pt ms ss)) (h0m : H0 q.lm = none) (h0s : H0 q.ls = none) (hn : ∀ (j : Nat) s, j ≠ i → ds[j]? = some s → ∀ a ∈ s.foot, a ≠ q.lm ∧ a ≠ q.ls)
    (st : Stp G (offK q H) G2 H2) (hk : KqAt X.K pwk G2 H2 q pt ms' ss') : At W Gb G0 H0 G2 H2 ∧ EnvOk X.K W G2 H2 (ds.set i (.kep q pt ms' ss')) σ := by
  obtain ⟨_, _, _, _, h⟩ := env.at hi
  obtain ⟨vp, us, vs, h1, h2, h3, h4, h5, h6, h7⟩ := h.ex
  obtain ⟨vp', us', vs', k1, k2, k3, k4, k5, k6, k7⟩ := hk.ex
  have R1 := s.chg (o' := .lst us') h.tm h0m h.gm h3
  have R2 := R1.chg (o' := .lst vs') h.ts h0s h.gs (by rw [upd_ne h.ne.symm]; exact h4)
  have hH : ∀ a, a ≠ q.lm → a ≠ q.ls → upd (upd H q.lm (.lst us')) q.ls (.lst vs') a = H a := fun a n1 n2 => by rw [upd_ne n2, upd_ne n1]
  have stp : Stp G (upd (upd H q.lm (.lst us')) q.ls (.lst vs')) G2 H2 := ⟨st.g, st.i, fun a o e => by
    by_cases e1 : a = q.ls
    · rw [e1, upd_same] at e
      cases e
      rw [e1]
      exact k4
    · by_cases e2 : a = q.lm
      · rw [e2, upd_ne h.ne, upd_same] at e
        cases e
        rw [e2]
        exact k3
      · rw [hH a e2 e1] at e
        exact st.h a o (by rw [offK_ne e2 e1]; exact e), fun a ha ga => by
    by_cases e1 : a = q.ls
    · rw [e1]
      exact hk.gs
    · by_cases e2 : a = q.lm
      · rw [e2]
        exact hk.gm
      · rw [hH a e2 e1] at ha
        exact st.k a (by rw [offK_ne e2 e1]; exact ha) ga⟩
  have r := W.step R2.ok stp
  exact ⟨R2.to r, env.kcall hi hn hH r (hk.back h)⟩
/-- x.m(..) -/
theorem bm_meth (i : Nat) {x m : Str} {k : Nat} {ps : List Str} {pre : KPre} {post : KPost} {Pa : List PyData → Prop} {pl : Sem Bool} (T : KCl X.K) (hq : q.C = kC X.K) (hi : ds[i]? = some (.kep q pt ms ss)) (F : Mk1 X.prog X.w X.K X.mg X.base m k ps (spM pre post)) (hr : Room k X.A) (ha : Am X W ds (e :: es) Pa) (hp : ∀ as, Pa as → pre pt ms ss as)
    (h0m : H0 q.lm = none) (h0s : H0 q.ls = none) (hn : ∀ (j : Nat) s, j ≠ i → ds[j]? = some s → ∀ a ∈ s.foot, a ≠ q.lm ∧ a ≠ q.ls) (hm : ¬ m = "parts" ∧ ¬ m = "made" ∧ ¬ m = "shares") (kk : ∀ as ms' ss' d, Pa as → post pt ms ss as ms' ss' d → Bm X W G0 H0 (ds.set i (.kep q pt ms' ss')) rest N B C r) (hN : X.N[i]? = some x := by rfl)
    (hv : Vis X.env.scope x := by first | exact Or.inl rfl | exact Or.inr (Or.inl rfl) | exact Or.inr (Or.inr rfl)) (hd : (x == ("__debug__" : Str)) = false := by decide) (hcd : (x == ("__classdict__" : Str)) = false := by decide)
    (hs : swapsWith (.Call (.Attribute (.Name x p2) m p3) (e :: es) [] p4) none pos.line X.env = pure false := by rfl)
    (hst : starEach (e :: es) X.env = (false, eval e X.env) :: starEach es X.env := by rfl) (hpl : (backTo p4 (starEach es X.env)).any (·.1) = false := by rfl)
    (ht : eval (.Call (.Attribute (.Name x p2) m p3) (e :: es) [] p4) X.env = (do
      let ov ← eval (.Name x p2) X.env
      standAt p3.atName
      let (f, first) ← holding [ov] (getMethod ov m pl)
      callWith p4 f first (backTo p4 (starEach (e :: es) X.env)) (backToKw p4 (keywordEach [] X.env))) := by rfl) :
    Bm X W G0 H0 ds (.Expr (.Call (.Attribute (.Name x p2) m p3) (e :: es) [] p4) pos :: rest) N B C r := by
  obtain ⟨f, fd, Gf, hM, hb⟩ := F.ex
  refine bm_st (N1 := fun ds' => ∃ as ms' ss' d, Pa as ∧ post pt ms ss as ms' ss' d ∧ ds' = ds.set i (.kep q pt ms' ss')) (ps_expr (pe_meth (C := kC X.K) (pl := pl) (pv i hN hv hd hcd) T.cl hM Gf hr hb .nil pass0 pa_u hst hpl ht) hs) (fun Gb σ G H D s env n b c k => ?_) fun ds' ⟨as, ms', ss', d, h1, h2, e⟩ => by
    rw [e]
    exact kk as ms' ss' d h1 h2
  obtain ⟨z, e1, e2, _, h⟩ := env.at hi
  obtain ⟨vp, us, vs, h1, h2, h3, h4, h5, h6, h7⟩ := h.ex
  refine ⟨.ref q.o, by rw [e1, e2], q.o, q.dx, _, rfl, by rw [h1, hq], kfs_no q vp hm.1 hm.2.1 hm.2.2, ha σ G H s.ok env _ fun ws as G1 H1 r1 hs p => ?_⟩
  rw [List.append_nil]
  have env1 := env.mono r1
  obtain ⟨_, _, _, _, hk1⟩ := env1.at hi
  refine ⟨G1, q, pt, ms, ss, ws, as, rfl, hq, W.sub (W.oks r1), hk1.cast, hs, hp as p, fun v d ms' ss' G2 H2 st hk hd hpo => ?_⟩
  obtain ⟨A2, E2⟩ := kstep (X := X) (s.to r1) env1 hi h0m h0s hn st hk
  exact n _ _ G2 H2 A2 E2 ⟨as, ms', ss', d, p, hpo, rfl⟩
end
end Dn
namespace Dn
open PySem PySem.Spec PyProof.Rows L2
/-! ## methods that only tell -/
abbrev KTell := PyData → List PyData → List PyData → List PyData → PyData → Prop
def spRk (pre : KPre) (post : KTell) : KSp := fun K vs H Q _ => ∃ G q pt ms ss us as, vs = .ref q.o :: us ∧ q.C = kC K ∧ Same G H ∧ KqAt K pwk G H q pt ms ss ∧ Ds K G us as ∧ pre pt ms ss as ∧ ∀ v d G' H', Stp G H G' H' → Dd K G' v d → post pt ms ss as d → Q v H'
section
variable {P : Program} {w : World} {K : PySem.W.Frag} {mg : Str → Option Value} {base : Heap} {x qual : Str} {params : Arguments} {body : List Stmt} {scope : Scope} {f : Addr} {fd : FuncData} {N ps : List Str} {k : Nat}
theorem fn_R {pre : KPre} {post : KTell} (F : FunD K x qual params body scope [] [] f fd) (S : FnScope N ps scope) (hl : ∀ pt ms ss as, pre pt ms ss as → as.length + 1 = ps.length)
    (hb : ∀ (cdv : Value) (A : Around) (outer : List Env) (s : Shared) (H : Hp) (E : XK) (G : Hp) (q : Kq) (pt : PyData) (ms ss as : List PyData), Room k (A.deeper (envOfC qual scope s.heap.objs.size f cdv)) → q.C = kC K → pre pt ms ss as →
      Bm (Cx0 P w K mg base N qual scope f cdv A outer s H E) pwk G H (slK N q pt ms ss as) body nono nono nono (rD K (post pt ms ss as))) : FnO P w K mg base (k + 1) f fd ps (spRk pre post) := by
  refine F.ok S (fun vs H Q E ⟨G, q, pt, ms, ss, us, as, e, _, _, _, hd, p, _⟩ => by rw [e, List.length_cons, hd.len]; exact hl pt ms ss as p) fun cdv A outer s H vs Q E hr ⟨G, q, pt, ms, ss, us, as, e, hC, sm, hk, hd, p, kk⟩ => ?_
  rw [e]
  obtain ⟨t, ht, h⟩ := hb cdv A outer s H E G q pt ms ss as hr hC p G (L2.start N (.ref q.o :: us)) G H { nx := fun _ H' => Q .non H', rt := Q } ⟨.refl _, pwk.refl sm⟩ (envK hk hd) (fun _ _ _ _ _ _ z => z.elim) (fun _ _ _ _ _ _ z => z.elim) (fun _ _ _ _ _ _ z => z.elim) fun v G2 H2 s2 ⟨d, hd2, p2⟩ => kk v d G2 H2 s2 hd2 p2
  exact ⟨t, ht.nox, h⟩
end
section
variable {X : Cx} {W : Wr} {G0 H0 : Hp} {ds : List Sl} {e a b c : Expr} {es : List Expr} {pos p2 p3 p4 p5 p6 p7 p8 : Pos} {P : PyData → Prop} {d : PyData} {N B C : NX} {r : RT} {rest body orelse : List Stmt} {st : Stmt} {q : Kq} {pt : PyData} {ms ss : List PyData}
/-- x.m(), m only tells -/
theorem em_meth0 (i : Nat) {x m : Str} {k : Nat} {ps : List Str} {pre : KPre} {post : KTell} {pl : Sem Bool} (T : KCl X.K) (hq : q.C = kC X.K) (hi : ds[i]? = some (.kep q pt ms ss)) (F : Mk1 X.prog X.w X.K X.mg X.base m k ps (spRk pre post)) (hr : Room k X.A) (hp : pre pt ms ss []) (hm : ¬ m = "parts" ∧ ¬ m = "made" ∧ ¬ m = "shares") (kk : ∀ d, post pt ms ss [] d → P d) (hN : X.N[i]? = some x := by rfl)
    (hv : Vis X.env.scope x := by first | exact Or.inl rfl | exact Or.inr (Or.inl rfl) | exact Or.inr (Or.inr rfl)) (hd : (x == ("__debug__" : Str)) = false := by decide) (hcd : (x == ("__classdict__" : Str)) = false := by decide)
    (ht : eval (.Call (.Attribute (.Name x p2) m p3) [] [] p4) X.env = (do
      let ov ← eval (.Name x p2) X.env
      standAt p3.atName
      let (f, first) ← holding [ov] (getMethod ov m pl)
      callWith p4 f first (backTo p4 (starEach [] X.env)) (backToKw p4 (keywordEach [] X.env))) := by rfl) : Em X W ds (.Call (.Attribute (.Name x p2) m p3) [] [] p4) P := by
  obtain ⟨f, fd, Gf, hM, hb⟩ := F.ex
  refine em_of (pe_meth0 (C := kC X.K) (pl := pl) (pv i hN hv hd hcd) T.cl hM Gf hr hb .nil pass0 ht) fun σ G H ok env Q k => ?_
  obtain ⟨z, e1, e2, _, h⟩ := env.at hi
  obtain ⟨vp, us, vs, h1, h2, h3, h4, h5, h6, h7⟩ := h.ex
  exact ⟨.ref q.o, by rw [e1, e2], q.o, q.dx, _, rfl, by rw [h1, hq], kfs_no q vp hm.1 hm.2.1 hm.2.2, G, q, pt, ms, ss, [], [], rfl, hq, W.sub ok, h.cast, .nil, hp, fun v d G2 H2 st hd hpo => k v d G2 H2 (W.step ok st) hd (kk d hpo)⟩
/-- y = Kept(..) -/
theorem bm_make (i : Nat) {y cx : Str} {k : Nat} {ps : List Str} {fI : Addr} {fdI : FuncData} {pre : PyData → PyData → Prop} {sh : PyData} (M : Mk X.K (kC X.K) fI) (F : FnOk X.prog X.w X.K X.mg X.base CX0 k fI fdI ps (spI pre X.K)) (hb : Binds X.K fdI ps []) (hr : Room (k + 1) X.A) (hm : X.mg cx = some (.ref (kC X.K))) (hfl : W.fl = true) (ha : Am X W ds (e :: es) (· = [pt, sh])) (hp : pre pt sh)
    (kk : ∀ q : Kq, q.C = kC X.K → H0 q.lm = none → H0 q.ls = none → (∀ (j : Nat) s, ds[j]? = some s → ∀ a ∈ s.foot, a ≠ q.o ∧ a ≠ q.dx ∧ a ≠ q.lm ∧ a ≠ q.ls) → Bm X W G0 H0 (ds.set i (.kep q pt [] [sh])) rest N B C r) (hN : X.N.Nodup) (hi : X.N[i]? = some y := by rfl) (hx : Loc X.env.scope y := by first | exact Or.inl rfl | exact Or.inr rfl)
    (hs : swapsWith (.Call (.Name cx p3) (e :: es) [] p4) (some (.Name y p2)) pos.line X.env = pure false := by rfl) (hf : X.fn y = true ∨ X.env.scope.names.lookup y = some .local := by first | exact .inl rfl | exact .inr rfl) (hg : Gl X cx := by rfl) (hdb : (cx == ("__debug__" : Str)) = false := by decide)
    (he : starEach (e :: es) X.env = (false, eval e X.env) :: starEach es X.env := by rfl) (hpl : (backTo p4 (starEach es X.env)).any (·.1) = false := by rfl) : Bm X W G0 H0 ds (.Assign [.Name y p2] (.Call (.Name cx p3) (e :: es) [] p4) pos :: rest) N B C r := by
  refine bm_st (N1 := fun ds' => ∃ q : Kq, q.C = kC X.K ∧ H0 q.lm = none ∧ H0 q.ls = none ∧ (∀ (j : Nat) s, ds[j]? = some s → ∀ a ∈ s.foot, a ≠ q.o ∧ a ≠ q.dx ∧ a ≠ q.lm ∧ a ≠ q.ls) ∧ ds' = ds.set i (.kep q pt [] [sh])) (ps_set (i := i) hN hi hx (pe_make M F hr hg hm hb .nil pass0 pa_u hdb he hpl) hs hf) (fun Gb σ G H D s env n b c k => ?_) fun ds' ⟨q, h1, h2, h3, h4, e⟩ => by
    rw [e]
    exact kk q h1 h2 h3 h4
  refine ha σ G H s.ok env _ fun vs as G1 H1 r1 hs p => fun x dx nx ndx ne => ?_
  subst p
  rw [List.append_nil]
  have s1 := s.to r1
  have env1 := env.mono r1
  have sub := W.sub s1.ok
  cases hs with
  | cons hvp hs => cases hs with
    | cons hvs hs =>
      cases hs
      rename_i vp vs'
      refine ⟨G1, x, dx, vp, vs', pt, sh, rfl, ?_, sub.free nx, sub.free ndx, upd_same, by rw [upd_ne ne, upd_same], hvp, hvs, hp, fun lm ls G2 H2 nlm nls sg si hh hk hK => ⟨rfl, ?_⟩⟩
      · exact same_upd2 (same_upd2 sub (sub.free ndx)) (sub.free nx)
      have off : ∀ b, upd (upd H1 dx (.own x)) x (.ins (kC X.K) dx []) b = none → H1 b = none := fun b hb => by
        by_cases e1 : b = x
        · rw [e1]; exact nx
        · by_cases e2 : b = dx
          · rw [e2]; exact ndx
          · rw [upd_ne e1, upd_ne e2] at hb
            exact hb
      have nl := off lm nlm
      have nl' := off ls nls
      have stp : Stp G1 H1 G2 H2 := ⟨sg, si, fun b o e => hh b o (ne_of_none e nx) (by rw [upd_ne (ne_of_none e nx), upd_ne (ne_of_none e ndx)]; exact e), fun b hb gb => hk b (fun z => hb (off b z)) gb⟩
      have r2 := W.step s1.ok stp
      have hK' : KqAt X.K W G2 H2 ⟨kC X.K, x, dx, lm, ls⟩ pt [] [sh] := ⟨hK.go, hK.gd, hK.gm, hK.gs, W.new s1.ok nx, W.new s1.ok ndx, W.new s1.ok nl, W.new s1.ok nl', hK.ne, hK.ex⟩
      refine n _ _ G2 H2 (s1.to r2) ((env1.mono r2).set i (s := .kep ⟨kC X.K, x, dx, lm, ls⟩ pt [] [sh]) ⟨rfl, hfl, hK'⟩) ⟨⟨kC X.K, x, dx, lm, ls⟩, rfl, s1.fresh nl, s1.fresh nl', fun j t hj b hb => ⟨env1.fresh nx j t hj b hb, env1.fresh ndx j t hj b hb, env1.fresh nl j t hj b hb, env1.fresh nl' j t hj b hb⟩, rfl⟩
/-- the world in which tubs may be kept -/
theorem bm_fl (k : Bm X { W with fl := true } G0 H0 ds rest nono nono nono r) : Bm X W G0 H0 ds rest N B C r := fun Gb σ G H D s env n b c q => by
  refine k Gb σ G H D ⟨s.b, s.r⟩ ⟨env.1, fun i t x a b => ?_⟩ (fun _ _ _ _ _ _ z => z.elim) (fun _ _ _ _ _ _ z => z.elim) (fun _ _ _ _ _ _ z => z.elim) q
  have z := env.2 i t x a b
  cases t with
  | un => trivial
  | dat d => exact z
  | raw v => exact z
  | scr K1 a ns => exact z
  | own a xs => exact z
  | kep q pt ms ss => exact ⟨z.1, rfl, z.2.2.go, z.2.2.gd, z.2.2.gm, z.2.2.gs, z.2.2.to, z.2.2.td, z.2.2.tm, z.2.2.ts, z.2.2.ne, z.2.2.ex⟩
/-- x.shares[l:h] -/
theorem em_kslice (n : Nat) {x : Str} {lo hi : Option Expr} {l h : Option Int} (T : KCl X.K) (hq : q.C = kC X.K) (hn : ds[n]? = some (.kep q pt ms ss)) (hl : Om X W ds lo l) (hh : Om X W ds hi h) (hN : X.N[n]? = some x := by rfl) (hv : Vis X.env.scope x := by first | exact Or.inl rfl | exact Or.inr (Or.inl rfl) | exact Or.inr (Or.inr rfl)) (hd : (x == ("__debug__" : Str)) = false := by decide) (hcd : (x == ("__classdict__" : Str)) = false := by decide)
    (hb : attributeBase (.Name x p3) "shares" X.env (eval (.Name x p3) X.env) = eval (.Name x p3) X.env := by rfl) : Em X W ds (.Subscript (.Attribute (.Name x p3) "shares" p4) (.Slice lo hi none p2) pos) (· = .list (cutD ss l h)) := by
  obtain ⟨tl, pl, ml⟩ := hl
  obtain ⟨th, ph, mh⟩ := hh
  refine em_of (pe_slice sl_list (pe_fld (pv n hN hv hd hcd) hb) pl ph) fun σ G H ok env Q k => ?_
  obtain ⟨z, e1, e2, _, hk⟩ := env.at hn
  obtain ⟨vp, us, vs, h1, h2, h3, h4, h5, h6, h7⟩ := hk.ex
  refine ⟨.ref q.o, by rw [e1, e2], q.o, _, q.dx, _, _, rfl, h1, hq ▸ T.cl, hq ▸ T.nS, kfs_shares q vp, ml σ G H ok env _ fun G2 H2 r2 => mh σ G2 H2 (W.oks r2) (env.mono r2) _ fun G3 H3 r3 => ?_⟩
  have R := W.trans r2 r3
  obtain ⟨a4, b4⟩ := W.own R hk.ts hk.gs h4
  refine ⟨q.ls, vs, rfl, .inl (.inl a4), fun p hp => ?_⟩
  have st := Stp.new (o := .lst (cutV vs l h)) (W.sub (W.oks r3)) hp
  exact k _ _ _ _ (W.trans R (W.step (W.oks r3) st)) (.lst upd_same (dmonoAll st.g _ _ ((dmonoAll (W.g R) _ _ h7).cut l h))) rfl
/-- for u, v in zip(x.shares, e) -/
theorem bm_kzip {N1 : NX} (n0 i j : Nat) {y u v : Str} {nn : Nat} {ys : List PyData} (T : KCl X.K) (hq : q.C = kC X.K) (hn : ds[n0]? = some (.kep q pt ms ss)) (ha : Em X W ds a (· = .list ys)) (I : Nat → List Sl → Prop) (h0 : I 0 ds) (hp : PassesOwn (model X.prog X.w) X.A X.env X.xe) (hc : X.calm = true)
    (hs : ∀ Ga Ha n d d' ds', ss[n]? = some d → ys[n]? = some d' → I n ds' → Bm X W Ga Ha ((ds'.set i (.dat d)).set j (.dat d')) body (I (n + 1)) N1 (I (n + 1)) r) (hd : ∀ ds', I (min ss.length ys.length) ds' → N1 ds') (k : ∀ ds', N1 ds' → Bm X W G0 H0 ds' rest N B C r) (hz : X.mg "zip" = none)
    (hN : X.N.Nodup) (hN0 : X.N[n0]? = some y := by rfl) (hi : X.N[i]? = some u := by rfl) (hj : X.N[j]? = some v := by rfl) (hx : Loc X.env.scope u := by first | exact Or.inl rfl | exact Or.inr rfl) (hy : Loc X.env.scope v := by first | exact Or.inl rfl | exact Or.inr rfl)
    (hfx : X.fn u = true ∨ X.env.scope.names.lookup u = some .local := by first | exact .inl rfl | exact .inr rfl) (hfy : X.fn v = true ∨ X.env.scope.names.lookup v = some .local := by first | exact .inl rfl | exact .inr rfl)
    (hv : Vis X.env.scope y := by first | exact Or.inl rfl | exact Or.inr (Or.inl rfl) | exact Or.inr (Or.inr rfl)) (hdb : (y == ("__debug__" : Str)) = false := by decide) (hcd : (y == ("__classdict__" : Str)) = false := by decide) (hg : Gl X "zip" := by rfl)
    (hb : attributeBase (.Name y p2) "shares" X.env (eval (.Name y p2) X.env) = eval (.Name y p2) X.env := by rfl)
    (hs1 : (assignEach [.Name u p4, .Name v p5] X.env).map (·.2) = assign (.Name u p4) X.env :: (assignEach [.Name v p5] X.env).map (·.2) := by rfl) (hs2 : (assignEach [.Name v p5] X.env).map (·.2) = assign (.Name v p5) X.env :: (assignEach [] X.env).map (·.2) := by rfl)
    (hn1 : (assignEach [.Name u p4, .Name v p5] X.env).length = 2 := by rfl) (hst : (assignEach [.Name u p4, .Name v p5] X.env).findIdx? (·.1) = none := by rfl)
    (he1 : starEach [.Attribute (.Name y p2) "shares" p3, a] X.env = (false, eval (.Attribute (.Name y p2) "shares" p3) X.env) :: starEach [a] X.env := by rfl) (he2 : starEach [a] X.env = (false, eval a X.env) :: starEach [] X.env := by rfl) (hpl : (backTo p7 (starEach [a] X.env)).any (·.1) = false := by rfl)
    (hs' : ∀ x, foldedSetIterable (.Call (.Name "zip" p8) [.Attribute (.Name y p2) "shares" p3, a] [] p7) X.env x = pure x := by intro _; rfl) :
    Bm X W G0 H0 ds (.For (.Tuple [.Name u p4, .Name v p5] nn p6) (.Call (.Name "zip" p8) [.Attribute (.Name y p2) "shares" p3, a] [] p7) body [] pos :: rest) N B C r :=
  bm_st (ps_for hp hc (pi_zip hg hz (pa_cons (pe_fld (pv n0 hN0 hv hdb hcd) hb) (pa_cons pe_u pa_nil he2) he1) he1 hpl) (pg_tup hc (pgs_cons (pg_name (i := i) hN hi hx hfx) (pgs_cons (pg_name (i := j) hN hj hy hfy) pgs_nil hs2) hs1) hn1 hst) pss_u hs') (fun Gb σ G H D s env n b cc qq => by
    obtain ⟨z, e1, e2, _, hk⟩ := env.at hn
    obtain ⟨vp, us, vs, h1, h2, h3, h4, h5, h6, h7⟩ := hk.ex
    refine ⟨.ref q.o, by rw [e1, e2], q.o, _, q.dx, _, _, rfl, h1, hq ▸ T.cl, hq ▸ T.nS, kfs_shares q vp, ha σ G H s.ok env _ fun w d G1 H1 r1 hw e => ?_⟩
    subst e
    cases hw with
    | @lst ad ws _ hq' hws =>
      have s1 := s.to r1
      obtain ⟨a4, b4⟩ := W.own r1 hk.ts hk.gs h4
      have h7 := dmonoAll (W.g r1) _ _ h7
      refine ⟨q.ls, ad, vs, ws, rfl, .inl (.inl a4), .inl (.inl (W.sub s1.ok _ _ hq')), for_it (walk_zip (K := X.K) (xs := vs) (ys := ws) rfl) (fun n σ' H' => ∃ ds' G', At W G1 G1 H1 G' H' ∧ EnvOk X.K W G' H' ds' σ' ∧ I n ds') ⟨ds, G1, ⟨.refl _, W.refl s1.ok⟩, env.mono r1, h0⟩ ?_ ?_ ?_⟩
      · rintro m σ' H' _ ⟨ds', G', s', _, _⟩
        exact ⟨.inl (.inl (W.own s'.r hk.ts b4 a4).1), .inl (.inl (W.sub s'.ok _ _ (s'.b _ _ hq')))⟩
      · rintro m y' σ' H' H'' hm ⟨ds', G', s', env', hI⟩ ⟨TT, x1, x2, rfl, hT, rfl, hx1, hx2⟩
        obtain ⟨d1, g1, t1⟩ := h7.atV hx1
        obtain ⟨d2, g2, t2⟩ := hws.atV hx2
        have st : Stp G' H' G' (upd H' TT (.tup [x1, x2])) := ⟨.refl _, same_upd2 (W.sub s'.ok) ((W.sub s'.ok).free hT), same_upd hT, fun _ _ h => h⟩
        have r3 := W.step s'.ok st
        refine ⟨TT, [x1, x2], rfl, SqT.of upd_same, rfl, x1, [x2], rfl, x2, [], rfl, rfl, ?_⟩
        exact hs G1 H1 m d1 d2 ds' g1 g2 hI G1 _ G' _ _ (s'.to r3) (((env'.mono r3).set i (.dat (dmono s'.b _ _ t1))).set j (.dat (dmono s'.b _ _ t2))) (fun ds2 σ2 G3 H3 s3 e3 p => ⟨ds2, G3, s3, e3, p⟩) (fun ds2 σ2 G3 H3 s3 e3 p => n ds2 σ2 G3 H3 ⟨s1.b.trans s3.b, W.trans s1.r s3.r⟩ e3 p) (fun ds2 σ2 G3 H3 s3 e3 p => ⟨ds2, G3, s3, e3, p⟩) fun v G3 H3 s3 p => qq v G3 H3 (W.trans s1.r s3) p
      · rintro σ' H' ⟨ds', G', s', env', hI⟩
        exact n ds' σ' G' H' ⟨s1.b.trans s'.b, W.trans s1.r s'.r⟩ env' (hd ds' (by rw [← h7.len, ← hws.len]; exact hI))) k
end
end Dn
namespace Dn
open PySem PySem.Spec PyProof.Rows L2 HotX
/-! ## within an except suite -/
section
variable {prog : Program} {w : World} {A : Around} {E : Value → Shared → Prop} {s : Shared} {x1 : Addr}
theorem hot_keeps {h h' : Heap} (hot : HotAt A x1 h) (k : ∀ o, h.get? x1 = some o → h'.get? x1 = some o) : HotAt A x1 h' := by
  obtain ⟨a, o, vs, b, c⟩ := hot
  exact ⟨a, o, vs, k o b, c⟩
theorem hot_lt {h : Heap} (hot : HotAt A x1 h) : x1 < h.objs.size := by
  obtain ⟨_, o, vs, b, _⟩ := hot
  exact Heap.lt_size b
/-- a walk's end told -/
theorem stop_hot {α : Type} {Q : α → Shared → Prop} (hot : HotAt A x1 s.heap) (hE : ∀ a h', (∀ b o, s.heap.get? b = some o → h'.get? b = some o) → (∃ o, h'.get? a = some o ∧ o.cls = .type "StopIteration") → E (.ref a) { s with heap := h' }) :
    wpAny (model prog w) A (newExc (.type "StopIteration") [] >>= fun e => (raiseNew e : Sem α)) Q E s := by
  obtain ⟨hh, o1, vs1, h1, d1, c1⟩ := hot
  refine wpAny_bind ?_
  simp only [newExc, newTuple]
  refine wpAny_bind (wpAny_newObj_type ?_ (by size_fits))
  refine wpAny_bind (m := firstArgMember _ _) (wpAny_of_eq (a := Value.none) (by first | rfl | (simp only [firstArgMember]; rfl)) ?_)
  refine wpAny_newObj_type ?_ (by size_fits)
  refine raiseNew_hot ⟨hh, o1, vs1, Heap.get?_push_of_some _ (Heap.get?_push_of_some _ h1), d1, c1⟩ (Nat.ne_of_lt (Heap.lt_size (Heap.get?_push_of_some _ h1))) (Heap.get?_push_size _ rfl) rfl (by first | (simp; done) | (simp; omega) | (simp only [Array.size_append]; simp; omega)) ?_
  refine hE _ _ (fun b o e => ?_) ⟨_, Heap.get?_update_self _ (Heap.get?_push_size _ rfl) rfl, rfl⟩
  rw [Heap.get?_update_other _ _ (Nat.ne_of_gt (Heap.lt_size (Heap.get?_push_of_some _ e)))]
  exact Heap.get?_push_of_some _ (Heap.get?_push_of_some _ e)
theorem list_end_hot {it l : Addr} {i : Nat} {items} {Q : Option Value → Shared → Prop} (hot : HotAt A x1 s.heap) (hne : x1 ≠ it) (hit : s.heap.IsListIter it l i) (hl : s.heap.IsList l items) (hx : items[i]? = none)
    (hQ : ∀ h', Heap.ExtBut it s.heap h' → Q none { s with heap := h' }) : wpAny (model prog w) A (pyNext (.ref it)) Q E s := by
  obtain ⟨o, ho, hc, hd⟩ := id hit
  obtain ⟨ol, hol, _, nl, hdl⟩ := hl
  unfold pyNext
  refine wpAny_bind (wpAny_attempt (wpAny_callSpecial?_slot (name := Str.ofString "__next__") hit.typeIs slot_listiter_next (wpAny_call_entry slot_listiter_next hit.typeIs entry_listiter_next ?_ (args_listiter_next _))))
  refine wpAny_bind (m := field (.ref it) 0) (wpAny_field ho hd (x := .ref l) rfl ?_)
  show wpAny _ _ (if (Value.ref l == Value.none) = true then _ else _) _ _ s
  rw [if_neg (show ¬ ((Value.ref l == Value.none) = true) from Bool.false_ne_true)]
  refine wpAny_bind (m := field (.ref it) 1) (wpAny_field ho hd (x := .int i 0) rfl ?_)
  refine wpAny_bind (m := seqItems? (.ref l)) (wpAny_seqItems hol hdl ?_)
  simp only [Int.toNat_natCast, hx]
  refine wpAny_bind (wpAny_rule (wpAny_bind (wpAny_setField ho hd (by simp) ?_)))
  have hot' : HotAt A x1 (s.heap.update it (Obj.mapFields (·.setIfInBounds 0 .none))) := hot_keeps hot fun o e => (Heap.get?_update_other _ _ (Ne.symm hne)).trans e
  refine stop_hot (A := A.in1) (s := { s with heap := _ }) hot' fun a h' k ⟨oa, ha, hca⟩ => ?_
  refine wpAny_bind (wpAny_isInstance (T := "StopIteration") (b := true) ⟨_, ha, hca⟩ isSubtype_stop ?_)
  exact wpAny_pure (hQ _ fun b u hb e => k b u ((Heap.get?_update_other _ _ (Ne.symm hb)).trans e))
theorem tup_end_hot {it t : Addr} {i : Nat} {items} {Q : Option Value → Shared → Prop} (hot : HotAt A x1 s.heap) (hne : x1 ≠ it) (hit : IsTupIter s.heap it t i) (ht : IsTup s.heap t items) (hx : items[i]? = none)
    (hQ : ∀ h', Heap.ExtBut it s.heap h' → Q none { s with heap := h' }) : wpAny (model prog w) A (pyNext (.ref it)) Q E s := by
  obtain ⟨o, ho, hc, hd⟩ := id hit
  obtain ⟨ol, hol, _, nl, hdl⟩ := ht
  unfold pyNext
  refine wpAny_bind (wpAny_attempt (wpAny_callSpecial?_slot (name := Str.ofString "__next__") hit.typeIs slot_tupleiter_next (wpAny_call_entry slot_tupleiter_next hit.typeIs entry_tupleiter_next ?_ (args_tupleiter_next _))))
  refine wpAny_bind (m := field (.ref it) 0) (wpAny_field ho hd (x := .ref t) rfl ?_)
  show wpAny _ _ (if (Value.ref t == Value.none) = true then _ else _) _ _ s
  rw [if_neg (show ¬ ((Value.ref t == Value.none) = true) from Bool.false_ne_true)]
  refine wpAny_bind (m := field (.ref it) 1) (wpAny_field ho hd (x := .int i 0) rfl ?_)
  refine wpAny_bind (m := seqItems? (.ref t)) (wpAny_seqItems hol hdl ?_)
  simp only [Int.toNat_natCast, hx]
  refine wpAny_bind (wpAny_rule (wpAny_bind (wpAny_setField ho hd (by simp) ?_)))
  have hot' : HotAt A x1 (s.heap.update it (Obj.mapFields (·.setIfInBounds 0 .none))) := hot_keeps hot fun o e => (Heap.get?_update_other _ _ (Ne.symm hne)).trans e
  refine stop_hot (A := A.in1) (s := { s with heap := _ }) hot' fun a h' k ⟨oa, ha, hca⟩ => ?_
  refine wpAny_bind (wpAny_isInstance (T := "StopIteration") (b := true) ⟨_, ha, hca⟩ isSubtype_stop ?_)
  exact wpAny_pure (hQ _ fun b u hb e => k b u ((Heap.get?_update_other _ _ (Ne.symm hb)).trans e))
theorem unpackItems_hot {t : Addr} {items : Array Value} {Q : List Value → Shared → Prop} (hot : HotAt A x1 s.heap) (ht : IsTup s.heap t items)
    (hQ : ∀ h', Heap.ExtBut s.heap.objs.size s.heap h' → Q items.toList { s with heap := h' }) : wpAny (model prog w) A (unpackItems (.ref t) items.size none) Q E s := by
  have hlt : t ≠ s.heap.objs.size := by obtain ⟨o, ho, _⟩ := ht; exact Nat.ne_of_lt (Heap.lt_size ho)
  have hnx : x1 ≠ s.heap.objs.size := Nat.ne_of_lt (hot_lt hot)
  unfold unpackItems
  refine wpAny_bind ?_
  unfold notIterableAtAll
  refine wpAny_bind (wpAny_specialOf ht.typeIs slot_tuple_iter.lookup (wpAny_pure ?_))
  simp only [Bool.false_eq_true, if_false]
  refine wpAny_bind (wpAny_holding (iter_tuple ht ?_))
  refine wpAny_bind (wpAny_holding (draw_tuple hlt items.size 0 _ _ ⟨_, Heap.get?_push_size _ rfl, rfl, rfl⟩ (ht.push _) (by omega) fun h₁ hit₁ hs₁ => ?_))
  have hall : List.take items.size (List.drop 0 items.toList) = items.toList := by
    rw [List.drop_zero]; exact List.take_of_length_le (by simp)
  rw [hall, if_neg (by simp)]
  have ht₁ : IsTup h₁ t items := (ht.push _).extBut hs₁.extBut hlt
  have hot₁ : HotAt A x1 h₁ := hot_keeps hot fun o e => hs₁.extBut x1 o hnx (Heap.get?_push_of_some _ e)
  refine wpAny_bind (wpAny_holding (tup_end_hot (s := { s with heap := h₁ }) hot₁ hnx hit₁ ht₁ (by simp) fun h₂ he₂ => ?_))
  simp only [Option.isSome_none, Bool.false_eq_true, if_false]
  exact wpAny_pure (hQ h₂ fun b o hb e => he₂ b o hb (hs₁.extBut b o hb (Heap.get?_push_of_some _ e)))
theorem assign_tuple_hot {env : Env} {elts : List Expr} {n} {pos : Pos} {t : Addr} {items : Array Value} {Q : Unit → Shared → Prop} (hot : HotAt A x1 s.heap) (ht : IsTup s.heap t items) (hn : (assignEach elts env).length = items.size) (hstar : (assignEach elts env).findIdx? (·.1) = none)
    (h : ∀ h', Heap.ExtBut s.heap.objs.size s.heap h' → wpAny (model prog w) A (assignInOrder ((assignEach elts env).map (·.2)) items.toList) Q E { s with heap := h' }) : wpAny (model prog w) A (assign (.Tuple elts n pos) env (.ref t)) Q E s := by
  rw [assign_Tuple]
  refine wpAny_bind (wpAny_standAt ?_)
  unfold unpack
  rw [hn, hstar]
  exact wpAny_bind (wpAny_holding (unpackItems_hot hot ht h))
end
/-- the exception that is handled came with the entry -/
def HotE (X : Cx) : Prop := ∃ p : Addr × Obj, L2H.Hot1 X.A p ∧ X.s_0.heap.get? p.1 = some p.2 ∧ X.H_0 p.1 = none ∧ p.1 ∉ X.fs ∧ p.1 ∉ X.ex
theorem HotE.at {X : Cx} {pins : List (Addr × Obj)} {σ : L2.St} {H : Hp} {s : Shared} (c : HotE X) (I : Inv X pins σ H s) : ∃ x1, HotAt X.A x1 s.heap ∧ x1 ∉ X.ex := by
  obtain ⟨p, ⟨hh, v1, e1, c1⟩, h1, h2, h3, h4⟩ := c
  exact ⟨p.1, ⟨hh, p.2, v1, I.base.keep _ _ h1 h2 h3 h4, e1, c1⟩, h4⟩
section
variable {X : Cx} {pos : Pos}
theorem pg_tupH {es : List Expr} {k : Nat} {t : TGs} {n : Nat} (hc : HotE X) (h : PGs X es t) (hn : (assignEach es X.env).length = n := by rfl) (hst : (assignEach es X.env).findIdx? (·.1) = none := by rfl) : PG X (.Tuple es k pos) (gTup X.K n t) := by
  refine ⟨fun pins s σ H v u Q I r hw => ?_⟩
  obtain ⟨a, xs, rfl, hq, hl, hw⟩ := hw
  cases r
  obtain ⟨its, rv, ht, hz⟩ := I.tuple hq
  obtain ⟨x1, hot, _⟩ := hc.at I
  refine assign_tuple_hot hot ht (by simp [hn, ← hl, rv.length]) hst fun h' hx => ?_
  exact h.run pins _ σ H xs _ Q (I.kept (t' := s.toks) fun b o e => hx b o (Nat.ne_of_lt (Heap.lt_size e)) e) (by simpa using rv) hw
/-- [elt for target in list if ..] within an except suite -/
theorem pe_lcH {elt tg iter : Expr} {ifs : List Expr} {scope : Scope} {own : List (Str × Nat)} {tl : TE} {g : TG} {tt : TT} {te : TE} (hc : L2H.HotC X) (hN : X.N.Nodup) (hl : PE X iter tl) (ok : BlkOk X.N X.env.scope scope own)
    (hg : ∀ (s : Shared) (H : Hp) (C : Addr) (cl : List (Str × Addr)) (fp : List Addr), HotE (X.blk s H scope (compEnvC scope cl C X.env) fp) → PG (X.blk s H scope (compEnvC scope cl C X.env) fp) tg g)
    (ht : ∀ (s : Shared) (H : Hp) (C : Addr) (cl : List (Str × Addr)) (fp : List Addr), PTs (X.blk s H scope (compEnvC scope cl C X.env) fp) ifs tt)
    (he : ∀ (s : Shared) (H : Hp) (C : Addr) (cl : List (Str × Addr)) (fp : List Addr), PE (X.blk s H scope (compEnvC scope cl C X.env) fp) elt te) (hs : ∀ x, foldedSetIterable iter X.env x = pure x := by intro _; rfl) :
    PE X (.ListComp elt [⟨tg, iter, ifs, 0⟩] scope pos) (tLc (iList X.K tl) g tt te (own.map (·.2))) := by
  refine ⟨fun pins s σ H Q I h => ?_⟩
  rw [eval_ListComp]
  have hfree : ∀ y ∈ scope.names, y.2 = .free → ∃ c, X.env.cells.lookup y.1 = some c := fun y hy e => (ok.free y hy e).elim (fun k => I.ok.has _ (.inl k)) fun k => I.ok.has _ (.inr k)
  refine wpAny_comprehension_free rfl hs (closure_ok hfree) ok.kind (fun y hy e => by rw [ok.uniq y hy, e]) (thn (hl.run pins s σ H _ I h) fun v s1 ⟨x, H1, I1, r1, a, ex, ⟨xs0, hq0⟩, q⟩ => ?_)
  subst ex
  cases r1
  obtain ⟨its0, rv0, p0, hz0⟩ := I1.list hq0
  refine wpAny_pyIter_list p0.isList ?_
  -- the walk's object, then the new list, then the block
  generalize hit : s1.heap.objs.size = it
  generalize hs2 : ({ s1 with heap := s1.heap.push { cls := .type "list_iterator", data := .fields #[.ref a, .int 0 0] } } : Shared) = s2
  have g2 : s2.heap = s1.heap.push { cls := .type "list_iterator", data := .fields #[.ref a, .int 0 0] } := by rw [← hs2]
  have I2 : Inv X pins σ H1 s2 := by rw [← hs2]; exact I1.kept (t' := s1.toks) fun b o e => Heap.get?_push_of_some _ e
  have f2 : FpOk X pins H1 it := I1.fpOk (Nat.le_of_eq hit) (I1.hok.fresh (Nat.le_of_eq hit))
  have st2 : s2.heap.IsListIter it a 0 := by rw [g2, ← hit]; exact ⟨_, Heap.get?_push_size _ rfl, rfl, rfl⟩
  have lt2 : it < s2.heap.objs.size := by obtain ⟨o, e, _⟩ := st2; exact Heap.lt_size e
  refine wpAny_newObj_type (newEnv_comp ?_) (by show 0 ≤ sizeLine; decide)
  generalize hD : s2.heap.objs.size = D
  have hDn : H1 D = none := I2.hok.fresh (Nat.le_of_eq hD)
  obtain ⟨W, ⟨m0, w0⟩, turn⟩ := q D hDn
  generalize hs3 : ({ s2 with heap := s2.heap.push { cls := .type "list", data := .seq ([] : List Value).toArray } } : Shared) = s3
  have g3 : s3.heap = s2.heap.push { cls := .type "list", data := .seq ([] : List Value).toArray } := by rw [← hs3]
  have I3 : Inv X pins σ (upd H1 D (.lst [])) s3 := by
    rw [← hs3]
    refine I2.laid (t' := s2.toks) (fun b o e => Heap.get?_push_of_some _ e) (Nat.le_of_eq hD) ⟨Nat.zero_le _, [], 0, .nil, ?_⟩
    rw [← hD]
    exact Heap.get?_push_size _ rfl
  have n3 : (upd H1 D (.lst [])) it = none := by rw [upd_ne (by rw [← hD]; exact Nat.ne_of_lt lt2)]; exact f2.1
  have st3 : s3.heap.IsListIter it a 0 := by rw [g3]; obtain ⟨o, e, r⟩ := st2; exact ⟨o, Heap.get?_push_of_some _ e, r⟩
  have f3 : ∀ b ∈ [it], FpOk X pins (upd H1 D (.lst [])) b ∧ b < s3.heap.objs.size := fun b hb => by
    rw [List.mem_singleton.mp hb]
    exact ⟨⟨n3, f2.2⟩, by obtain ⟨o, e, _⟩ := st3; exact Heap.lt_size e⟩
  have I4 := block_start I3 ok hN f3
  -- the exception handled, at the block's entry
  have hotB : ∀ ce : Env, HotE (X.blk s3 (upd H1 D (.lst [])) scope ce [it]) := fun ce => by
    obtain ⟨p, hp1, hp⟩ := hc
    obtain ⟨e1, e2, e3, e4, e5⟩ := I3.pin p (List.mem_append_left _ hp)
    refine ⟨p, hp1, e1, e2, fun z => ?_, fun z => ?_⟩
    · exact (List.mem_cons.mp (I3.stkSub p.1 z)).elim e3 e4
    · exact f2.2.2.2.2.2 p (List.mem_append_left _ hp) (List.mem_singleton.mp z)
  have pg := hg s3 (upd H1 D (.lst [])) s3.heap.objs.size (cellsFrom (s3.heap.objs.size + 1) scope.names (cloFrom X.env.cells scope.names [])) [it] (hotB _)
  have pt := ht s3 (upd H1 D (.lst [])) s3.heap.objs.size (cellsFrom (s3.heap.objs.size + 1) scope.names (cloFrom X.env.cells scope.names [])) [it]
  have pe := he s3 (upd H1 D (.lst [])) s3.heap.objs.size (cellsFrom (s3.heap.objs.size + 1) scope.names (cloFrom X.env.cells scope.names [])) [it]
  show codeAny _ _ (.compStart (.ListComp elt [⟨tg, iter, ifs, 0⟩] scope pos) 0 (.ref it) (.ref D) (compEnvC scope (cellsFrom (s3.heap.objs.size + 1) scope.names (cloFrom X.env.cells scope.names [])) s3.heap.objs.size X.env)) (compPost (model X.prog X.w) X.A X.xe _ _ (.ref D) s3.heap.objs.size) { s3 with heap := pushCells (s3.heap.push { cls := .type "dict", data := .dict #[] }) scope.names }
  generalize hce : compEnvC scope (cellsFrom (s3.heap.objs.size + 1) scope.names (cloFrom X.env.cells scope.names [])) s3.heap.objs.size X.env = ce at I4 pg pt pe ⊢
  have cL : ce.locals = s3.heap.objs.size := by subst hce; rfl
  generalize hH3 : upd H1 D (.lst []) = H3 at I3 I4 pg pt pe w0 n3 f3 hotB
  generalize hs4 : ({ s3 with heap := pushCells (s3.heap.push { cls := .type "dict", data := .dict #[] }) scope.names } : Shared) = s4 at I4 ⊢
  have st4 : s4.heap.IsListIter it a 0 := by rw [← hs4]; obtain ⟨o, e, r⟩ := st3; exact ⟨o, pushCells_keeps _ _ _ _ (Heap.get?_push_of_some _ e), r⟩
  have hb := hotB ce
  have stat : ∀ {pp : List (Addr × Obj)} {σ' : L2.St} {H' : Hp} {s' : Shared}, Inv (X.blk s3 H3 scope ce [it]) pp σ' H' s' → H' it = none → pp = [] → FpOk (X.blk s3 H3 scope ce [it]) pp H' it := fun {pp σ' H' s'} I' hn e0 =>
    ⟨hn, (I'.ok.exf it (List.mem_singleton_self _)).1, I'.ok.exfs it (List.mem_singleton_self _), .inl (List.mem_singleton_self _), fun x c e => (I'.ok.exf it (List.mem_singleton_self _)).2 x c e, fun p hp => by subst e0; exact absurd hp (by simp)⟩
  have loop : codeAny (model X.prog X.w) X.A (.compLoop (.ListComp elt [⟨tg, iter, ifs, 0⟩] scope pos) 0 (.ref it) (.ref D) ce) (compPost (model X.prog X.w) X.A X.xe none (EP X pins σ Q) (.ref D) s3.heap.objs.size) s4 := by
    refine compLoop_any (fun n s' => ∃ i H', Inv (X.blk s3 H3 scope ce [it]) [] (wipe σ (own.map (·.2))) H' s' ∧ s'.heap.IsListIter it a i ∧ H' it = none ∧ W i n H') ?_ m0 ⟨0, H3, I4, st4, n3, w0⟩
    rintro n s5 ⟨i, H5, I5, st5, n5, w5⟩
    obtain ⟨f0, f1, f2', f3', f4, f5⟩ := stat I5 n5 rfl
    rcases turn i n H5 w5 with ⟨⟨xs, hq, hx⟩, qq⟩ | ⟨⟨xs, x, hq, hx⟩, Nx, hNx, step⟩
    · obtain ⟨its, rv, p, hz⟩ := I5.list hq
      obtain ⟨x1, hot, hx1⟩ := hb.at I5
      have hlen := rv.length
      refine list_end_hot hot (fun z => hx1 (by rw [z]; exact List.mem_singleton_self _)) st5 p.isList (by simp; omega) fun h' eb => ?_
      have I6 : Inv (X.blk s3 H3 scope ce [it]) [] (wipe σ (own.map (·.2))) H5 { s5 with heap := h' } := I5.turned (t' := s5.toks) (fun b o hb e => eb b o hb e) f0 f1 f3' f4 f5
      have I7 : Inv X pins σ H5 { s5 with heap := h' } := I3.call' (ch := [it]) I6.os I6.base I6.hok I6.bare fun b hb => ⟨(f3 b hb).1.2.2.2.1, (f3 b hb).1.2.1, (f3 b hb).1.2.2.2.2.1, (f3 b hb).1.2.2.2.2.2⟩
      have nC : H5 s3.heap.objs.size = none := by rw [← cL]; exact I6.free
      obtain ⟨m, hn, _⟩ := I6.loc
      have hn : h'.Ns ce.locals m := hn
      rw [cL] at hn
      obtain ⟨c0, c1, c2, c3, c4, c5⟩ := I3.fpOk (H' := H5) (Nat.le_refl _) nC
      exact ⟨m, hn, fun h'' sb => ⟨.ref D, H5, I7.turned (t' := s5.toks) (fun b o hb e => (sb.2 b hb).trans e) c0 c1 c3 c4 c5, rfl, qq⟩⟩
    · obtain ⟨its, rv, p, hz⟩ := I5.list hq
      obtain ⟨u, hu, ru⟩ := rv.get hx
      refine wpAny_pyNext_list_item st5 p.isList (x := u) (by simpa using hu) fun h' st' sb => ?_
      have I6 : Inv (X.blk s3 H3 scope ce [it]) [] (wipe σ (own.map (·.2))) H5 { s5 with heap := h' } := I5.turned (t' := s5.toks) (fun b o hb e => (sb.2 b hb).trans e) f0 f1 f3' f4 f5
      obtain ⟨oi, ei, ci, di⟩ := id st'
      refine go_of (s := { s5 with heap := h' }) ei ci di (by decide) ?_
      have ob : ∀ b ∈ [it], ∃ o, h'.get? b = some o ∧ ∀ v, o.data ≠ .cell v := fun b hb => by
        rw [List.mem_singleton.mp hb]
        exact ⟨oi, ei, fun v z => by rw [di] at z; cases z⟩
      have I7 := I6.pinned (fun b hb => by rw [List.mem_singleton.mp hb]; exact ⟨f0, f1, f2', f3', f4, f5⟩) ob
      refine thnF (pg.run _ _ _ H5 x u _ I7 ru (step x H5 ⟨rfl, fun ys hy => by rw [I5.list_inj hy hq]; exact hx⟩)) fun _ s8 ⟨σ8, H8, I8, hw8, q8⟩ => ?_
      refine thnF (pt.run _ s8 σ8 H8 _ I8 q8) fun b s9 ⟨H9, I9, q9⟩ => ?_
      have fin : ∀ {s' : Shared} {H' : Hp}, Inv (X.blk s3 H3 scope ce [it]) ([] ++ pinsAt [it] h') σ8 H' s' → Nx H' → ∃ m, m < n ∧ ∃ i H', Inv (X.blk s3 H3 scope ce [it]) [] (wipe σ (own.map (·.2))) H' s' ∧ s'.heap.IsListIter it a i ∧ H' it = none ∧ W i m H' := fun {s' H'} I' nx => by
        obtain ⟨m', hm, w'⟩ := hNx H' nx
        obtain ⟨z1, z2, _⟩ := I'.pin (it, oi) (List.mem_append_right _ (List.mem_append_right _ (mem_pinsAt (List.mem_singleton_self _) ei)))
        refine ⟨m', hm, i + 1, H', (I'.unpinned (pins := [])).weak (by rw [← hw8, wipe_length]) (fun j v e => ?_), ⟨oi, z1, ci, di⟩, z2, w'⟩
        rw [← hw8] at e
        exact (wipe_some e).1
      cases b with
      | false =>
        simp only [Bool.false_eq_true, if_false] at q9 ⊢
        exact fin I9 q9
      | true =>
        simp only [if_true] at q9 ⊢
        refine thnF (pe.run _ s9 σ8 H9 _ I9 q9) fun z s10 ⟨yv, H10, I10, r10, acc, hD10, hz10, nx⟩ => ?_
        exact app_ok (X := X.blk s3 H3 scope ce [it]) I10 hD10 hz10 r10 fun s11 I11 => fin I11 nx
  exact codeAny_compStart_list loop (wpAny_pyIter_listiter st4 loop)
end
end Dn
namespace Dn
open PySem PySem.Spec PyProof.Rows L2
/-! ## defs that raise -/
/-- an exception of the class at c, at a state that W reaches -/
def EX (W : Wr) (G0 H0 : Hp) (c : Addr) : XK := fun cls d H => cls = .ref c ∧ d = none ∧ ∃ G, W.R G0 H0 G H
/-- the context takes it -/
def Tk (X : Cx) (W : Wr) (G0 H0 : Hp) (c : Addr) : Prop := L2N.Takes X (fun cls d _ H => EX W G0 H0 c cls d H)
abbrev FnX (P : Program) (w : World) (K : PySem.W.Frag) (mg : Str → Option Value) (base : Heap) (k : Nat) (f : Addr) (fd : FuncData) (ps : List Str) (sp : KSp) : Prop := FnOk P w K mg base (L2N.CX P w) k f fd ps (sp K)
structure Fx (P : Program) (w : World) (K : PySem.W.Frag) (mg : Str → Option Value) (base : Heap) (x : Str) (k : Nat) (ps : List Str) (sp : KSp) : Prop where
  ex : ∃ f fd, FnX P w K mg base k f fd ps sp ∧ mg x = some (.ref f) ∧ PySem.W.keepIn K (.ref f) = true ∧ Binds K fd ps []
/-- of data: it raises the class that the module names wd -/
def spX (pre : List PyData → Prop) (wd : Str) : KSp := fun K vs H _ E => ∃ G as, Same G H ∧ Ds K G vs as ∧ pre as ∧ ∀ G' H', Stp G H G' H' → E (.ref (He.ga K wd)) none H'
/-- an expression that does not come to a value -/
def Rm (X : Cx) (W : Wr) (G0 H0 : Hp) (ds : List Sl) (e : Expr) : Prop := ∀ σ G H, W.R G0 H0 G H → EnvOk X.K W G H ds σ → ∀ Q : VK, uE X e σ H Q
/-- what is known of an own class of exceptions -/
structure XC (K : PySem.W.Frag) (mg : Str → Option Value) (x : Str) : Prop where
  g : mg x = some (.ref (He.ga K x))
  e : PySem.W.excIn K (He.ga K x) He.veBase "ValueError.__new__" = true
  k : PySem.W.keepIn K (.ref (He.ga K x)) = true
  s : PySem.W.subIn K (.ref (He.ga K x)) (.type "BaseException") = some true
  t : PySem.W.typeIn K (.ref (He.ga K x)) = some (.type "type")
section
variable {X : Cx} {W : Wr} {G0 H0 : Hp} {ds : List Sl} {e a b c : Expr} {es : List Expr} {pos p2 p3 p4 p5 p6 : Pos} {P : PyData → Prop} {d : PyData} {N B C : NX} {r : RT} {rest body : List Stmt}
theorem rm_call {x wd : Str} {k : Nat} {ps : List Str} {pre : List PyData → Prop} {Pa : List PyData → Prop} (F : Fx X.prog X.w X.K X.mg X.base x k ps (spX pre wd)) (hr : Room k X.A) (tk : Tk X W G0 H0 (He.ga X.K wd)) (ha : Am X W ds (e :: es) Pa) (hp : ∀ as, Pa as → pre as) (hg : Gl X x := by rfl)
    (hdb : (x == ("__debug__" : Str)) = false := by decide) (he : starEach (e :: es) X.env = (false, eval e X.env) :: starEach es X.env := by rfl) (hpl : (backTo pos (starEach es X.env)).any (·.1) = false := by rfl) : Rm X W G0 H0 ds (.Call (.Name x p2) (e :: es) [] pos) := by
  obtain ⟨f, fd, Gf, hm, hk, hb⟩ := F.ex
  intro σ G H r env Q
  refine ⟨_, pe_call Gf hr hg hm hk hb .nil (L2N.passes_call (E := EX W G0 H0 (He.ga X.K wd)) tk fun _ _ _ _ h => h) pa_u hdb he hpl, ?_⟩
  refine ha σ G H (W.oks r) env _ fun vs as G1 H1 r1 hs p => ?_
  rw [List.append_nil]
  exact ⟨G1, as, W.sub (W.oks r1), hs, hp as p, fun G' H' st => ⟨rfl, rfl, G', W.trans r (W.trans r1 (W.step (W.oks r1) st))⟩⟩
theorem bm_exprX (h : Rm X W G0 H0 ds e) (hs : swapsWith e none pos.line X.env = pure false := by rfl) : Bm X W G0 H0 ds (.Expr e pos :: rest) N B C r :=
  bm_of (pss_cons (ps_expr pe_u hs) pss_u) fun Gb σ G H D s env n b c q => h σ G H s.r env _
theorem bm_retX (h : Rm X W G0 H0 ds e) : Bm X W G0 H0 ds (.Return (some e) pos :: rest) N B C r := bm_of (pss_cons (ps_ret pe_u) pss_never) fun Gb σ G H D s env n b c q => h σ G H s.r env _
theorem bm_setX (i : Nat) {x : Str} (h : Rm X W G0 H0 ds e) (hN : X.N.Nodup) (hi : X.N[i]? = some x := by rfl) (hx : Loc X.env.scope x := by first | exact Or.inl rfl | exact Or.inr rfl)
    (hs : swapsWith e (some (.Name x p2)) pos.line X.env = pure false := by rfl) (hf : X.fn x = true ∨ X.env.scope.names.lookup x = some .local := by first | exact .inl rfl | exact .inr rfl) : Bm X W G0 H0 ds (.Assign [.Name x p2] e pos :: rest) N B C r :=
  bm_of (pss_cons (ps_set (i := i) hN hi hx pe_u hs hf) pss_u) fun Gb σ G H D s env n b c q => h σ G H s.r env _
theorem bm_raise {x m : Str} {j : Nat} (xc : XC X.K X.mg x) (tk : Tk X W G0 H0 (He.ga X.K x)) (hc : X.calm = true) (hg : Gl X x := by rfl) (hdb : (x == ("__debug__" : Str)) = false := by decide) :
    Bm X W G0 H0 ds (.Raise (some (.Call (.Name x p2) [.Constant (.str m) j p3] [] p4)) none pos :: rest) N B C r :=
  bm_of (pss_cons (L2N.ps_raise hc tk (L2N.pmk_own PySem.F.excBase_ValueError xc.e xc.g xc.k (raises_own xc.s xc.t) hg hdb)) pss_u) fun Gb σ G H D s env n b c q => ⟨rfl, rfl, G, s.r⟩
end
section
variable {P : Program} {w : World} {K : PySem.W.Frag} {mg : Str → Option Value} {base : Heap} {x qual : Str} {params : Arguments} {body : List Stmt} {scope : Scope} {f : Addr} {fd : FuncData} {N ps : List Str} {k : Nat}
abbrev Cx1 (P : Program) (w : World) (K : PySem.W.Frag) (mg : Str → Option Value) (base : Heap) (N : List Str) (qual : Str) (scope : Scope) (f : Addr) (cdv : Value) (A : Around) (outer : List Env) (s : Shared) (H : Hp) (E : XK) : Cx := cxOf (L2N.CX P w) P w K mg base N qual scope f cdv A outer s H E
theorem tk_cx {N : List Str} {cdv : Value} {A : Around} {outer : List Env} {s : Shared} {H : Hp} {E : XK} {W : Wr} {G0 : Hp} {c : Addr} (h : ∀ G' H', W.R G0 H G' H' → E (.ref c) none H') : Tk (Cx1 P w K mg base N qual scope f cdv A outer s H E) W G0 H c :=
  (L2N.takes_of (X := Cx1 P w K mg base N qual scope f cdv A outer s H E) (E := E) rfl rfl rfl rfl).imp fun cls d σ H' ⟨e1, e2, G', r⟩ => by
    rw [e1, e2]
    exact h G' H' r
theorem passes_cx {N : List Str} {cdv : Value} {A : Around} {outer : List Env} {s : Shared} {H : Hp} {E : XK} : PassesOwn (model P w) (Cx1 P w K mg base N qual scope f cdv A outer s H E).A (Cx1 P w K mg base N qual scope f cdv A outer s H E).env (Cx1 P w K mg base N qual scope f cdv A outer s H E).xe := PassesOwn.leaving
theorem fn_X {pre : List PyData → Prop} {wd : Str} (F : FunD K x qual params body scope [] [] f fd) (S : FnScope N ps scope) (hl : ∀ as, pre as → as.length = ps.length)
    (hb : ∀ (cdv : Value) (A : Around) (outer : List Env) (s : Shared) (H : Hp) (E : XK) (G : Hp) (as : List PyData), Room k (A.deeper (envOfC qual scope s.heap.objs.size f cdv)) → Same G H → pre as → Tk (Cx1 P w K mg base N qual scope f cdv A outer s H E) pw G H (He.ga K wd) →
      Bm (Cx1 P w K mg base N qual scope f cdv A outer s H E) pw G H (sl0 N as) body nono nono nono (fun _ _ _ => False)) : FnX P w K mg base (k + 1) f fd ps (spX pre wd) := by
  refine F.ok S (fun vs H Q E ⟨G, as, sm, hd, p, _⟩ => by rw [hd.len]; exact hl as p) fun cdv A outer s H vs Q E hr ⟨G, as, sm, hd, p, q⟩ => ?_
  exact hb cdv A outer s H E G as hr sm p (tk_cx fun G' H' r => q G' H' r) G (start N vs) G H { nx := fun _ H' => Q .non H', rt := Q } ⟨.refl _, .refl sm⟩ (env0 hd) (fun _ _ _ _ _ _ z => z.elim) (fun _ _ _ _ _ _ z => z.elim) (fun _ _ _ _ _ _ z => z.elim) fun _ _ _ _ z => z.elim
theorem fx_of {sp : KSp} (F : FunD K x qual params body scope [] [] f fd) (hm : mg x = some (.ref f)) (h : FnX P w K mg base k f fd ps sp)
    (hb : ∀ (kV doc pm : Value) (an : Option Addr) (cdv ct : Value) (us : List Value), us.length = ps.length → bindArgs (PySem.W.fnOf x qual params body scope .none kV doc pm an cdv ct) ⟨us, []⟩ = pure (ps.zip us)) : Fx P w K mg base x k ps sp :=
  ⟨f, fd, h, hm, F.kp, F.bindsN hb⟩
end
/-! ## what is called by a local name -/
structure Cal (P : Program) (w : World) (K : PySem.W.Frag) (mg : Str → Option Value) (base : Heap) (k : Nat) (f : Addr) (pre : Hp → Prop) (sp : Sp) : Prop where
  fn : ∀ {H : Hp} {h : Heap}, HOk P w H h → K.In h → pre H → PySem.W.FnAt f h
  run : ∀ (A : Around) (outer : List Env) (s : Shared) (H : Hp) (us : List Value) (vs : List V) (Q : VK) (E : XK), Room k A → Env0 P w K mg base A outer s H → pre H → Vals vs us → sp vs H Q E → codeAny (model P w) A (.call (.ref f) ⟨us, []⟩) (CR (L2N.CX P w) outer P w H s Q E) s
section
variable {P : Program} {w : World} {K : PySem.W.Frag} {mg : Str → Option Value} {base : Heap} {f : Addr} {fd : FuncData} {ps : List Str} {k : Nat} {sp : Sp} {CX : CXT}
/-- a def of the module -/
theorem cal_def (F : FnOk P w K mg base CX k f fd ps sp) (hb : Binds K fd ps []) (lk : ∃ oc od sl, K.lookup f = some ⟨oc, od, .func fd, sl⟩) (hx : ∀ outer H s E e s', CX outer H s E e s' → L2N.CX P w outer H s E e s') : Cal P w K mg base k f (fun _ => True) sp where
  fn := fun {H h} _ ki _ => by
    obtain ⟨oc, od, sl, e⟩ := lk
    exact ⟨oc, od, fd, sl, ki _ _ e⟩
  run := fun A outer s H us vs Q E hr e0 _ r q => by
    have ki : K.In s.heap := e0.mod.kin.keeps fun b o e => (e0.bs b o e).1
    have z := hb s us ki (by rw [List.append_nil, ← r.length]; exact F.len _ _ _ _ q)
    rw [List.append_nil] at z
    refine codeAny_mono (F.run A outer s H ⟨us, []⟩ us vs Q E hr e0 z r q) fun x s' h => ?_
    cases x with
    | error e => exact hx outer H s E e s' h
    | ok fl =>
      cases fl with
      | ret u => exact h
      | next => exact h
      | brk => exact h
      | cont => exact h
end
/-- f(..), f a name whose slot holds it -/
def tCal (i : Nat) (f : Addr) (pre : Hp → Prop) (sp : Sp) (E : L2.St → XK) (t : TA) : TE := fun σ H Q => σ[i]? = some (some (.ref f)) ∧ pre H ∧ t σ H fun vs H1 => pre H1 ∧ sp vs H1 Q (E σ)
section
variable {X : Cx} {k i : Nat} {f : Addr} {pre : Hp → Prop} {sp : Sp} {E : L2.St → XK} {x : Str} {p pos : Pos} {e : Expr} {es : List Expr} {t : TA}
theorem pe_cal (F : Cal X.prog X.w X.K X.mg X.base k f pre sp) (hr : Room k X.A) (hx : ∀ σ, PassesAt (L2N.CX X.prog X.w) X σ (E σ)) (hN : X.N[i]? = some x) (hv : Vis X.env.scope x) (ha : PA X (e :: es) t)
    (hd : (x == ("__debug__" : Str)) = false := by decide) (hcd : (x == ("__classdict__" : Str)) = false := by decide)
    (he : starEach (e :: es) X.env = (false, eval e X.env) :: starEach es X.env := by rfl) (hpl : (backTo pos (starEach es X.env)).any (·.1) = false := by rfl) : PE X (.Call (.Name x p) (e :: es) [] pos) (tCal i f pre sp E t) := by
  refine ⟨fun pins s σ H Q I h => ?_⟩
  obtain ⟨hs, hp, ht⟩ := h
  refine wpAny_Call_Name_kw (thn ((pe_var (pos := p) hN hv hd hcd).run pins s σ H (fun v H1 => v = .ref f ∧ H1 = H) I ⟨.ref f, hs, rfl, rfl⟩) fun u s1 ⟨v, H1, I1, r1, ev, eH⟩ => ?_)
  subst ev
  rw [eH] at I1
  obtain rfl : u = Value.ref f := r1
  refine PySem.W.callWith_F (first := []) (F.fn I1.hok I1.kIn hp) (thn (ha.run pos pins s1 σ H _ I1 ht) fun us s2 ⟨vs, H2, I2, r, h1, q⟩ => ⟨F.fn I2.hok I2.kIn h1, ?_⟩) he hpl
  refine wpAny_call (codeAny_mono (F.run X.A X.stack s2 H2 us vs Q (E σ) hr I2.env0 h1 r q) fun z s' hq => ?_)
  cases z with
  | error e => exact hx σ pins H2 s2 e s' I2 hq
  | ok fl =>
    cases fl with
    | ret u => exact I2.after hq
    | next => exact False.elim hq
    | brk => exact False.elim hq
    | cont => exact False.elim hq
end
end Dn
namespace Dn
open PySem PySem.Spec PyProof.Rows L2
/-! ## the except suite -/
theorem hotc_suite {X : Cx} {a : Addr} {oe : Obj} {cls : Value} {d : Option Addr} {pn : List (Addr × Obj)} (hz : L2N.Zn cls d oe) (hf : ∃ vs, oe.data = .fields vs) : L2H.HotC (X.suite a ((a, oe) :: pn)) := by
  obtain ⟨vs, hv⟩ := hf
  exact ⟨(a, oe), ⟨rfl, vs, hv, hz.2.2 vs hv⟩, List.mem_cons_self⟩
section
variable {X : Cx} {W : Wr} {ds : List Sl} {a c elt : Expr} {pos p2 p3 p4 : Pos}
/-- [elt for a, b in list if c], an exception being handled -/
theorem em_lcFH (i j : Nat) {x y : Str} {n0 : Nat} {scope : Scope} {as : List PyData} (h : PyData → Option PyData) (ha : Em X W ds a (· = .list as)) (hpair : ∀ (n : Nat) d, as[n]? = some d → ∃ u v, d = .tuple [u, v])
    (hh : ∀ (s : Shared) (H : Hp) (C : Addr) (cl : List (Str × Addr)) (fp : List Addr) (n : Nat) (u v : PyData), as[n]? = some (.tuple [u, v]) → ∃ b, Tm (blkC X scope s H C cl fp) W ((ds.set i (.dat u)).set j (.dat v)) c (· = b) ∧ (b = false → h (.tuple [u, v]) = none) ∧ (b = true → ∃ z, h (.tuple [u, v]) = some z ∧ ∀ (s : Shared) (H : Hp) (C : Addr) (cl : List (Str × Addr)) (fp : List Addr), Em (blkC X scope s H C cl fp) W ((ds.set i (.dat u)).set j (.dat v)) elt (· = z)))
    (hz : as.length < 40000) (hc : L2H.HotC X) (hN : X.N.Nodup) (ok : BlkOk X.N X.env.scope scope [(x, i), (y, j)])
    (hg : ∀ (s : Shared) (H : Hp) (C : Addr) (cl : List (Str × Addr)) (fp : List Addr), HotE (blkC X scope s H C cl fp) → PG (blkC X scope s H C cl fp) (.Tuple [.Name x p2, .Name y p3] n0 p4) (gTup X.K 2 (gCons (gName i) (gCons (gName j) gNil)))) (hs : ∀ x, foldedSetIterable a X.env x = pure x := by intro _; rfl) :
    Em X W ds (.ListComp elt [⟨.Tuple [.Name x p2, .Name y p3] n0 p4, a, [c], 0⟩] scope pos) (· = .list (as.filterMap h)) :=
  em_of (pe_lcH hc hN pe_u ok hg (fun s H C cl fp => pts_one (pt_uTB s H C cl fp)) pe_uEB hs) (emr_lcF i j h ha hpair hh hz)
/-- isinstance(e, x), e the exception that is handled -/
theorem em_isE (n : Nat) {ad D c : Addr} {oe : Obj} {pn : List (Addr × Obj)} {x y : Str} {z : Bool} (C : ExcC X.K D) (hzc : Zc (.ref D) none oe) (hfd : ∃ vs, oe.data = .fields vs) (hn : ds[n]? = some (.raw (.ref ad))) (hk : PySem.W.kitOne X.K (.ref D) (.ref c) = some z) (hm : X.mg "isinstance" = none) (hx : X.mg x = some (.ref c))
    (hN : X.N[n]? = some y := by rfl) (hv : Vis X.env.scope y := by first | exact Or.inl rfl | exact Or.inr (Or.inl rfl) | exact Or.inr (Or.inr rfl)) (hd : (y == ("__debug__" : Str)) = false := by decide) (hcd : (y == ("__classdict__" : Str)) = false := by decide)
    (hg : Gl X "isinstance" := by rfl) (hgT : Gl X x := by rfl) (hdx : (x == ("__debug__" : Str)) = false := by decide)
    (hs1 : starEach [.Name x p3] X.env = (false, eval (.Name x p3) X.env) :: starEach [] X.env := by rfl) (hs : starEach [.Name y p4, .Name x p3] X.env = (false, eval (.Name y p4) X.env) :: starEach [.Name x p3] X.env := by rfl) (hpl : (backTo pos (starEach [.Name x p3] X.env)).any (·.1) = false := by rfl) :
    Em (X.suite ad ((ad, oe) :: pn)) W ds (.Call (.Name "isinstance" p2) [.Name y p4, .Name x p3] [] pos) (· = .bool z) :=
  em_of (X := X.suite ad ((ad, oe) :: pn)) (pe_callB (call_isE C hzc hfd) hg hm (by decide +kernel) (pa_cons (pv n hN hv hd hcd) (pa_cons (pe_glob (v := .ref c) hgT hx rfl hdx) pa_nil hs1) hs) (he := hs) (hpl := hpl)) fun σ G H ok env Q q => by
    obtain ⟨v, e1, e2⟩ := env.at hn
    exact ⟨.ref ad, by rw [e1, show v = some (V.ref ad) from e2], .ref c, .ref c, z, rfl, fun u r => r, hk, q _ _ G H (W.refl ok) (.bl _) rfl⟩
theorem em_isEB (n : Nat) {ad D : Addr} {oe : Obj} {pn : List (Addr × Obj)} {x y : Str} {T : String} {z : Bool} (C : ExcC X.K D) (hzc : Zc (.ref D) none oe) (hfd : ∃ vs, oe.data = .fields vs) (hn : ds[n]? = some (.raw (.ref ad))) (hk : PySem.W.kitOne X.K (.ref D) (.type T) = some z) (hm : X.mg "isinstance" = none) (hx : X.mg x = none) (hb : bootBuiltins x = some (.type T))
    (hN : X.N[n]? = some y := by rfl) (hv : Vis X.env.scope y := by first | exact Or.inl rfl | exact Or.inr (Or.inl rfl) | exact Or.inr (Or.inr rfl)) (hd : (y == ("__debug__" : Str)) = false := by decide) (hcd : (y == ("__classdict__" : Str)) = false := by decide)
    (hg : Gl X "isinstance" := by rfl) (hgT : Gl X x := by rfl) (hnn : x ≠ "__name__" := by decide) (hdx : (x == ("__debug__" : Str)) = false := by decide)
    (hs1 : starEach [.Name x p3] X.env = (false, eval (.Name x p3) X.env) :: starEach [] X.env := by rfl) (hs : starEach [.Name y p4, .Name x p3] X.env = (false, eval (.Name y p4) X.env) :: starEach [.Name x p3] X.env := by rfl) (hpl : (backTo pos (starEach [.Name x p3] X.env)).any (·.1) = false := by rfl) :
    Em (X.suite ad ((ad, oe) :: pn)) W ds (.Call (.Name "isinstance" p2) [.Name y p4, .Name x p3] [] pos) (· = .bool z) :=
  em_of (X := X.suite ad ((ad, oe) :: pn)) (pe_callB (call_isE C hzc hfd) hg hm (by decide +kernel) (pa_cons (pv n hN hv hd hcd) (pa_cons (pe_bltn (v := .ty T) hgT hx hb rfl hnn hdx) pa_nil hs1) hs) (he := hs) (hpl := hpl)) fun σ G H ok env Q q => by
    obtain ⟨v, e1, e2⟩ := env.at hn
    exact ⟨.ref ad, by rw [e1, show v = some (V.ref ad) from e2], .ty T, .type T, z, rfl, fun u r => r, hk, q _ _ G H (W.refl ok) (.bl _) rfl⟩
end
theorem takesN0 {X : Cx} : L2N.Takes X (fun _ _ _ _ => False) := fun _ _ x => by
  obtain ⟨_, _, _, _, _, _, _, _, _, _, _, _, _, _, _, _, z⟩ := x
  exact z.elim
/-- the reading of a try's body, of a suite, that says all -/
def uTr (X : Cx) (body : List Stmt) (W : WX) : TS := fun D σ H => ∀ (pn : List (Addr × Obj)) (xe : Value → Shared → Prop), L2N.Takes (X.tr pn xe) W → uB (X.tr pn xe) body D σ H
def uSu (X : Cx) (suite : List Stmt) (a : Addr) (cls : Value) (d : Option Addr) : TS := fun D σ H => ∀ (oe : Obj) (pn : List (Addr × Obj)), L2N.Zn cls d oe → (∃ vs, oe.data = .fields vs) → uB (X.suite a ((a, oe) :: pn)) suite D σ H
section
variable {X : Cx} {W : Wr} {G0 H0 : Hp} {ds : List Sl} {pos pos' np : Pos} {N B C N1 : NX} {r : RT} {rest body suite : List Stmt} {b0 : Stmt}
theorem ps_tryU {x n : Str} {i : Nat} {ca : Addr} (hs : X.stack = X.env :: X.outer) (hf : X.env.frame = some X.env.locals) (hN : X.N.Nodup) (hi : X.N[i]? = some n) (hln : X.env.kindOf n = some .local) (hx : X.mg x = some (.ref ca)) (hg : Gl X x) (hdb : (x == ("__debug__" : Str)) = false) :
    PS X (.Try body [.ExceptHandler (some (.Name x np)) (some n) (b0 :: suite) pos'] [] [] pos) (fun D σ H => uTr X body (wAs X.K (.ref ca) i (uSu X (b0 :: suite)) (fun _ _ _ _ => False) D) D σ H) :=
  L2N.ps_try_as (c := .ref ca) (tb := uTr X body) hs hf hN hi hln ⟨hg, hdb, .inl hx⟩ takesN0 (fun Wx pn xe tk _ => ⟨fun pins s σ H D I h => pss_u.run pins s σ H D I (h pn xe tk)⟩) fun a oe cls d pn hz hv => ⟨fun pins s σ H D I h => pss_u.run pins s σ H D I (h oe pn hz hv)⟩
/-- try: call(one, two, three), except x as n: suite -/
theorem bm_try3 {x n y y1 y2 y3 : Str} {i j j1 j2 j3 k : Nat} {ca f : Addr} {v1 v2 v3 : V} {pre : Hp → Prop} {sp : Sp} {p1 p2 p3 p4 p5 p6 : Pos} {o : Prop} {D : Addr → Prop} (F : Cal X.prog X.w X.K X.mg X.base k f pre sp) (hr : Room k X.A) (hs : X.stack = X.env :: X.outer) (hf : X.env.frame = some X.env.locals) (hN : X.N.Nodup) (hx : X.mg x = some (.ref ca))
    (hD : ∀ c, D c → PySem.W.exmOne X.K (.ref c) (.ref ca) = some true) (h0 : ds[j]? = some (.raw (.ref f))) (h1 : ds[j1]? = some (.raw v1)) (h2 : ds[j2]? = some (.raw v2)) (h3 : ds[j3]? = some (.raw v3))
    (hcall : ∀ G H, W.R G0 H0 G H → pre H ∧ ∀ (Q : VK) (E : XK), (∀ v G2 H2, o → W.R G H G2 H2 → Q v H2) → (∀ c G2 H2, D c → W.R G H G2 H2 → E (.ref c) none H2) → sp [v1, v2, v3] H Q E)
    (hn : o → N1 ds)
    (hsu : ∀ (a : Addr) (oe : Obj) (c : Addr) (pn : List (Addr × Obj)), D c → L2N.Zn (.ref c) none oe → (∃ vs, oe.data = .fields vs) → Bm (X.suite a ((a, oe) :: pn)) W G0 H0 (ds.set i (.raw (.ref a))) (b0 :: suite) (fun ds' => N1 (ds'.set i .un)) nono nono (fun _ _ _ => False))
    (kk : ∀ ds', N1 ds' → Bm X W G0 H0 ds' rest N B C r)
    (hi : X.N[i]? = some n := by rfl) (hln : X.env.kindOf n = some .local := by rfl) (hg : Gl X x := by rfl) (hdb : (x == ("__debug__" : Str)) = false := by decide)
    (hj : X.N[j]? = some y := by rfl) (hj1 : X.N[j1]? = some y1 := by rfl) (hj2 : X.N[j2]? = some y2 := by rfl) (hj3 : X.N[j3]? = some y3 := by rfl)
    (hv : Vis X.env.scope y := by first | exact Or.inl rfl | exact Or.inr (Or.inl rfl) | exact Or.inr (Or.inr rfl)) (hv1 : Vis X.env.scope y1 := by first | exact Or.inl rfl | exact Or.inr (Or.inl rfl) | exact Or.inr (Or.inr rfl)) (hv2 : Vis X.env.scope y2 := by first | exact Or.inl rfl | exact Or.inr (Or.inl rfl) | exact Or.inr (Or.inr rfl)) (hv3 : Vis X.env.scope y3 := by first | exact Or.inl rfl | exact Or.inr (Or.inl rfl) | exact Or.inr (Or.inr rfl))
    (hd : (y == ("__debug__" : Str)) = false := by decide) (hd1 : (y1 == ("__debug__" : Str)) = false := by decide) (hd2 : (y2 == ("__debug__" : Str)) = false := by decide) (hd3 : (y3 == ("__debug__" : Str)) = false := by decide)
    (hc : (y == ("__classdict__" : Str)) = false := by decide) (hc1 : (y1 == ("__classdict__" : Str)) = false := by decide) (hc2 : (y2 == ("__classdict__" : Str)) = false := by decide) (hc3 : (y3 == ("__classdict__" : Str)) = false := by decide)
    (hsw : ∀ env, swapsWith (.Call (.Name y p1) [.Name y1 p2, .Name y2 p3, .Name y3 p4] [] p5) none p6.line env = pure false := by intro _; rfl)
    (s3 : starEach [.Name y3 p4] X.env = (false, eval (.Name y3 p4) X.env) :: starEach [] X.env := by rfl) (s2 : starEach [.Name y2 p3, .Name y3 p4] X.env = (false, eval (.Name y2 p3) X.env) :: starEach [.Name y3 p4] X.env := by rfl) (s1 : starEach [.Name y1 p2, .Name y2 p3, .Name y3 p4] X.env = (false, eval (.Name y1 p2) X.env) :: starEach [.Name y2 p3, .Name y3 p4] X.env := by rfl)
    (hpl : (backTo p5 (starEach [.Name y2 p3, .Name y3 p4] X.env)).any (·.1) = false := by rfl) :
    Bm X W G0 H0 ds (.Try [.Expr (.Call (.Name y p1) [.Name y1 p2, .Name y2 p3, .Name y3 p4] [] p5) p6] [.ExceptHandler (some (.Name x np)) (some n) (b0 :: suite) pos'] [] [] pos :: rest) N B C r := by
  refine bm_st (N1 := N1) (ps_tryU hs hf hN hi hln hx hg hdb) (fun Gb σ G H Dn s env nx b cc q pn xe tk => ?_) kk
  refine ⟨_, pss_one (ps_expr (pe_cal (X := X.tr pn xe) (i := j) (E := fun σ cls d H2 => wAs X.K (.ref ca) i (uSu X (b0 :: suite)) (fun _ _ _ _ => False) Dn cls d σ H2) F hr (L2N.passAt tk) hj hv (pa_cons (pv j1 hj1 hv1 hd1 hc1) (pa_cons (pv j2 hj2 hv2 hd2 hc2) (pa_cons (pv j3 hj3 hv3 hd3 hc3) pa_nil s3) s2) s1) hd hc s1 hpl) (hsw _)), ?_⟩
  obtain ⟨z0, e0, q0⟩ := env.at h0
  obtain ⟨z1, e1, q1⟩ := env.at h1
  obtain ⟨z2, e2, q2⟩ := env.at h2
  obtain ⟨z3, e3, q3⟩ := env.at h3
  obtain ⟨hp, hq⟩ := hcall G H s.r
  have q0 : z0 = some (V.ref f) := q0
  have q1 : z1 = some v1 := q1
  have q2 : z2 = some v2 := q2
  have q3 : z3 = some v3 := q3
  subst q0 q1 q2 q3
  refine ⟨e0, hp, v1, e1, v2, e2, v3, e3, hp, hq _ _ (fun v G2 H2 ho r2 => nx ds σ G2 H2 (s.to r2) (env.mono r2) (hn ho)) fun c G2 H2 hc r2 => ⟨true, hD c hc, fun _ a ha oe pn' hz hv => ?_, fun z => nomatch z⟩⟩
  exact hsu a oe c pn' hc hz hv Gb _ G2 H2 _ (s.to r2) ((env.mono r2).set i (x := some (.ref a)) (s := .raw (.ref a)) rfl) (fun ds' σ' G3 H3 s3 e3 p => nx _ _ G3 H3 s3 (e3.set i (x := none) (s := .un) trivial) p) (fun _ _ _ _ _ _ z => z.elim) (fun _ _ _ _ _ _ z => z.elim) fun _ _ _ _ z => z.elim
end
end Dn
namespace Dn
open PySem PySem.Spec PyProof.Rows L2 LamX
/-! ## worlds in which what is at S may change, I kept -/
structure Mi (S : Addr → Prop) (I : Hp → Hp → Prop) : Prop where
  mono : ∀ {G H G1 H1 : Hp}, I G H → Same G G1 → (∀ a, S a → H1 a = H a) → I G1 H1
structure MwR (S : Addr → Prop) (I : Hp → Hp → Prop) (G H G1 H1 : Hp) : Prop where
  g : Same G G1
  i : Same G1 H1
  o : ∀ a, S a → G1 a = none ∧ H1 a ≠ none
  v : I G1 H1
  h : ∀ a o, ¬ S a → H a = some o → H1 a = some o
  k : ∀ a, H a ≠ none → G a = none → G1 a = none
theorem some_ne {H : Hp} {a : Addr} {o : HO} (h : H a = some o) : H a ≠ none := by rw [h]; exact fun z => nomatch z
theorem ne_some {H : Hp} {a : Addr} (h : H a ≠ none) : ∃ o, H a = some o := by
  cases e : H a with
  | none => exact absurd e h
  | some o => exact ⟨o, rfl⟩
theorem MwR.there {S : Addr → Prop} {I : Hp → Hp → Prop} {G H G1 H1 : Hp} (r : MwR S I G H G1 H1) {a : Addr} (h : H a ≠ none) : H1 a ≠ none := by
  by_cases s : S a
  · exact (r.o a s).2
  · obtain ⟨o, e⟩ := ne_some h
    exact some_ne (r.h a o s e)
def mw (S : Addr → Prop) (I : Hp → Hp → Prop) (m : Mi S I) : Wr where
  ok := fun G H => Same G H ∧ (∀ a, S a → G a = none ∧ H a ≠ none) ∧ I G H
  R := MwR S I
  stb := fun a => ¬ S a
  fl := false
  refl := fun h => ⟨.refl _, h.1, h.2.1, h.2.2, fun _ _ _ q => q, fun _ _ q => q⟩
  trans := fun a c => ⟨a.g.trans c.g, c.i, c.o, c.v, fun x o hx q => c.h x o hx (a.h x o hx q), fun x hx gx => c.k x (a.there hx) (a.k x hx gx)⟩
  step := fun {G H G1 H1} o s => by
    have key : ∀ a, S a → H1 a = H a := fun a ha => by
      obtain ⟨u, e⟩ := ne_some (o.2.1 a ha).2
      rw [e, s.h a u e]
    exact ⟨s.g, s.i, fun a ha => ⟨s.k a (o.2.1 a ha).2 (o.2.1 a ha).1, by rw [key a ha]; exact (o.2.1 a ha).2⟩, m.mono o.2.2 s.g key, fun a o _ q => s.h a o q, s.k⟩
  oks := fun h => ⟨h.i, h.o, h.v⟩
  sub := fun h => h.1
  g := fun h => h.g
  own := fun s ha g h => ⟨s.h _ _ ha h, s.k _ (some_ne h) g⟩
  fresh := fun {G H G1 H1 a} s h => by
    cases q : H a with
    | none => rfl
    | some o => exact absurd h (s.there (some_ne q))
  new := fun o h z => (o.2.1 _ z).2 h
  frz := fun {G H G1 H1 a o} s ha h0 g1 h1 => ⟨s.g.trans (same_upd g1), same_in s.i h1, fun b hb => ⟨by
    rw [upd_ne (fun z => ha (by rw [← z]; exact hb))]
    exact (s.o b hb).1, (s.o b hb).2⟩, m.mono s.v (same_upd g1) fun _ _ => rfl, s.h, fun x hx gx => by
      rw [upd_ne (fun z => hx (by rw [z]; exact h0))]
      exact s.k x hx gx⟩
  chg := fun {G H G1 H1 a o o'} s ha h0 g1 h1 => by
    have key : ∀ b, S b → upd H1 a o' b = H1 b := fun b hb => upd_ne (fun z => ha (by rw [← z]; exact hb))
    exact ⟨s.g, same_upd2 s.i g1, fun b hb => ⟨(s.o b hb).1, by rw [key b hb]; exact (s.o b hb).2⟩, m.mono s.v (.refl _) key, fun x u hx q => by
      rw [upd_ne (fun z => by rw [z, h0] at q; cases q)]
      exact s.h x u hx q, s.k⟩
/-- a smaller world within a greater one -/
structure Sub (W W' : Wr) : Prop where
  ok : ∀ {G H}, W'.ok G H → W.ok G H
  R : ∀ {G H G1 H1}, W'.ok G H → W.R G H G1 H1 → W'.R G H G1 H1
  stb : ∀ {a}, W'.stb a → W.stb a
  fl : W'.fl = W.fl
theorem EnvOk.sub {K : PySem.W.Frag} {W W' : Wr} {G H : Hp} {ds : List Sl} {σ : L2.St} (s : Sub W W') (h : EnvOk K W' G H ds σ) : EnvOk K W G H ds σ := ⟨h.1, fun i t x a b => by
  have z := h.2 i t x a b
  cases t with
  | un => trivial
  | dat d => exact z
  | raw v => exact z
  | own a xs => exact ⟨z.1, z.2.1, s.stb z.2.2.1, z.2.2.2⟩
  | scr K1 a ns => exact z
  | kep q pt ms ss =>
    obtain ⟨h1, h2, h3⟩ := z
    exact ⟨h1, s.fl ▸ h2, h3.go, h3.gd, h3.gm, h3.gs, s.stb h3.to, s.stb h3.td, s.stb h3.tm, s.stb h3.ts, h3.ne, h3.ex⟩⟩
section
variable {X : Cx} {W W' : Wr} {ds : List Sl} {e : Expr} {es : List Expr} {P : PyData → Prop}
theorem em_subW (s : Sub W W') (h : Em X W ds e P) : Em X W' ds e P := fun σ G H ok env Q q => h σ G H (s.ok ok) (env.sub s) Q fun v d G2 H2 r hd p => q v d G2 H2 (s.R ok r) hd p
theorem tm_subW {P : Bool → Prop} (s : Sub W W') (h : Tm X W ds e P) : Tm X W' ds e P := fun σ G H ok env Q q => h σ G H (s.ok ok) (env.sub s) Q fun b G2 H2 r p => q b G2 H2 (s.R ok r) p
end
/-! ## a table of code objects -/
def TabG (P : Addr) (q : Str) (G H : Hp) : Prop := ∃ ps : Array Value, H P = some (.tbl ps) ∧ TriplesOk ps.toList ∧ ∀ (pos : Pos) (cv : Value), codeAmong pos ps.toList = some cv → ∃ c, cv = .ref c ∧ G c = some (CodeO c q)
theorem TabG.mono {P : Addr} {q : Str} {G H G1 H1 : Hp} (t : TabG P q G H) (g : Same G G1) (e : H1 P = H P) : TabG P q G1 H1 := by
  obtain ⟨ps, h1, h2, h3⟩ := t
  exact ⟨ps, e.trans h1, h2, fun pos cv hc => by
    obtain ⟨c, e1, e2⟩ := h3 pos cv hc
    exact ⟨c, e1, g _ _ e2⟩⟩
theorem mi_tab (P : Addr) (q : Str) : Mi (· = P) (TabG P q) := ⟨fun t g e => t.mono g (e P rfl)⟩
abbrev tw (P : Addr) (q : Str) : Wr := mw (· = P) (TabG P q) (mi_tab P q)
/-- a lambda that captures nothing -/
structure LF where
  q : Str
  params : Arguments
  body : Expr
  scope : Scope
def LamO (f : Addr) (F : LF) (c : Addr) : HO := .ext fun h => ∃ pm ctv : Value, h.get? f = some (PySem.W.kla_obj "<lambda>" F.q F.params F.body F.scope [] pm c ctv)
theorem lamO_at {P : Program} {w : World} {H : Hp} {h : Heap} {f c : Addr} {F : LF} (hok : HOk P w H h) (e : H f = some (LamO f F c)) : ∃ pm ctv : Value, h.get? f = some (PySem.W.kla_obj "<lambda>" F.q F.params F.body F.scope [] pm c ctv) := by
  obtain ⟨z, _, _⟩ := hok f _ e
  exact z
section
variable {X : Cx} {pins : List (Addr × Obj)} {σ : L2.St} {H : Hp} {s : Shared}
theorem inv_lam {F : LF} {c : Addr} {o : Obj} {t' : Nat} {pm ctv : Value} (I : Inv X pins σ H s) (ho : o = PySem.W.kla_obj "<lambda>" F.q F.params F.body F.scope [] pm c ctv) :
    Inv X pins σ (upd H s.heap.objs.size (LamO s.heap.objs.size F c)) { s with heap := s.heap.push o, toks := t' } := by
  subst ho
  refine I.laid (a := s.heap.objs.size) (fun b u e => Heap.get?_push_of_some _ e) (Nat.le_refl _) ?_
  have e : (s.heap.push (PySem.W.kla_obj "<lambda>" F.q F.params F.body F.scope [] pm c ctv)).get? s.heap.objs.size = some (PySem.W.kla_obj "<lambda>" F.q F.params F.body F.scope [] pm c ctv) := Heap.get?_push_size _ rfl
  exact ⟨⟨pm, ctv, e⟩, ⟨_, e⟩, fun h1 h2 ⟨p, t, z⟩ st => ⟨p, t, st _ z⟩⟩
/-- the reading of a lambda: its code object is new, or found in the table -/
def tLam3 (P : Addr) (F : LF) (pos : Pos) : TE := fun _ H Q => ∃ ps : Array Value, H P = some (.tbl ps) ∧ TriplesOk ps.toList ∧ (∀ cv, codeAmong pos ps.toList = some cv → ∃ c, cv = .ref c ∧ H c = some (CodeO c F.q)) ∧
  (∀ f c, H c = none → H f = none → f ≠ c → Q (.ref f) (upd (upd (upd H P (.tbl (ps ++ #[rawInt pos.line, rawInt pos.col, .ref c]))) c (CodeO c F.q)) f (LamO f F c))) ∧
  ∀ f c, codeAmong pos ps.toList = some (.ref c) → H f = none → Q (.ref f) (upd H f (LamO f F c))
theorem pe_lam3 {c P : Addr} {params : Arguments} {body : Expr} {scope : Scope} {pos : Pos} (TB : TabB X.base X.mg c P) (hcode : X.env.code = .ref c) (hdef : defaultsOf params X.env = ([], [])) (hclo : ∀ y ∈ scope.names, y.2 ≠ .free) (hcl : ∀ cs : List (Str × Addr), cloFrom cs scope.names [] = []) :
    PE X (.Lambda params body scope pos) (tLam3 P ⟨X.env.qual ++ "<lambda>", params, body, scope⟩ pos) := by
  refine ⟨fun pins s σ H Q I h => ?_⟩
  obtain ⟨ps, hP, ht, ha, h1, h2⟩ := h
  refine PySem.W.kla_eval hdef ?_
  have hfree : ∀ y ∈ scope.names, y.2 = .free → ∃ c, X.env.cells.lookup y.1 = some c := fun y hy e => absurd e (hclo y hy)
  have bP : s.heap.BuiltinsAt X.mg P := TB.bm.keeps I.bk
  have hP' : s.heap.get? P = some { cls := .none, data := .fields ps } := I.hok P _ hP
  have hclz := closure_ok (env := X.env) hfree
  rw [hcl] at hclz
  cases hc : codeAmong pos ps.toList with
  | none =>
    refine PySem.W.kla_makeFunction (mg := X.mg) (c := c) (P := P) (ps := ps) hclz I.ok.glob (I.mod.glob.keeps I.bk) hcode (TB.code.keeps I.bk) hP' ht hc TB.gP bP fun c' ctv h' tk hx hge hlt hrec htb => ?_
    obtain ⟨c2, oc, vs, t, e2, hoc, hd, hv⟩ := hrec
    cases e2
    have I1 := inv_table (t' := tk) (more := #[rawInt pos.line, rawInt pos.col, .ref c']) (h' := h') I hP (fun b o hb e => hx b o hb e) htb hge ⟨oc, vs, t, hoc, hd, hv⟩
    have I2 := inv_lam (F := ⟨X.env.qual ++ "<lambda>", params, body, scope⟩) (c := c') (t' := tk) (pm := (X.mg "__name__").getD .none) (ctv := ctv) I1 rfl
    exact ⟨.ref h'.objs.size, _, I2, rfl, h1 h'.objs.size c' (I.hok.fresh hge) (I.hok.fresh (Nat.le_trans hge (Nat.le_of_lt hlt))) (Nat.ne_of_gt hlt)⟩
  | some cv =>
    obtain ⟨c', e, hco⟩ := ha cv hc
    subst e
    refine PySem.W.kla_makeFunctionHit (mg := X.mg) (c := c) (P := P) (ps := ps) hclz I.ok.glob (I.mod.glob.keeps I.bk) hcode (TB.code.keeps I.bk) hP' ht hc bP fun ctv h' tk hx hsz => ?_
    have I1 : Inv X pins σ H { s with heap := h', toks := tk } := I.kept hx
    have I2 := inv_lam (F := ⟨X.env.qual ++ "<lambda>", params, body, scope⟩) (c := c') (t' := tk) (pm := (X.mg "__name__").getD .none) (ctv := ctv) I1 rfl
    exact ⟨.ref h'.objs.size, _, I2, rfl, h2 h'.objs.size c' hc (I1.hok.fresh (Nat.le_refl _))⟩
end
/-- in the world of the table -/
theorem tw_lam {P : Addr} {F : LF} {pos : Pos} {σ : L2.St} {G H : Hp} {Q : VK} (ok : (tw P F.q).ok G H) (q : ∀ f c G1 H1, (tw P F.q).R G H G1 H1 → G1 f = some (LamO f F c) → G1 c = some (CodeO c F.q) → Q (.ref f) H1) : tLam3 P F pos σ H Q := by
  obtain ⟨sm, hS, ps, hP, ht, ha⟩ := id ok
  have gP : G P = none := (hS P rfl).1
  refine ⟨ps, hP, ht, fun cv hc => ?_, fun f c hc hf hfc => ?_, fun f c hc hf => ?_⟩
  · obtain ⟨c, e1, e2⟩ := ha pos cv hc
    exact ⟨c, e1, sm _ _ e2⟩
  · have gc : G c = none := sm.free hc
    have gf : G f = none := sm.free hf
    have ncP : c ≠ P := fun z => by rw [z, hP] at hc; cases hc
    have nfP : f ≠ P := fun z => by rw [z, hP] at hf; cases hf
    have g1 : Same G (upd (upd G c (CodeO c F.q)) f (LamO f F c)) := (same_upd gc).trans (same_upd (by rw [upd_ne hfc]; exact gf))
    have eL : (ps ++ #[rawInt pos.line, rawInt pos.col, .ref c]).toList = ps.toList ++ [rawInt pos.line, rawInt pos.col, .ref c] := by simp
    have hH : Same (upd (upd G c (CodeO c F.q)) f (LamO f F c)) (upd (upd (upd H P (.tbl (ps ++ #[rawInt pos.line, rawInt pos.col, .ref c]))) c (CodeO c F.q)) f (LamO f F c)) := same_both (same_both (same_upd2 sm gP))
    refine q f c _ _ ⟨g1, hH, fun a ha => ?_, ⟨_, by rw [upd_ne (Ne.symm nfP), upd_ne (Ne.symm ncP), upd_same], by rw [eL]; exact PySem.TriplesOk_snoc _ _ _ _ ht, fun p' cv hcv => ?_⟩, fun a o hp e => ?_, fun a hx gx => ?_⟩ upd_same (by rw [upd_ne (Ne.symm hfc), upd_same])
    · have ha : a = P := ha
      subst ha
      exact ⟨by rw [upd_ne (Ne.symm nfP), upd_ne (Ne.symm ncP)]; exact gP, by rw [upd_ne (Ne.symm nfP), upd_ne (Ne.symm ncP), upd_same]; exact fun z => nomatch z⟩
    · rw [eL] at hcv
      rcases among_app _ ht hcv with z | z
      · obtain ⟨c0, e1, e2⟩ := ha p' cv z
        exact ⟨c0, e1, g1 _ _ e2⟩
      · exact ⟨c, z, by rw [upd_ne (Ne.symm hfc), upd_same]⟩
    · rw [upd_ne (ne_of_none e hf), upd_ne (ne_of_none e hc), upd_ne hp]
      exact e
    · rw [upd_ne (fun z => hx (by rw [z]; exact hf)), upd_ne (fun z => hx (by rw [z]; exact hc))]
      exact gx
  · obtain ⟨c0, e1, e2⟩ := ha pos _ hc
    cases e1
    have gf : G f = none := sm.free hf
    have st := Stp.new (o := LamO f F c) sm hf
    exact q f c _ _ ((tw P F.q).step ok st) upd_same (st.g _ _ e2)
/-! ## a lambda called -/
abbrev lcx (P : Program) (w : World) (K : PySem.W.Frag) (mg : Str → Option Value) (base : Heap) (N : List Str) (F : LF) (c f : Addr) (A : Around) (outer : List Env) (s : Shared) (H : Hp) (E : XK) : Cx := NdefX.ncx (L2N.CX P w) P w K mg base N ⟨"<lambda>", F.q, F.params, [], F.scope, [], c⟩ f A outer s H E
section
variable {P : Program} {w : World} {K : PySem.W.Frag} {mg : Str → Option Value} {base : Heap} {f c : Addr} {F : LF} {N ps : List Str} {k : Nat} {sp : Sp}
theorem cal_lam (S : NdefX.NScope N ps [] F.scope) (hb : ∀ (pm ctv : Value) (us : List Value), us.length = ps.length → bindArgs (PySem.W.kla_fn "<lambda>" F.q F.params F.body F.scope [] pm (.ref c) ctv) ⟨us, []⟩ = pure (ps.zip us)) (len : ∀ vs H Q E, sp vs H Q E → vs.length = ps.length)
    (hbody : ∀ (A : Around) (outer : List Env) (s : Shared) (H : Hp) (vs : List V) (Q : VK) (E : XK), Room k (lcx P w K mg base N F c f A outer s H E).A → sp vs H Q E → uE (lcx P w K mg base N F c f A outer s H E) F.body (L2.start N vs) H Q) :
    Cal P w K mg base (k + 1) f (fun H => H f = some (LamO f F c) ∧ H c = some (CodeO c F.q)) sp where
  fn := fun {H h} hok _ hp => by
    obtain ⟨pm, ctv, e⟩ := lamO_at hok hp.1
    exact ⟨_, _, _, _, e⟩
  run := fun A outer s H us vs Q E hr e0 hp r hsp => by
    have hl := len _ _ _ _ hsp
    have lim : s.heap.NoLimit := e0.mod.nolimit.keeps fun b o e => (e0.bs b o e).1
    obtain ⟨pm, ctv, ho⟩ := lamO_at e0.hok hp.1
    refine PySem.W.kla_callFunE hr.depth ho rfl S.co S.gen rfl (NdefX.codeO_at e0.hok hp.2) ?_
    rw [hb pm ctv us (by rw [← r.length]; exact hl)]
    refine wpAny_pure (wpAny_newFunctionEnv S.nocell (fun ⟨n, _⟩ hy => S.par n (List.of_mem_zip hy).1) (fun h₁ hns hsb => ⟨lim.fresh _ hsb, ?_⟩) S.kind)
    have kp : ∀ b o, s.heap.get? b = some o → h₁.get? b = some o := fun b o e => hsb.extBut b o (Nat.ne_of_lt (Heap.lt_size e)) (Heap.get?_push_of_some _ e)
    have C : NdefX.CellsAt [] [] [] s.heap H := ⟨rfl, (fun y c e => by simp at e), (fun x y c e => by simp at e), (fun i y e => by simp at e)⟩
    have I : Inv (lcx P w K mg base N F c f A outer s H E) [] (NdefX.startF N vs []) H { s with heap := h₁, toks := s.toks + (ps.zip us).length } := NdefX.inv_startN S hr.hd e0 hl r C hns kp
    have es : NdefX.startF N vs [] = L2.start N vs := rfl
    rw [es] at I
    refine PySem.W.kla_codeExpr (wpAny_mono (pe_u.run [] _ _ H Q I (hbody A outer s H vs Q E (hr.deeper _) hsp)) (fun v s' hq => ?_) fun e s' hq => hq)
    obtain ⟨w', H', J', rv, q⟩ := hq
    exact ⟨w', H', J'.os, J'.bare, J'.base, J'.hok, rv, q⟩
theorem tk_lcx {A : Around} {outer : List Env} {s : Shared} {H : Hp} {E : XK} {W : Wr} {G0 : Hp} {c0 : Addr} (h : ∀ G' H', W.R G0 H G' H' → E (.ref c0) none H') : Tk (lcx P w K mg base N F c f A outer s H E) W G0 H c0 :=
  (L2N.takes_of (X := lcx P w K mg base N F c f A outer s H E) (E := E) rfl rfl rfl rfl).imp fun cls d σ H' ⟨e1, e2, G', r⟩ => by
    rw [e1, e2]
    exact h G' H' r
end
end Dn
namespace Dn
open PySem PySem.Spec PyProof.Rows L2 LamX
section
variable {P : Program} {w : World} {K : PySem.W.Frag} {mg : Str → Option Value} {base : Heap} {x qual : Str} {params : Arguments} {body : List Stmt} {scope : Scope} {fd : FuncData} {N ps : List Str} {k : Nat} {p : He.Defn}
/-- a def whose code object is told -/
theorem okC {CX : CXT} {sp : Sp} (F : FunD K x qual params body scope [] [] (He.fAd K p) fd) (S : FnScope N ps scope) (len : ∀ vs H Q E, sp vs H Q E → vs.length = ps.length)
    (hbody : ∀ (A : Around) (outer : List Env) (s : Shared) (H : Hp) (vs : List V) (Q : VK) (E : XK), Room k (A.deeper (envOfC qual scope s.heap.objs.size (He.fAd K p) (.ref (He.codeOf K p)))) → sp vs H Q E →
      ∃ t, PSs (cxOf CX P w K mg base N qual scope (He.fAd K p) (.ref (He.codeOf K p)) A outer s H E) body t ∧ t { nx := fun _ H' => Q .non H', rt := Q } (start N vs) H) : FnOk P w K mg base CX (k + 1) (He.fAd K p) fd ps sp := by
  obtain ⟨oc, od, dV, kV, doc, pm, an, cdv, ct, osl, rfl, lk, hcd, _, _⟩ := F.ex
  obtain ⟨c, e⟩ := He.codeIn_ref hcd
  have e2 := He.codeOf_eq lk (c := c) e
  refine fn_of lk hcd S len fun A outer s H vs Q E hr hsp => ?_
  rw [e, ← e2] at hr ⊢
  exact hbody A outer s H vs Q E hr hsp
/-- of data, in the world of the table of the def p -/
def spT {α : Type} (p : He.Defn) (q : Str) (enc : α → List PyData) (pre : α → Prop) (post : α → PyData → Prop) : KSp := fun K vs H Q _ => ∃ G v, (tw (He.cT K p).2 q).ok G H ∧ Ds K G vs (enc v) ∧ pre v ∧ ∀ u d G' H', (tw (He.cT K p).2 q).R G H G' H' → Dd K G' u d → post v d → Q u H'
theorem fn_T {α : Type} {q : Str} {enc : α → List PyData} {pre : α → Prop} {post : α → PyData → Prop} (F : FunD K x qual params body scope [] [] (He.fAd K p) fd) (S : FnScope N ps scope) (hl : ∀ v, (enc v).length = ps.length)
    (hb : ∀ (A : Around) (outer : List Env) (s : Shared) (H : Hp) (E : XK) (G : Hp) (v : α), Room k (A.deeper (envOfC qual scope s.heap.objs.size (He.fAd K p) (.ref (He.codeOf K p)))) → (tw (He.cT K p).2 q).ok G H → pre v →
      Bm (Cx0 P w K mg base N qual scope (He.fAd K p) (.ref (He.codeOf K p)) A outer s H E) (tw (He.cT K p).2 q) G H (sl0 N (enc v)) body (fun _ => post v .none) nono nono (rD K (post v))) : FnO P w K mg base (k + 1) (He.fAd K p) fd ps (spT p q enc pre post) := by
  refine okC F S (fun vs H Q E ⟨G, v, sm, hd, p, _⟩ => by rw [hd.len]; exact hl v) fun A outer s H vs Q E hr ⟨G, v, ok, hd, p, q⟩ => ?_
  obtain ⟨t, ht, h⟩ := hb A outer s H E G v hr ok p G (start N vs) G H { nx := fun _ H' => Q .non H', rt := Q } ⟨.refl _, (tw _ _).refl ok⟩ (env0 hd) (fun ds' σ' G2 H2 s2 _ p2 => q .non .none G2 H2 s2.r .non p2) (fun _ _ _ _ _ _ z => z.elim) (fun _ _ _ _ _ _ z => z.elim) fun u G2 H2 s2 ⟨d, hd2, p2⟩ => q u d G2 H2 s2 hd2 p2
  exact ⟨t, ht.nox, h⟩
end
section
variable {X : Cx} {W : Wr} {ds : List Sl} {e : Expr} {es : List Expr} {pos p2 p3 : Pos} {P : PyData → Prop}
theorem em_callT {α : Type} {p : He.Defn} {q : Str} {enc : α → List PyData} {pre : α → Prop} {post : α → PyData → Prop} (v : α) {x : Str} {k : Nat} {ps : List Str} (F : Fk X.prog X.w X.K X.mg X.base x k ps (spT p q enc pre post)) (hr : Room k X.A) (sb : Sub (tw (He.cT X.K p).2 q) W) (ha : Am X W ds (e :: es) (· = enc v)) (hp : pre v) (hg : Gl X x := by rfl)
    (hdb : (x == ("__debug__" : Str)) = false := by decide) (he : starEach (e :: es) X.env = (false, eval e X.env) :: starEach es X.env := by rfl) (hpl : (backTo pos (starEach es X.env)).any (·.1) = false := by rfl) : Em X W ds (.Call (.Name x p2) (e :: es) [] pos) (post v) := by
  obtain ⟨f, fd, G, hm, hk, hb⟩ := F.ex
  refine em_of (pe_call G hr hg hm hk hb .nil pass0 pa_u hdb he hpl) fun σ G0 H0 ok env Q q => ha σ G0 H0 ok env _ fun vs as G1 H1 r1 hs ev => ?_
  subst ev
  rw [List.append_nil]
  exact ⟨G1, v, sb.ok (W.oks r1), hs, hp, fun u d G2 H2 st hd hpo => q u d G2 H2 (W.trans r1 (sb.R (W.oks r1) st)) hd hpo⟩
end
/-! ## calls that may be refused -/
/-- of data: o none: it comes back with something; some wd: it raises that -/
def spO (pre : List PyData → Prop) (o : Option Str) : KSp := fun K vs H Q E => ∃ G as, Same G H ∧ Ds K G vs as ∧ pre as ∧ (∀ v G' H', o = none → Stp G H G' H' → Q v H') ∧ ∀ wd G' H', o = some wd → Stp G H G' H' → E (.ref (He.ga K wd)) none H'
theorem Cal.imp {P : Program} {w : World} {K : PySem.W.Frag} {mg : Str → Option Value} {base : Heap} {k j : Nat} {f : Addr} {pre : Hp → Prop} {sp sp' : Sp} (c : Cal P w K mg base k f pre sp) (hk : k ≤ j) (h : ∀ vs H Q E, sp' vs H Q E → sp vs H Q E) : Cal P w K mg base j f pre sp' :=
  ⟨c.fn, fun A outer s H us vs Q E hr e0 hp r q => c.run A outer s H us vs Q E (hr.mono hk) e0 hp r (h _ _ _ _ q)⟩
/-- a def of the module, handed on -/
structure Fc (P : Program) (w : World) (K : PySem.W.Frag) (mg : Str → Option Value) (base : Heap) (x : Str) (k : Nat) (sp : KSp) : Prop where
  ex : ∃ f, mg x = some (.ref f) ∧ Cal P w K mg base k f (fun _ => True) (sp K)
section
variable {P : Program} {w : World} {K : PySem.W.Frag} {mg : Str → Option Value} {base : Heap} {x qual : Str} {params : Arguments} {body : List Stmt} {scope : Scope} {f : Addr} {fd : FuncData} {ps : List Str} {k j : Nat}
theorem fc_X {pre : List PyData → Prop} {wd : Str} (F : FunD K x qual params body scope [] [] f fd) (hm : mg x = some (.ref f)) (h : FnX P w K mg base k f fd ps (spX pre wd)) (hk : k ≤ j)
    (hb : ∀ (kV doc pm : Value) (an : Option Addr) (cdv ct : Value) (us : List Value), us.length = ps.length → bindArgs (PySem.W.fnOf x qual params body scope .none kV doc pm an cdv ct) ⟨us, []⟩ = pure (ps.zip us)) : Fc P w K mg base x j (spO pre (some wd)) := by
  refine ⟨f, hm, (cal_def h (F.bindsN hb) ?_ fun _ _ _ _ _ _ z => z).imp hk fun vs H Q E ⟨G, as, sm, hd, p, _, hE⟩ => ⟨G, as, sm, hd, p, fun G' H' st => hE wd G' H' rfl st⟩⟩
  obtain ⟨oc, od, dV, kV, doc, pm, an, cdv, ct, osl, e, lk, _⟩ := F.ex
  exact ⟨oc, od, osl, lk⟩
end
end Dn
namespace Dn
open PySem PySem.Spec PyProof.Rows L2 LamX
section
variable {X : Cx} {W : Wr} {G0 H0 : Hp} {ds : List Sl} {e a b c : Expr} {es : List Expr} {pos p2 p3 p4 p5 p6 : Pos} {P : PyData → Prop} {d : PyData} {N B C : NX} {r : RT} {rest body : List Stmt}
/-- for i, x in enumerate(list) -/
theorem bm_forE {N1 : NX} (i j : Nat) {x y : Str} {n0 : Nat} {as : List PyData} (ha : Em X W ds a (· = .list as)) (I : Nat → List Sl → Prop) (h0 : I 0 ds) (hp : PassesOwn (model X.prog X.w) X.A X.env X.xe) (hc : X.calm = true) (hz : X.mg "enumerate" = none)
    (hs : ∀ (n : Nat) d ds', as[n]? = some d → I n ds' → Bm X W G0 H0 ((ds'.set i (.dat (.int n))).set j (.dat d)) body (I (n + 1)) N1 (I (n + 1)) r) (hd : ∀ ds', I as.length ds' → N1 ds') (k : ∀ ds', N1 ds' → Bm X W G0 H0 ds' rest N B C r) (hN : X.N.Nodup) (hi : X.N[i]? = some x := by rfl) (hj : X.N[j]? = some y := by rfl) (hx : Loc X.env.scope x := by first | exact Or.inl rfl | exact Or.inr rfl) (hy : Loc X.env.scope y := by first | exact Or.inl rfl | exact Or.inr rfl)
    (hfx : X.fn x = true ∨ X.env.scope.names.lookup x = some .local := by first | exact .inl rfl | exact .inr rfl) (hfy : X.fn y = true ∨ X.env.scope.names.lookup y = some .local := by first | exact .inl rfl | exact .inr rfl) (hg : Gl X "enumerate" := by rfl)
    (hs1 : (assignEach [.Name x p2, .Name y p3] X.env).map (·.2) = assign (.Name x p2) X.env :: (assignEach [.Name y p3] X.env).map (·.2) := by rfl) (hs2 : (assignEach [.Name y p3] X.env).map (·.2) = assign (.Name y p3) X.env :: (assignEach [] X.env).map (·.2) := by rfl)
    (hn1 : (assignEach [.Name x p2, .Name y p3] X.env).length = 2 := by rfl) (hst : (assignEach [.Name x p2, .Name y p3] X.env).findIdx? (·.1) = none := by rfl) (he1 : starEach [a] X.env = [(false, eval a X.env)] := by rfl) (he2 : starEach [a] X.env = (false, eval a X.env) :: starEach [] X.env := by rfl)
    (hs' : ∀ x, foldedSetIterable (.Call (.Name "enumerate" p5) [a] [] p6) X.env x = pure x := by intro _; rfl) : Bm X W G0 H0 ds (.For (.Tuple [.Name x p2, .Name y p3] n0 p4) (.Call (.Name "enumerate" p5) [a] [] p6) body [] pos :: rest) N B C r :=
  bm_st (ps_for hp hc (pi_enum hg hz (pa_cons pe_u pa_nil he2) he1) (pg_tup hc (pgs_cons (pg_name (i := i) hN hi hx hfx) (pgs_cons (pg_name (i := j) hN hj hy hfy) pgs_nil hs2) hs1) hn1 hst) pss_u hs') (fun Gb σ G H D s env n b cc q => ha σ G H s.ok env _ fun v d G1 H1 r1 hv e => by
    subst e
    cases hv with
    | @lst ad us _ hq hus =>
      refine ⟨ad, us, rfl, .inl (.inl (W.sub (W.oks r1) _ _ hq)), for_it (walk_enum (K := X.K) (xs := us)) (fun n σ' H' => ∃ ds' G', At W G1 G0 H0 G' H' ∧ EnvOk X.K W G' H' ds' σ' ∧ I n ds') ⟨ds, G1, ⟨.refl _, (s.to r1).r⟩, env.mono r1, h0⟩ ?_ ?_ ?_⟩
      · rintro m σ' H' _ ⟨ds', G', s', _, _⟩
        exact .inl (.inl (W.sub s'.ok _ _ (s'.b _ _ hq)))
      · rintro m y' σ' H' H'' hm ⟨ds', G', s', env', hI⟩ ⟨TT, x1, x2, rfl, hT, rfl, hx1, hx2⟩
        cases hx1
        obtain ⟨d2, g2, t2⟩ := hus.atV hx2
        have st : Stp G' H' G' (upd H' TT (.tup [.int (m : Nat), x2])) := ⟨.refl _, same_upd2 (W.sub s'.ok) ((W.sub s'.ok).free hT), same_upd hT, fun _ _ h => h⟩
        have r3 := W.step s'.ok st
        refine ⟨TT, [.int (m : Nat), x2], rfl, SqT.of upd_same, rfl, .int (m : Nat), [x2], rfl, x2, [], rfl, rfl, ?_⟩
        exact hs m d2 ds' g2 hI G1 _ G' _ _ (s'.to r3) (((env'.mono r3).set i (.dat (.int _))).set j (.dat (dmono s'.b _ _ t2))) (fun ds2 σ2 G3 H3 s3 e3 p => ⟨ds2, G3, s3, e3, p⟩) (fun ds2 σ2 G3 H3 s3 e3 p => n ds2 σ2 G3 H3 ⟨(s.to r1).b.trans s3.b, s3.r⟩ e3 p) (fun ds2 σ2 G3 H3 s3 e3 p => ⟨ds2, G3, s3, e3, p⟩) q
      · rintro σ' H' ⟨ds', G', s', env', hI⟩
        exact n ds' σ' G' H' ⟨(s.to r1).b.trans s'.b, s'.r⟩ env' (hd ds' (by rw [← hus.len]; exact hI))) k
/-- for x in range(lo, hi) -/
theorem bm_forR2 {N1 : NX} (i : Nat) {x : Str} {lo hi : Int} (ha : Em X W ds a (· = .int lo)) (hb : Em X W ds b (· = .int hi)) (hz : -(2 ^ 62) ≤ lo ∧ lo < 2 ^ 62 ∧ -(2 ^ 62) ≤ hi ∧ hi < 2 ^ 62) (I : Nat → List Sl → Prop) (h0 : I 0 ds) (hp : PassesOwn (model X.prog X.w) X.A X.env X.xe) (hc : X.calm = true)
    (hs : ∀ (n : Nat) ds', n < (hi - lo).toNat → I n ds' → Bm X W G0 H0 (ds'.set i (.dat (.int (lo + n)))) body (I (n + 1)) N1 (I (n + 1)) r) (hd : ∀ ds', I (hi - lo).toNat ds' → N1 ds') (k : ∀ ds', N1 ds' → Bm X W G0 H0 ds' rest N B C r) (hm : X.mg "range" = none) (hN : X.N.Nodup) (hi' : X.N[i]? = some x := by rfl) (hx : Loc X.env.scope x := by first | exact Or.inl rfl | exact Or.inr rfl)
    (hf : X.fn x = true ∨ X.env.scope.names.lookup x = some .local := by first | exact .inl rfl | exact .inr rfl) (hg : Gl X "range" := by rfl) (hs0 : starEach [a, b] X.env = [(false, eval a X.env), (false, eval b X.env)] := by rfl) (hs1 : starEach [b] X.env = [(false, eval b X.env)] := by rfl) (hs2 : starEach [b] X.env = (false, eval b X.env) :: starEach [] X.env := by rfl) (hs3 : starEach [a, b] X.env = (false, eval a X.env) :: starEach [b] X.env := by rfl)
    (hs' : ∀ x, foldedSetIterable (.Call (.Name "range" p3) [a, b] [] p4) X.env x = pure x := by intro _; rfl) :
    Bm X W G0 H0 ds (.For (.Name x p2) (.Call (.Name "range" p3) [a, b] [] p4) body [] pos :: rest) N B C r :=
  bm_st (ps_for hp hc (pi_range2 hg hm (pa_cons pe_u (pa_cons pe_u pa_nil hs2) hs3) hs0 hs1) (pg_name (i := i) hN hi' hx hf) pss_u hs') (fun Gb σ G H D s env n b cc q => ha σ G H s.ok env _ fun v d G1 H1 r1 hv e => hb σ G1 H1 (W.oks r1) (env.mono r1) _ fun v' d' G2 H2 r2 hv' e' => by
    subst e
    subst e'
    cases hv
    cases hv'
    refine ⟨lo, hi, rfl, hz, for_range (fun n σ' H' => ∃ ds' G', At W Gb G0 H0 G' H' ∧ EnvOk X.K W G' H' ds' σ' ∧ I n ds') ⟨ds, G2, (s.to r1).to r2, (env.mono r1).mono r2, h0⟩ ?_ ?_⟩
    · rintro m σ' H' hm ⟨ds', G', s', env', hI⟩
      exact hs m ds' hm hI Gb _ G' H' _ s' (env'.set i (.dat (.int _))) (fun ds2 σ2 G3 H3 s3 e3 p => ⟨ds2, G3, s3, e3, p⟩) (fun ds2 σ2 G3 H3 s3 e3 p => n ds2 σ2 G3 H3 s3 e3 p) (fun ds2 σ2 G3 H3 s3 e3 p => ⟨ds2, G3, s3, e3, p⟩) q
    · rintro σ' H' ⟨ds', G', s', env', hI⟩
      exact n ds' σ' G' H' s' env' (hd ds' hI)) k
end
section
variable {X : Cx} {W : Wr} {G0 H0 : Hp} {ds : List Sl} {e a b c elt : Expr} {es : List Expr} {pos p2 p3 p4 p5 p6 : Pos} {P : PyData → Prop} {d : PyData} {N B C : NX} {r : RT} {rest body : List Stmt} {Pe : Nat → PyData → Prop}
/-- y = [elt for x in a list] -/
theorem bm_setLcL (i v : Nat) {x y : Str} {scope : Scope} {as : List PyData} (ha : Em X W ds a (· = .list as))
    (he : ∀ (s : Shared) (H : Hp) (C : Addr) (cl : List (Str × Addr)) (fp : List Addr) (n : Nat) (d : PyData), as[n]? = some d → Em (X.blk s H scope (compEnvC scope cl C X.env) fp) W (ds.set v (.dat d)) elt (Pe n))
    (k : ∀ ys : List PyData, ys.length = as.length → (∀ n y, ys[n]? = some y → Pe n y) → Bm X W G0 H0 (ds.set i (.dat (.list ys))) rest N B C r) (hz : as.length ≤ 40000) (hc : X.calm = true) (hN : X.N.Nodup) (ok : BlkOk X.N X.env.scope scope [(x, v)])
    (hg : ∀ (s : Shared) (H : Hp) (C : Addr) (cl : List (Str × Addr)) (fp : List Addr), PG (X.blk s H scope (compEnvC scope cl C X.env) fp) (.Name x p2) (gName v)) (hy : X.N[i]? = some y := by rfl) (hyl : X.env.scope.names.lookup y = some .local := by rfl)
    (hsw : swapsWith (.ListComp elt [⟨.Name x p2, a, [], 0⟩] scope p4) (some (.Name y p3)) pos.line X.env = pure true) (hs : ∀ x, foldedSetIterable a X.env x = pure x := by intro _; rfl) :
    Bm X W G0 H0 ds (.Assign [.Name y p3] (.ListComp elt [⟨.Name x p2, a, [], 0⟩] scope p4) pos :: rest) N B C r :=
  bm_st (N1 := fun ds' => ∃ ys : List PyData, ys.length = as.length ∧ (∀ n y, ys[n]? = some y → Pe n y) ∧ ds' = ds.set i (.dat (.list ys))) (ps_setLc hc hN hy hyl hsw (pi_list pe_u) ok hg (fun _ _ _ _ _ => pts_nil) pe_uEB hs) (fun Gb σ G H D s env n b cc q => ha σ G H s.ok env _ fun u d G1 H1 r1 hu e => by
    subst e
    cases hu with
    | @lst ad us _ hq hus =>
      refine ⟨ad, rfl, ⟨us, .inl (.inl (W.sub (W.oks r1) _ _ hq))⟩, fun D' hD => lc_list (K := X.K) (xs := us) (LcI X.K W G H ds σ G1 D' Pe) (lc_start r1 env hD) (fun i H' _ h => ?_) (fun i y H' hi h => ?_) fun H' h => ?_⟩
      · obtain ⟨G', vs, ys, r, g1, env, gD, hv, hd, hl, hpe⟩ := h.ex
        exact .inl (.inl (W.sub (W.oks r) _ _ (g1 _ _ hq)))
      · show wipe ((wipe σ [v]).set v (some y)) [v] = wipe σ [v] ∧ _
        rw [wipe_set]
        obtain ⟨G', vs, ys, r, g1, env', gD, hv, hd, hl, hpe⟩ := h.ex
        obtain ⟨dd, e1, e2⟩ := hus.atV hi
        have hlt : i < us.length := (List.getElem?_eq_some_iff.mp hi).1
        refine ⟨wipe_back σ v y, fun s0 H0 C cl fp => ?_⟩
        show uE _ elt ((wipe σ [v]).set v (some y)) H' _
        rw [wipe_set]
        exact he s0 H0 C cl fp i dd e1 _ G' H' (W.oks r) (env'.set v (.dat (dmono g1 _ _ e2))) _ fun y d G4 H4 r4 hy py => lc_turn (W.fresh r1 hD) (W.new (W.oks r1) hD) env r g1 env' gD hv hd hl hpe (by rw [hus.len] at hlt; omega) r4 hy py
      · refine lc_end (P := fun d => ∃ ys : List PyData, d = .list ys ∧ ys.length = as.length ∧ ∀ n y, ys[n]? = some y → Pe n y) (Q := fun x H1 => gName i x σ H1 D.nx) (W.fresh r1 hD) (W.new (W.oks r1) hD) (fun ys hl hp => ⟨ys, rfl, by rw [hl, hus.len], hp⟩) (fun v' d' G2 H2 r2 hd2 ⟨ys, e, hl, hp⟩ => ?_) h
        subst e
        exact n _ _ G2 H2 (s.to r2) ((env.mono r2).set i (.dat hd2)) ⟨ys, hl, hp, rfl⟩) fun ds' ⟨ys, h1, h2, e⟩ => by
    rw [e]
    exact k ys h1 h2
/-- for x in a tuple of which not all is known -/
theorem bm_forTQ {N1 : NX} (i : Nat) {x : Str} (Pm : PyData → Prop) (ha : Em X W ds a (fun d => ∃ as, d = .tuple as ∧ ∀ y ∈ as, Pm y)) (I : List Sl → Prop) (h0 : I ds) (hp : PassesOwn (model X.prog X.w) X.A X.env X.xe) (hc : X.calm = true)
    (hs : ∀ d ds', Pm d → I ds' → Bm X W G0 H0 (ds'.set i (.dat d)) body I N1 I r) (hd : ∀ ds', I ds' → N1 ds') (k : ∀ ds', N1 ds' → Bm X W G0 H0 ds' rest N B C r) (hN : X.N.Nodup) (hi : X.N[i]? = some x := by rfl) (hx : Loc X.env.scope x := by first | exact Or.inl rfl | exact Or.inr rfl)
    (hf : X.fn x = true ∨ X.env.scope.names.lookup x = some .local := by first | exact .inl rfl | exact .inr rfl) (hs' : ∀ x, foldedSetIterable a X.env x = pure x := by intro _; rfl) : Bm X W G0 H0 ds (.For (.Name x p2) a body [] pos :: rest) N B C r :=
  bm_st (ps_for hp hc (pi_tup pe_u) (pg_name (i := i) hN hi hx hf) pss_u hs') (fun Gb σ G H D s env n b cc q => ha σ G H s.ok env _ fun v d G1 H1 r1 hv ⟨as, e, hall⟩ => by
    subst e
    cases hv with
    | @tup ad us _ hq hus =>
      refine ⟨ad, rfl, ⟨us, hq.sq (W.sub (W.oks r1))⟩, for_tup (K := X.K) (xs := us) (fun _ σ' H' => ∃ ds' G', At W G1 G0 H0 G' H' ∧ EnvOk X.K W G' H' ds' σ' ∧ I ds') ⟨ds, G1, ⟨.refl _, (s.to r1).r⟩, env.mono r1, h0⟩ ?_ ?_ ?_⟩
      · rintro m σ' H' _ ⟨ds', G', s', _, _⟩
        exact (hq.mono s'.b).sq (W.sub s'.ok)
      · rintro m y σ' H' hm ⟨ds', G', s', env', hI⟩
        obtain ⟨dd, h1, h2⟩ := hus.atV hm
        exact hs dd ds' (hall dd (List.mem_of_getElem? h1)) hI G1 _ G' H' _ s' (env'.set i (.dat (dmono s'.b _ _ h2))) (fun ds2 σ2 G3 H3 s3 e3 p => ⟨ds2, G3, s3, e3, p⟩) (fun ds2 σ2 G3 H3 s3 e3 p => n ds2 σ2 G3 H3 ⟨(s.to r1).b.trans s3.b, s3.r⟩ e3 p) (fun ds2 σ2 G3 H3 s3 e3 p => ⟨ds2, G3, s3, e3, p⟩) q
      · rintro σ' H' ⟨ds', G', s', env', hI⟩
        exact n ds' σ' G' H' ⟨(s.to r1).b.trans s'.b, s'.r⟩ env' (hd ds' hI)) k
end
/-! ## a law with a table -/
def BagI (b : Addr) (G H : Hp) : Prop := ∃ (l : Addr) (k : Int) (ns : List Int), H b = some (.lst [.ref l, .int k]) ∧ G l = some (.lst (ns.map V.int)) ∧ ns.length = 400
theorem BagI.mono {b : Addr} {G H G1 H1 : Hp} (t : BagI b G H) (g : Same G G1) (e : H1 b = H b) : BagI b G1 H1 := by
  obtain ⟨l, k, ns, h1, h2, h3⟩ := t
  exact ⟨l, k, ns, e.trans h1, g _ _ h2, h3⟩
theorem mi_bt (b P : Addr) (q : Str) : Mi (fun a => a = b ∨ a = P) (fun G H => BagI b G H ∧ TabG P q G H) := ⟨fun t g e => ⟨t.1.mono g (e b (.inl rfl)), t.2.mono g (e P (.inr rfl))⟩⟩
abbrev btw (b P : Addr) (q : Str) : Wr := mw (fun a => a = b ∨ a = P) (fun G H => BagI b G H ∧ TabG P q G H) (mi_bt b P q)
theorem tab_ne {b P : Addr} {q : Str} {G H : Hp} (t : BagI b G H) (u : TabG P q G H) : b ≠ P := fun z => by
  obtain ⟨l, k, ns, h1, _⟩ := t
  obtain ⟨ps, h2, _⟩ := u
  rw [z, h2] at h1
  cases h1
theorem sub_bag (b P : Addr) (q : Str) : Sub (bw b) (btw b P q) where
  ok := fun h => ⟨h.1, (h.2.1 b (.inl rfl)).1, h.2.2.1⟩
  R := fun {G H G1 H1} o s => by
    have ne := tab_ne o.2.2.1 o.2.2.2
    obtain ⟨u, eu⟩ := ne_some (o.2.1 P (.inr rfl)).2
    have eP : H1 P = H P := by rw [eu, s.h P u (Ne.symm ne) eu]
    have bi : BagI b G1 H1 := s.ok.2.2
    refine ⟨s.g, s.ok.1, fun a ha => ?_, ⟨bi, o.2.2.2.mono s.g eP⟩, fun a x ha e => s.h a x (fun z => ha (.inl z)) e, s.k⟩
    rcases ha with rfl | rfl
    · obtain ⟨l, k, ns, h1, _⟩ := bi
      exact ⟨s.ok.2.1, some_ne h1⟩
    · exact ⟨s.k _ (o.2.1 _ (.inr rfl)).2 (o.2.1 _ (.inr rfl)).1, by rw [eP]; exact (o.2.1 _ (.inr rfl)).2⟩
  stb := fun h z => h (.inl z)
  fl := rfl
theorem sub_tab (b P : Addr) (q : Str) : Sub (tw P q) (btw b P q) where
  ok := fun h => ⟨h.1, fun a ha => h.2.1 a (.inr ha), h.2.2.2⟩
  R := fun {G H G1 H1} o s => by
    have ne := tab_ne o.2.2.1 o.2.2.2
    obtain ⟨u, eu⟩ := ne_some (o.2.1 b (.inl rfl)).2
    have eb : H1 b = H b := by rw [eu, s.h b u ne eu]
    refine ⟨s.g, s.i, fun a ha => ?_, ⟨o.2.2.1.mono s.g eb, s.v⟩, fun a x ha e => s.h a x (fun z => ha (.inr z)) e, s.k⟩
    rcases ha with rfl | rfl
    · exact ⟨s.k _ (o.2.1 _ (.inl rfl)).2 (o.2.1 _ (.inl rfl)).1, by rw [eb]; exact (o.2.1 _ (.inl rfl)).2⟩
    · exact s.o _ rfl
  stb := fun h z => h (.inr z)
  fl := rfl
theorem mi_lt (bs : List Addr) (P : Addr) (q : Str) : Mi (fun a => a ∈ bs ∨ a = P) (TabG P q) := ⟨fun t g e => t.mono g (e P (.inr rfl))⟩
abbrev lwt (bs : List Addr) (P : Addr) (q : Str) : Wr := mw (fun a => a ∈ bs ∨ a = P) (TabG P q) (mi_lt bs P q)
theorem bt_lwt {bs : List Addr} {b P : Addr} {q : Str} {G H G1 H1 : Hp} (hb : b ∈ bs) (o : (lwt bs P q).ok G H) (s : (btw b P q).R G H G1 H1) : (lwt bs P q).R G H G1 H1 :=
  ⟨s.g, s.i, fun a ha => by
    refine ⟨s.k a (o.2.1 a ha).2 (o.2.1 a ha).1, s.there (o.2.1 a ha).2⟩, s.v.2, fun a x ha e => s.h a x (fun z => by
      rcases z with z | z
      · exact ha (.inl (by rw [z]; exact hb))
      · exact ha (.inr z)) e, s.k⟩
section
variable {X : Cx} {pos p2 p3 p4 p5 p6 p7 : Pos}
/-- as law_loop, with a table at Pt -/
theorem law_loopT {x sc bn : Str} {k m : Nat} {ps : List Str} {ad Pt : Addr} {qt : Str} {ns : List Int} {z : Int} {body rest : List Stmt} {G H : Hp} {σ : L2.St} {Q : VK} {kk : Nat} (F : Fk X.prog X.w X.K X.mg X.base x k ps spBags) (hr : Room k X.A) (hz : 1 ≤ z ∧ z ≤ 100)
    (hlen : σ.length = m) (hm : 2 ≤ m) (h0 : σ[0]? = some (some (.ref ad))) (sm : Same G H) (hS : SqL X.K G ad (ns.map V.int)) (gP : G Pt = none) (tab : TabG Pt qt G H) (q : ∀ H', Q (.bl true) H')
    (hbody : ∀ (b : Addr) (G1 H1 : Hp), (btw b Pt qt).ok G1 H1 → Bm X (btw b Pt qt) G1 H1 (.scr X.K ad ns :: .raw (.ref b) :: List.replicate (m - 2) .un) body (fun ds' => ds'.length = m ∧ ds'[0]? = some (.scr X.K ad ns)) nono nono (rD X.K (· = .bool true)))
    (hrest : ∀ (bs : List Addr) (G1 H1 : Hp), Bm X (lwt bs Pt qt) G1 H1 (.scr X.K ad ns :: List.replicate (m - 1) .un) rest nono nono nono (rD X.K (· = .bool true)))
    (hp : PassesOwn (model X.prog X.w) X.A X.env X.xe) (hc : X.calm = true) (hN : X.N.Nodup) (hN0 : X.N[0]? = some sc := by rfl) (hi : X.N[1]? = some bn := by rfl) (hx : Loc X.env.scope bn := by first | exact Or.inl rfl | exact Or.inr rfl) (hf : X.fn bn = true ∨ X.env.scope.names.lookup bn = some .local := by first | exact .inl rfl | exact .inr rfl)
    (hv : Vis X.env.scope sc := by first | exact Or.inl rfl | exact Or.inr (Or.inl rfl) | exact Or.inr (Or.inr rfl)) (hd : (sc == ("__debug__" : Str)) = false := by decide) (hcd : (sc == ("__classdict__" : Str)) = false := by decide) (hg : Gl X x := by rfl)
    (hdb : (x == ("__debug__" : Str)) = false := by decide) (he1 : starEach [.Constant (.int z) kk p6] X.env = (false, eval (.Constant (.int z) kk p6) X.env) :: starEach [] X.env := by rfl) (he : starEach [.Name sc p5, .Constant (.int z) kk p6] X.env = (false, eval (.Name sc p5) X.env) :: starEach [.Constant (.int z) kk p6] X.env := by rfl)
    (hpl : (backTo p4 (starEach [.Constant (.int z) kk p6] X.env)).any (·.1) = false := by rfl) (hs : ∀ y, foldedSetIterable (.Call (.Name x p3) [.Name sc p5, .Constant (.int z) kk p6] [] p4) X.env y = pure y := by intro _; rfl) :
    ∃ t, PSs X (.For (.Name bn p2) (.Call (.Name x p3) [.Name sc p5, .Constant (.int z) kk p6] [] p4) body [] pos :: rest) t ∧ t { nx := fun _ H' => Q .non H', rt := Q } σ H := by
  obtain ⟨f, fd, Gf, hmf, hk, hb⟩ := F.ex
  refine ⟨_, pss_cons (ps_for hp hc (pi_list (pe_call Gf hr hg hmf hk hb .nil pass0 (pa_cons (pv 0 hN0 hv hd hcd) (pa_cons pe_int pa_nil he1) he) hdb he hpl)) (pg_name (i := 1) hN hi hx hf) pss_u hs) pss_u, ?_⟩
  refine ⟨.ref ad, h0, ?_⟩
  refine ⟨ad, G, ns, z, rfl, hz.1, hz.2, sm, hS, fun L bs G1 H1 st hL nd hbs => ?_⟩
  have hPn : H Pt ≠ none := by obtain ⟨ps, e, _⟩ := tab; exact some_ne e
  have tab1 : TabG Pt qt G1 H1 := tab.mono st.g (by obtain ⟨u, eu⟩ := ne_some hPn; rw [eu, st.h _ _ eu])
  have gP1 : G1 Pt = none := st.k Pt hPn gP
  have tabN : ∀ {G H : Hp}, TabG Pt qt G H → H Pt ≠ none := fun {G H} t => by obtain ⟨ps, e, _⟩ := t; exact some_ne e
  have o1 : (lwt bs Pt qt).ok G1 H1 := ⟨st.i, fun a ha => by
    rcases ha with ha | rfl
    · obtain ⟨g, l, k, ns, e, _⟩ := hbs a ha
      exact ⟨g, some_ne e⟩
    · exact ⟨gP1, tabN tab1⟩, tab1⟩
  have fin : ∀ v G2 H2, (rD X.K (· = .bool true)) v G2 H2 → Q v H2 := fun v G2 H2 ⟨d, hd, e⟩ => by
    subst e
    cases hd
    exact q H2
  refine ⟨L, rfl, ⟨_, .inl (.inl (st.i _ _ hL))⟩, for_list (K := X.K) (xs := bs.map V.ref) (fun n σ' H' => ∃ G', (lwt bs Pt qt).R G1 H1 G' H' ∧ σ'.length = m ∧ σ'[0]? = some (some (.ref ad)) ∧ ∀ j b, n ≤ j → bs[j]? = some b → BagAt b G' H') ⟨G1, (lwt bs Pt qt).refl o1, hlen, h0, fun j b _ hj => hbs b (List.mem_of_getElem? hj)⟩ ?_ ?_ ?_⟩
  · rintro n σ' H' _ ⟨G', r, _⟩
    exact .inl (.inl (r.i _ _ (r.g _ _ hL)))
  · rintro n y σ' H' hn ⟨G', r, hl', h0', hbs'⟩
    rw [List.getElem?_map] at hn
    cases eb : bs[n]? with
    | none =>
      rw [eb] at hn
      cases hn
    | some b =>
      rw [eb] at hn
      cases hn
      have bo := hbs' n b (Nat.le_refl _) eb
      have hb : b ∈ bs := List.mem_of_getElem? eb
      have okl := (lwt bs Pt qt).oks r
      have bok : (btw b Pt qt).ok G' H' := ⟨r.i, fun a ha => okl.2.1 a (ha.imp (fun z => by rw [z]; exact hb) id), bo.2, r.v⟩
      have env : EnvOk X.K (btw b Pt qt) G' H' (.scr X.K ad ns :: .raw (.ref b) :: List.replicate (m - 2) .un) (σ'.set 1 (some (.ref b))) := by
        refine ⟨by rw [List.length_cons, List.length_cons, List.length_replicate, List.length_set, hl']; omega, fun i s y a c => ?_⟩
        match i with
        | 0 =>
          cases a
          rw [List.getElem?_set_ne (by decide), h0'] at c
          cases c
          exact ⟨rfl, (st.g.trans r.g).seq hS⟩
        | 1 =>
          cases a
          rw [List.getElem?_set_self (by omega)] at c
          cases c
          rfl
        | i + 2 =>
          rw [List.getElem?_cons_succ, List.getElem?_cons_succ, List.getElem?_replicate] at a
          split at a
          · cases a
            trivial
          · cases a
      have next : ∀ (ds' : List Sl) σ2 G2 H2, At (btw b Pt qt) G' G' H' G2 H2 → EnvOk X.K (btw b Pt qt) G2 H2 ds' σ2 → ds'[0]? = some (.scr X.K ad ns) → σ2.length = m → ∃ G', (lwt bs Pt qt).R G1 H1 G' H2 ∧ σ2.length = m ∧ σ2[0]? = some (some (.ref ad)) ∧ ∀ j b, n + 1 ≤ j → bs[j]? = some b → BagAt b G' H2 := fun ds' σ2 G2 H2 s2 e2 hd l2 => by
        obtain ⟨y, e3, e4, _⟩ := e2.at hd
        refine ⟨G2, (lwt bs Pt qt).trans r (bt_lwt hb okl s2.r), l2, by rw [e3, e4], fun j c hj hc => ?_⟩
        have ncb : c ≠ b := fun z => by
          rw [z] at hc
          obtain ⟨h1, q1⟩ := List.getElem?_eq_some_iff.mp hc
          obtain ⟨h2, q2⟩ := List.getElem?_eq_some_iff.mp eb
          have := (List.getElem_inj nd).mp (q1.trans q2.symm)
          omega
        obtain ⟨g, l, k, ns, e, hl, h4⟩ := hbs' j c (by omega) hc
        have ncP : c ≠ Pt := fun z => by
          obtain ⟨ps, e', _⟩ := r.v
          rw [z, e'] at e
          cases e
        exact ⟨s2.r.k c (some_ne e) g, l, k, ns, s2.r.h c _ (fun z => z.elim ncb ncP) e, s2.r.g _ _ hl, h4⟩
      exact hbody b G' H' bok G' _ G' H' _ ⟨.refl _, (btw b Pt qt).refl bok⟩ env (fun ds2 σ2 G2 H2 s2 e2 p => next ds2 σ2 G2 H2 s2 e2 p.2 (e2.1.symm.trans p.1)) (fun _ _ _ _ _ _ z => z.elim) (fun _ _ _ _ _ _ z => z.elim) fun v G2 H2 _ h => fin v G2 H2 h
  · rintro σ' H' ⟨G', r, hl', h0', _⟩
    have env : EnvOk X.K (lwt bs Pt qt) G' H' (.scr X.K ad ns :: List.replicate (m - 1) .un) σ' := by
      refine ⟨by rw [List.length_cons, List.length_replicate, hl']; omega, fun i s y a c => ?_⟩
      match i with
      | 0 =>
        cases a
        rw [h0'] at c
        cases c
        exact ⟨rfl, (st.g.trans r.g).seq hS⟩
      | i + 1 =>
        rw [List.getElem?_cons_succ, List.getElem?_replicate] at a
        split at a
        · cases a
          trivial
        · cases a
    exact hrest bs G' H' G' σ' G' H' _ ⟨.refl _, (lwt bs Pt qt).refl ((lwt bs Pt qt).oks r)⟩ env (fun _ _ _ _ _ _ z => z.elim) (fun _ _ _ _ _ _ z => z.elim) (fun _ _ _ _ _ _ z => z.elim) fun v G2 H2 _ h => fin v G2 H2 h
end
end Dn
namespace Dn
open PySem PySem.Spec PyProof.Rows L2
open AutoSeq1 (wpAny_loadPart')
/-! ## enumerate(zip(list, list)) -/
/-- a zip whose first pair is still held by someone -/
abbrev IsZipH (h : Heap) (z TI TO T0 : Addr) (f1 : Bool) : Prop := h.get? z = some { cls := .type "zip", dict := none, data := .fields #[rawInt T0, .bool f1, .bool false, .ref TI, .ref TO], slots := #[] }
theorem meets_enum_zip (z TI TO : Addr) : Meets (Builtin.«enumerate.__new__» ⟨[.type "enumerate", .ref z], []⟩) (fun _ R s => IsZip s.heap z TI TO .none ∧
    R (.ok (.ret (.ref s.heap.objs.size))) { s with heap := s.heap.push { cls := .type "enumerate", data := .fields #[.none, .bool false, .ref z, rawInt 0, .none, .none] } }) :=
  .of_wp fun prog w A R s h => by
    obtain ⟨hp, g, d, tk, os⟩ := s
    obtain ⟨hl, h⟩ := h
    have hsub := sub_enumerate
    wp_walk using wpAny_loadPart' hl
    refine wpAny_stack_any fun st => wpAny_pure ?_
    split
    · rename_i c _ _ _ _ _
      cases (c == Value.type "enumerate")
      · wp_walk using wpAny_loadPart' hl, wpAny_pyIter_zip hl
        exact ⟨_, rfl, h⟩
      · wp_walk using wpAny_loadPart' hl, wpAny_pyIter_zip hl
        exact ⟨_, rfl, h⟩
    · wp_walk using wpAny_loadPart' hl, wpAny_pyIter_zip hl
      exact ⟨_, rfl, h⟩
section
variable {prog : Program} {w : World} {A : Around} {E : Value → Shared → Prop} {s : Shared}
theorem call_enum_zip {z TI TO : Addr} {Q : Value → Shared → Prop} (hz : IsZip s.heap z TI TO .none)
    (h : Q (.ref s.heap.objs.size) { s with heap := s.heap.push { cls := .type "enumerate", data := .fields #[.none, .bool false, .ref z, rawInt 0, .none, .none] } }) : wpAny (model prog w) A (call (.type "enumerate") [.ref z]) Q E s := by
  refine callType_new F.called_enumerate (by decide) (F.typeCall_enumerate_1 _) (F.newCall_enumerate_1 _) (fun obj => F.args_object_init_2 obj _) F.entry_enumerate_new (meets_enum_zip z TI TO) ⟨hz, ?_⟩
  show _ ∧ _
  exact ⟨⟨_, Heap.get?_push_size _ rfl, rfl⟩, h⟩
theorem loadIfAlive_at {a : Addr} {Q : Option Obj → Shared → Prop} (h : Q (s.heap.get? a) s) : wpAny (model prog w) A (loadIfAlive a) Q E s := fun Γ p _ => (Sem.wp_loadIfAlive ..).mpr (by first | exact h | (simp only [Sem.wp]; exact h))
/-- a further pair, the first one held -/
theorem zip_next_held {z TI TO T0 i1 i2 l1 l2 : Addr} {f1 : Bool} {o0 : Obj} {k1 k2 : Nat} {xs ys : Array Value} {x y : Value} {Q : Value → Shared → Prop} (D : ZipApart z TI TO i1 i2 l1 l2) (hz : IsZipH s.heap z TI TO T0 f1) (h0 : s.heap.get? T0 = some o0) (hTI : IsPair s.heap TI (.ref i1) (.ref i2))
    (h1 : s.heap.IsListIter i1 l1 k1) (h2 : s.heap.IsListIter i2 l2 k2) (hl1 : s.heap.IsList l1 xs) (hl2 : s.heap.IsList l2 ys) (hx : xs[k1]? = some x) (hy : ys[k2]? = some y)
    (hQ : ∀ h', IsZipH h' z TI TO T0 true → h'.IsListIter i1 l1 (k1 + 1) → h'.IsListIter i2 l2 (k2 + 1) → IsPair h' s.heap.objs.size x y → h'.objs.size = s.heap.objs.size + 1 → (∀ c o, c ≠ z → c ≠ i1 → c ≠ i2 → s.heap.get? c = some o → h'.get? c = some o) → Q (.ref s.heap.objs.size) { s with heap := h' }) :
    wpAny (model prog w) A (Builtin.«zip.__next__» ⟨[.ref z], []⟩) (fun fin s' => ∃ v, fin = .done (.ret v) ∧ Q v s') E s := by
  show wpAny _ _ (field (.ref z) 2 >>= _) _ _ _
  refine wpAny_bind (wpAny_field hz rfl (x := .bool false) rfl ?_)
  show wpAny _ _ (field (.ref z) 3 >>= _) _ _ _
  refine wpAny_bind (wpAny_field hz rfl (x := .ref TI) rfl ?_)
  refine wpAny_bind (wpAny_seqItems hTI rfl ?_)
  show wpAny _ _ (Builtin.SmallTypes.ownedTupleIsFree (.ref z) >>= _) _ _ _
  refine wpAny_bind ?_
  unfold Builtin.SmallTypes.ownedTupleIsFree
  refine wpAny_bind (wpAny_field hz rfl (x := rawInt T0) rfl ?_)
  show wpAny _ _ (loadIfAlive T0 >>= _) _ _ _
  refine wpAny_bind (loadIfAlive_at ?_)
  rw [h0]
  simp only [Option.isNone_some, Bool.false_eq_true, if_false]
  refine wpAny_bind (wpAny_field hz rfl (x := .bool f1) rfl ?_)
  have flag : ∀ {Qb : Bool → Shared → Prop} {E : Value → Shared → Prop}, (∀ h₁, IsZipH h₁ z TI TO T0 true → Heap.SameBut z s.heap h₁ → Qb false { s with heap := h₁ }) → wpAny (model prog w) A (if (Value.bool f1 != Value.bool true) = true then do setField (.ref z) 1 (.bool true); pure false else pure false) Qb E s := fun {Qb E} hq => by
    cases f1 with
    | true => exact wpAny_pure (hq s.heap hz (Heap.SameBut.refl ..))
    | false => exact wpAny_bind (wpAny_setField_rec hz (by simp) fun h₁ hz₁ hs₁ => wpAny_pure (hq h₁ hz₁ hs₁))
  refine flag fun h₁ hz₁ hs₁ => ?_
  simp only [Bool.false_eq_true, if_false, List.forIn_toArray, List.forIn_cons, List.forIn_nil]
  refine wpAny_bind (wpAny_bind (wpAny_bind (wpAny_holding ?_)))
  show wpAny _ _ (Builtin.SmallTypes.nextOf (.ref i1) >>= _) _ _ _
  refine wpAny_bind (wpAny_nextOf_list_item (h1.extBut hs₁.extBut D.i1z) (hl1.extBut hs₁.extBut D.l1z) hx fun h₂ h1₂ hs₂ => wpAny_pure (wpAny_pure ?_))
  refine wpAny_bind (wpAny_bind (wpAny_holding ?_))
  show wpAny _ _ (Builtin.SmallTypes.nextOf (.ref i2) >>= _) _ _ _
  refine wpAny_bind (wpAny_nextOf_list_item ((h2.extBut hs₁.extBut D.i2z).extBut hs₂.extBut D.i12.symm) ((hl2.extBut hs₁.extBut D.l2z).extBut hs₂.extBut D.l2i1) hy fun h₃ h2₃ hs₃ => wpAny_pure (wpAny_pure (wpAny_pure ?_)))
  refine wpAny_bind (wpAny_newTuple (wpAny_pure ⟨_, rfl, ?_⟩) (by show 2 ≤ sizeLine; decide))
  have hsz : h₃.objs.size = s.heap.objs.size := by rw [hs₃.1, hs₂.1, hs₁.1]
  have hz₃ : IsZipH h₃ z TI TO T0 true := hs₃.extBut _ _ D.i2z.symm (hs₂.extBut _ _ D.i1z.symm hz₁)
  have h1₃ : h₃.IsListIter i1 l1 (k1 + 1) := h1₂.extBut hs₃.extBut D.i12
  have up : ∀ {c o}, h₃.get? c = some o → (h₃.push { cls := .type "tuple", data := .seq #[x, y] }).get? c = some o := fun e => Heap.get?_push_of_some _ e
  show Q (.ref h₃.objs.size) _
  rw [hsz]
  refine hQ (h₃.push { cls := .type "tuple", data := .seq #[x, y] }) (up hz₃) (h1₃.at fun o e => up e) (h2₃.at fun o e => up e) ?_ (by rw [Heap.size_push, hsz]) fun c o c1 c2 c3 e => up (hs₃.extBut _ _ c3 (hs₂.extBut _ _ c2 (hs₁.extBut _ _ c1 e)))
  rw [← hsz]
  exact Heap.get?_push_size _ rfl
/-- the end, a pair still held -/
theorem zip_end_held {z TI TO T0 i1 i2 l1 l2 : Addr} {f1 : Bool} {o0 : Obj} {k1 k2 : Nat} {xs ys : Array Value} {Q : Fin → Shared → Prop} (hh : A.handled = none) (D : ZipApart z TI TO i1 i2 l1 l2) (hz : IsZipH s.heap z TI TO T0 f1) (h0 : s.heap.get? T0 = some o0) (hTI : IsPair s.heap TI (.ref i1) (.ref i2))
    (h1 : s.heap.IsListIter i1 l1 k1) (h2 : s.heap.IsListIter i2 l2 k2) (hl1 : s.heap.IsList l1 xs) (hl2 : s.heap.IsList l2 ys) (hend : xs[k1]? = none)
    (hE : ∀ h' e, (∀ c o, c ≠ z → c ≠ i1 → c ≠ i2 → s.heap.get? c = some o → h'.get? c = some o) → (∃ o, h'.get? e = some o ∧ o.cls = .type "StopIteration") → E (.ref e) { s with heap := h' }) :
    wpAny (model prog w) A (Builtin.«zip.__next__» ⟨[.ref z], []⟩) Q E s := by
  show wpAny _ _ (field (.ref z) 2 >>= _) _ _ _
  refine wpAny_bind (wpAny_field hz rfl (x := .bool false) rfl ?_)
  show wpAny _ _ (field (.ref z) 3 >>= _) _ _ _
  refine wpAny_bind (wpAny_field hz rfl (x := .ref TI) rfl ?_)
  refine wpAny_bind (wpAny_seqItems hTI rfl ?_)
  show wpAny _ _ (Builtin.SmallTypes.ownedTupleIsFree (.ref z) >>= _) _ _ _
  refine wpAny_bind ?_
  unfold Builtin.SmallTypes.ownedTupleIsFree
  refine wpAny_bind (wpAny_field hz rfl (x := rawInt T0) rfl ?_)
  show wpAny _ _ (loadIfAlive T0 >>= _) _ _ _
  refine wpAny_bind (loadIfAlive_at ?_)
  rw [h0]
  simp only [Option.isNone_some, Bool.false_eq_true, if_false]
  refine wpAny_bind (wpAny_field hz rfl (x := .bool f1) rfl ?_)
  have flag : ∀ {Qb : Bool → Shared → Prop} {E : Value → Shared → Prop}, (∀ h₁, IsZipH h₁ z TI TO T0 true → Heap.SameBut z s.heap h₁ → Qb false { s with heap := h₁ }) → wpAny (model prog w) A (if (Value.bool f1 != Value.bool true) = true then do setField (.ref z) 1 (.bool true); pure false else pure false) Qb E s := fun {Qb E} hq => by
    cases f1 with
    | true => exact wpAny_pure (hq s.heap hz (Heap.SameBut.refl ..))
    | false => exact wpAny_bind (wpAny_setField_rec hz (by simp) fun h₁ hz₁ hs₁ => wpAny_pure (hq h₁ hz₁ hs₁))
  refine flag fun h₁ hz₁ hs₁ => ?_
  simp only [Bool.false_eq_true, if_false, List.forIn_toArray, List.forIn_cons, List.forIn_nil]
  refine wpAny_bind (wpAny_bind (wpAny_bind (wpAny_holding ?_)))
  show wpAny _ _ (Builtin.SmallTypes.nextOf (.ref i1) >>= _) _ _ _
  exact wpAny_bind (wpAny_nextOf_list_end hh (h1.extBut hs₁.extBut D.i1z) (hl1.extBut hs₁.extBut D.l1z) hend fun h₂ e hs₂ he => hE h₂ e (fun c o c1 c2 _ x => hs₂ _ _ c2 (hs₁.extBut _ _ c1 x)) he)
/-- a zip whose pair no one holds -/
abbrev IsZipG (h : Heap) (z TI TO : Addr) (f0 : Value) (f1 : Bool) : Prop := h.get? z = some { cls := .type "zip", dict := none, data := .fields #[f0, .bool f1, .bool false, .ref TI, .ref TO], slots := #[] }
def FreeF (h : Heap) (f0 : Value) : Prop := f0 = .none ∨ ∃ T0 : Addr, f0 = rawInt T0 ∧ h.get? T0 = none
theorem owned_free {z TI TO : Addr} {f0 : Value} {f1 : Bool} {Q : Bool → Shared → Prop} (hz : IsZipG s.heap z TI TO f0 f1) (hf : FreeF s.heap f0) (h : Q true s) : wpAny (model prog w) A (Builtin.SmallTypes.ownedTupleIsFree (.ref z)) Q E s := by
  unfold Builtin.SmallTypes.ownedTupleIsFree
  rcases hf with rfl | ⟨T0, rfl, h0⟩
  · exact wpAny_bind (wpAny_field hz rfl (x := .none) rfl (wpAny_pure h))
  · refine wpAny_bind (wpAny_field hz rfl (x := rawInt T0) rfl ?_)
    show wpAny _ _ (loadIfAlive T0 >>= _) _ _ _
    refine wpAny_bind (loadIfAlive_at ?_)
    rw [h0]
    exact wpAny_pure h
theorem zip_next_free {z TI TO i1 i2 l1 l2 : Addr} {f0 : Value} {f1 : Bool} {k1 k2 : Nat} {xs ys : Array Value} {x y a b : Value} {Q : Value → Shared → Prop} (D : ZipApart z TI TO i1 i2 l1 l2)
    (hz : IsZipG s.heap z TI TO f0 f1) (hf : FreeF s.heap f0) (hTI : IsPair s.heap TI (.ref i1) (.ref i2)) (hTO : IsPair s.heap TO a b)
    (h1 : s.heap.IsListIter i1 l1 k1) (h2 : s.heap.IsListIter i2 l2 k2) (hl1 : s.heap.IsList l1 xs) (hl2 : s.heap.IsList l2 ys) (hx : xs[k1]? = some x) (hy : ys[k2]? = some y)
    (hQ : ∀ h', IsZipG h' z TI TO (rawInt s.heap.objs.size) false → IsPair h' TO x y → h'.IsListIter i1 l1 (k1 + 1) → h'.IsListIter i2 l2 (k2 + 1) → IsPair h' s.heap.objs.size x y → h'.objs.size = s.heap.objs.size + 1 →
      (∀ c o, c ≠ z → c ≠ TO → c ≠ i1 → c ≠ i2 → s.heap.get? c = some o → h'.get? c = some o) → Q (.ref s.heap.objs.size) { s with heap := h' }) :
    wpAny (model prog w) A (Builtin.«zip.__next__» ⟨[.ref z], []⟩) (fun fin s' => ∃ v, fin = .done (.ret v) ∧ Q v s') E s := by
  show wpAny _ _ (field (.ref z) 2 >>= _) _ _ _
  refine wpAny_bind (wpAny_field hz rfl (x := .bool false) rfl ?_)
  show wpAny _ _ (field (.ref z) 3 >>= _) _ _ _
  refine wpAny_bind (wpAny_field hz rfl (x := .ref TI) rfl ?_)
  refine wpAny_bind (wpAny_seqItems hTI rfl ?_)
  show wpAny _ _ (Builtin.SmallTypes.ownedTupleIsFree (.ref z) >>= _) _ _ _
  refine wpAny_bind (owned_free hz hf ?_)
  simp only [if_true]
  refine wpAny_bind (wpAny_rule (wpAny_bind (wpAny_field hz rfl (x := .ref TO) rfl (wpAny_bind (wpAny_setField_rec hz (by simp) fun g1 z1 q1 => ?_)))))
  replace z1 : IsZipG g1 z TI TO .ellipsis f1 := z1
  refine wpAny_bind ?_
  simp only [List.zipIdx_cons, List.zipIdx_nil, List.forIn_cons, List.forIn_nil]
  refine wpAny_bind (wpAny_bind (wpAny_onRaise ?_))
  show wpAny _ _ (Builtin.SmallTypes.nextOf (.ref i1) >>= _) _ _ _
  refine wpAny_bind (wpAny_nextOf_list_item (h1.extBut q1.extBut D.i1z) (hl1.extBut q1.extBut D.l1z) hx fun g2 n1 q2 => wpAny_pure ?_)
  have t2 : IsPair g2 TO a b := q2.extBut _ _ D.TOi1 (q1.extBut _ _ D.TOz hTO)
  refine wpAny_bind (wpAny_seqItems t2 rfl (wpAny_bind (wpAny_updateSeq_pair t2 fun g3 t3 q3 => ?_)))
  replace t3 : IsPair g3 TO x b := t3
  refine wpAny_bind (wpAny_letGo (wpAny_pure (wpAny_bind (wpAny_bind (wpAny_onRaise ?_)))))
  show wpAny _ _ (Builtin.SmallTypes.nextOf (.ref i2) >>= _) _ _ _
  refine wpAny_bind (wpAny_nextOf_list_item (((h2.extBut q1.extBut D.i2z).extBut q2.extBut D.i12.symm).extBut q3.extBut D.TOi2.symm) (((hl2.extBut q1.extBut D.l2z).extBut q2.extBut D.l2i1).extBut q3.extBut D.l2TO) hy fun g4 n2 q4 => wpAny_pure ?_)
  have t4 : IsPair g4 TO x b := q4.extBut _ _ D.TOi2 t3
  refine wpAny_bind (wpAny_seqItems t4 rfl (wpAny_bind (wpAny_updateSeq_pair t4 fun g5 t5 q5 => ?_)))
  replace t5 : IsPair g5 TO x y := t5
  refine wpAny_bind (wpAny_letGo (wpAny_pure (wpAny_pure (wpAny_bind (wpAny_seqItems t5 rfl (wpAny_bind (wpAny_newTuple ?_)))))))
  have hsz : g5.objs.size = s.heap.objs.size := by rw [q5.1, q4.1, q3.1, q2.1, q1.1]
  have z5 : IsZipG g5 z TI TO .ellipsis f1 := q5.extBut _ _ D.TOz.symm (q4.extBut _ _ D.i2z.symm (q3.extBut _ _ D.TOz.symm (q2.extBut _ _ D.i1z.symm z1)))
  have m1 : g5.IsListIter i1 l1 (k1 + 1) := ((n1.extBut q3.extBut D.TOi1.symm).extBut q4.extBut D.i12).extBut q5.extBut D.TOi1.symm
  have m2 : g5.IsListIter i2 l2 (k2 + 1) := n2.extBut q5.extBut D.TOi2.symm
  have zlt : z < g5.objs.size := Heap.lt_size z5
  show wpAny _ _ (Builtin.SmallTypes.ownedTupleHandOut (.ref z) (.ref g5.objs.size) >>= _) _ _ _
  refine wpAny_bind ?_
  unfold Builtin.SmallTypes.ownedTupleHandOut
  have z6 : IsZipG (g5.push { cls := .type "tuple", data := .seq #[x, y] }) z TI TO .ellipsis f1 := Heap.get?_push_of_some _ z5
  refine wpAny_bind (wpAny_setField_rec z6 (by simp) fun g7 z7 q7 => ?_)
  replace z7 : IsZipG g7 z TI TO (rawInt g5.objs.size) f1 := z7
  refine wpAny_setField_rec z7 (by simp) fun g8 z8 q8 => ?_
  replace z8 : IsZipG g8 z TI TO (rawInt g5.objs.size) false := z8
  have up : ∀ c o, c ≠ z → g5.get? c = some o → g8.get? c = some o := fun c o c1 e => q8.extBut _ _ c1 (q7.extBut _ _ c1 (Heap.get?_push_of_some _ e))
  have T8 : IsPair g8 g5.objs.size x y := q8.extBut _ _ (Nat.ne_of_gt zlt) (q7.extBut _ _ (Nat.ne_of_gt zlt) (Heap.get?_push_size _ rfl))
  have s8 : g8.objs.size = g5.objs.size + 1 := by rw [q8.1, q7.1, Heap.size_push]
  rw [hsz] at z8 T8 s8
  refine wpAny_pure ⟨_, rfl, ?_⟩
  show Q (.ref g5.objs.size) _
  rw [hsz]
  exact hQ g8 z8 (up _ _ D.TOz t5) (m1.at fun o e => up _ o D.i1z e) (m2.at fun o e => up _ o D.i2z e) T8 s8 fun c o c1 c2 c3 c4 e => up c o c1 (q5.extBut _ _ c2 (q4.extBut _ _ c4 (q3.extBut _ _ c2 (q2.extBut _ _ c3 (q1.extBut _ _ c1 e)))))
theorem zip_end_free {z TI TO i1 i2 l1 l2 : Addr} {f0 : Value} {f1 : Bool} {k1 : Nat} {xs : Array Value} {Q : Fin → Shared → Prop} (hh : A.handled = none) (D : ZipApart z TI TO i1 i2 l1 l2) (hz : IsZipG s.heap z TI TO f0 f1) (hf : FreeF s.heap f0) (hTI : IsPair s.heap TI (.ref i1) (.ref i2))
    (h1 : s.heap.IsListIter i1 l1 k1) (hl1 : s.heap.IsList l1 xs) (hend : xs[k1]? = none)
    (hE : ∀ h' e, (∀ c o, c ≠ z → c ≠ TO → c ≠ i1 → c ≠ i2 → s.heap.get? c = some o → h'.get? c = some o) → (∃ o, h'.get? e = some o ∧ o.cls = .type "StopIteration") → E (.ref e) { s with heap := h' }) :
    wpAny (model prog w) A (Builtin.«zip.__next__» ⟨[.ref z], []⟩) Q E s := by
  show wpAny _ _ (field (.ref z) 2 >>= _) _ _ _
  refine wpAny_bind (wpAny_field hz rfl (x := .bool false) rfl ?_)
  show wpAny _ _ (field (.ref z) 3 >>= _) _ _ _
  refine wpAny_bind (wpAny_field hz rfl (x := .ref TI) rfl ?_)
  refine wpAny_bind (wpAny_seqItems hTI rfl ?_)
  show wpAny _ _ (Builtin.SmallTypes.ownedTupleIsFree (.ref z) >>= _) _ _ _
  refine wpAny_bind (owned_free hz hf ?_)
  simp only [if_true]
  refine wpAny_bind (wpAny_rule (wpAny_bind (wpAny_field hz rfl (x := .ref TO) rfl (wpAny_bind (wpAny_setField_rec hz (by simp) fun g1 z1 q1 => ?_)))))
  replace z1 : IsZipG g1 z TI TO .ellipsis f1 := z1
  refine wpAny_bind ?_
  simp only [List.zipIdx_cons, List.zipIdx_nil, List.forIn_cons, List.forIn_nil]
  refine wpAny_bind (wpAny_bind (wpAny_onRaise ?_))
  show wpAny _ _ (Builtin.SmallTypes.nextOf (.ref i1) >>= _) _ _ _
  refine wpAny_bind (wpAny_nextOf_list_end hh (h1.extBut q1.extBut D.i1z) (hl1.extBut q1.extBut D.l1z) hend fun g2 e q2 he => ?_)
  obtain ⟨oe, hoe, hce⟩ := he
  have z2 : IsZipG g2 z TI TO .ellipsis f1 := q2 _ _ D.i1z.symm z1
  have hez : e ≠ z := fun x => by subst x; rw [z2] at hoe; cases hoe; simp at hce
  exact wpAny_setField_rec z2 (by simp) fun g3 _ q3 => hE g3 e (fun c o c1 _ c3 _ x => q3.extBut _ _ c1 (q2 _ _ c3 (q1.extBut _ _ c1 x))) ⟨oe, q3.extBut _ _ hez hoe, hce⟩
/-- the states of a zip that is walked -/
def ZipSt (z TI TO : Addr) (h : Heap) : Prop := ∃ (f0 : Value) (f1 : Bool), IsZipG h z TI TO f0 f1 ∧ (f0 = .none ∨ ∃ T0 : Addr, f0 = rawInt T0) ∧ ∃ a b, IsPair h TO a b
/-- its next -/
theorem zip_nextOf {z TI TO i1 i2 l1 l2 : Addr} {k : Nat} {xs ys : Array Value} {x y : Value} {Qv : Value → Shared → Prop} (D : ZipApart z TI TO i1 i2 l1 l2) (hz : ZipSt z TI TO s.heap) (hTI : IsPair s.heap TI (.ref i1) (.ref i2)) (h1 : s.heap.IsListIter i1 l1 k) (h2 : s.heap.IsListIter i2 l2 k) (hl1 : s.heap.IsList l1 xs) (hl2 : s.heap.IsList l2 ys) (hx : xs[k]? = some x) (hy : ys[k]? = some y)
    (hq : ∀ h', ZipSt z TI TO h' → h'.IsListIter i1 l1 (k + 1) → h'.IsListIter i2 l2 (k + 1) → IsPair h' s.heap.objs.size x y → h'.objs.size = s.heap.objs.size + 1 → (∀ c o, c ≠ z → c ≠ TO → c ≠ i1 → c ≠ i2 → s.heap.get? c = some o → h'.get? c = some o) → Qv (.ref s.heap.objs.size) { s with heap := h' }) :
    wpAny (model prog w) A (Builtin.SmallTypes.nextOf (.ref z)) Qv E s := by
  unfold Builtin.SmallTypes.nextOf
  obtain ⟨f0, f1, hz, hf, a, b, hTO⟩ := hz
  have hTz : s.TypeIs (.ref z) "zip" := ⟨_, hz, rfl⟩
  refine wpAny_bind (wpAny_callSpecial?_slot (name := Str.ofString "__next__") hTz F.slot_zip_next (wpAny_call_entry F.slot_zip_next hTz F.entry_zip_next ?_ (F.args_zip_next_1 _)))
  have free : FreeF s.heap f0 → wpAny (model prog w) A.in1 (Builtin.«zip.__next__» ⟨[.ref z], []⟩) (fun fin s' => ∃ v, fin = .done (.ret v) ∧ wpAny (model prog w) A (pure v) Qv E s') E s := fun hf => zip_next_free D hz hf hTI hTO h1 h2 hl1 hl2 hx hy fun h' a1 a2 a3 a4 a5 a6 a7 => wpAny_pure (hq h' ⟨_, _, a1, .inr ⟨_, rfl⟩, _, _, a2⟩ a3 a4 a5 a6 a7)
  rcases hf with rfl | ⟨T0, rfl⟩
  · exact free (.inl rfl)
  · cases h0 : s.heap.get? T0 with
    | none => exact free (.inr ⟨T0, rfl, h0⟩)
    | some o0 => exact zip_next_held D hz h0 hTI h1 h2 hl1 hl2 hx hy fun h' a1 a3 a4 a5 a6 a7 => wpAny_pure (hq h' ⟨_, _, a1, .inr ⟨_, rfl⟩, a, b, a7 _ _ D.TOz D.TOi1 D.TOi2 hTO⟩ a3 a4 a5 a6 fun c o c1 _ c3 c4 e => a7 c o c1 c3 c4 e)
theorem zip_nextEnd {z TI TO i1 i2 l1 l2 : Addr} {k : Nat} {xs ys : Array Value} {Qv : Value → Shared → Prop} (hh : A.handled = none) (D : ZipApart z TI TO i1 i2 l1 l2) (hz : ZipSt z TI TO s.heap) (hTI : IsPair s.heap TI (.ref i1) (.ref i2)) (h1 : s.heap.IsListIter i1 l1 k) (h2 : s.heap.IsListIter i2 l2 k) (hl1 : s.heap.IsList l1 xs) (hl2 : s.heap.IsList l2 ys) (hx : xs[k]? = none)
    (hq : ∀ h' e, (∀ c o, c ≠ z → c ≠ TO → c ≠ i1 → c ≠ i2 → s.heap.get? c = some o → h'.get? c = some o) → (∃ o, h'.get? e = some o ∧ o.cls = .type "StopIteration") → E (.ref e) { s with heap := h' }) :
    wpAny (model prog w) A (Builtin.SmallTypes.nextOf (.ref z)) Qv E s := by
  unfold Builtin.SmallTypes.nextOf
  obtain ⟨f0, f1, hz, hf, a, b, hTO⟩ := hz
  have hTz : s.TypeIs (.ref z) "zip" := ⟨_, hz, rfl⟩
  refine wpAny_bind (wpAny_callSpecial?_slot (name := Str.ofString "__next__") hTz F.slot_zip_next (wpAny_call_entry F.slot_zip_next hTz F.entry_zip_next ?_ (F.args_zip_next_1 _)))
  rcases hf with rfl | ⟨T0, rfl⟩
  · exact zip_end_free hh D hz (.inl rfl) hTI h1 hl1 hx hq
  · cases h0 : s.heap.get? T0 with
    | none => exact zip_end_free hh D hz (.inr ⟨T0, rfl, h0⟩) hTI h1 hl1 hx hq
    | some o0 => exact zip_end_held hh D hz h0 hTI h1 h2 hl1 hl2 hx fun h' e a1 a2 => hq h' e (fun c o c1 _ c3 c4 q => a1 c o c1 c3 c4 q) a2
/-- enumerate's next over it -/
theorem enumzip_item {e z TI TO i1 i2 l1 l2 : Addr} {k : Nat} {xs ys : Array Value} {x y old : Value} {Q : Option Value → Shared → Prop} (D : ZipApart z TI TO i1 i2 l1 l2) (ne : e ≠ z ∧ e ≠ TI ∧ e ≠ TO ∧ e ≠ i1 ∧ e ≠ i2)
    (he : IsEnum s.heap e z (k : Int) old) (hz : ZipSt z TI TO s.heap) (hTI : IsPair s.heap TI (.ref i1) (.ref i2)) (h1 : s.heap.IsListIter i1 l1 k) (h2 : s.heap.IsListIter i2 l2 k) (hl1 : s.heap.IsList l1 xs) (hl2 : s.heap.IsList l2 ys) (hx : xs[k]? = some x) (hy : ys[k]? = some y)
    (hQ : ∀ h' tk, IsEnumOut h' e z ((k : Int) + 1) (.ref s.heap.objs.size) (s.heap.objs.size + 1) → ZipSt z TI TO h' → IsPair h' TI (.ref i1) (.ref i2) → h'.IsListIter i1 l1 (k + 1) → h'.IsListIter i2 l2 (k + 1) →
      IsPair h' s.heap.objs.size x y → h'.get? (s.heap.objs.size + 1) = some { cls := .type "tuple", data := .seq #[.int k tk, .ref s.heap.objs.size] } → (∀ c o, c ≠ e → c ≠ z → c ≠ TO → c ≠ i1 → c ≠ i2 → s.heap.get? c = some o → h'.get? c = some o) → Q (some (.ref (s.heap.objs.size + 1))) { s with heap := h', toks := tk + 1 }) :
    wpAny (model prog w) A (pyNext (.ref e)) Q E s := by
  have hT : s.TypeIs (.ref e) "enumerate" := ⟨_, he, rfl⟩
  have elt : e < s.heap.objs.size := Heap.lt_size he
  unfold pyNext
  refine wpAny_bind (wpAny_attempt (wpAny_callSpecial?_slot (name := Str.ofString "__next__") hT F.slot_enumerate_next (wpAny_call_entry F.slot_enumerate_next hT F.entry_enumerate_next ?_ (F.args_enumerate_next_1 _))))
  obtain ⟨hp, g, d, tk, os⟩ := s
  show wpAny _ _ (field (.ref e) 2 >>= _) _ _ _
  refine wpAny_bind (wpAny_field he rfl (x := .ref z) rfl ?_)
  refine wpAny_bind (zip_nextOf (s := ⟨hp, g, d, tk, os⟩) D hz hTI h1 h2 hl1 hl2 hx hy fun h₁ hz₁ h1₁ h2₁ hT₁ hz1 hk₁ => ?_)
  have he₁ : IsEnum h₁ e z k old := hk₁ _ _ ne.1 ne.2.2.1 ne.2.2.2.1 ne.2.2.2.2 he
  show wpAny _ _ (field (.ref e) 3 >>= _) _ _ ⟨h₁, g, d, tk, os⟩
  refine wpAny_bind (wpAny_field he₁ rfl (x := rawInt k) rfl ?_)
  show wpAny _ _ (field (.ref e) 4 >>= _) _ _ ⟨h₁, g, d, tk, os⟩
  refine wpAny_bind (wpAny_field he₁ rfl (x := .none) rfl ?_)
  show wpAny _ _ (mkInt k >>= _) _ _ ⟨h₁, g, d, tk, os⟩
  refine wpAny_bind (wpAny_mkInt ?_)
  show wpAny _ _ (setField (.ref e) 3 (rawInt ((k : Int) + 1)) >>= _) _ _ ⟨h₁, g, d, tk + 1, os⟩
  refine wpAny_bind (wpAny_setField_rec he₁ (by simp) fun h₂ he₂ hs₂ => ?_)
  replace he₂ : IsEnum h₂ e z ((k : Int) + 1) old := he₂
  show wpAny _ _ (setField (.ref e) 4 .none >>= _) _ _ ⟨h₂, g, d, tk + 1, os⟩
  refine wpAny_bind (wpAny_setField_rec he₂ (by simp) fun h₃ he₃ hs₃ => ?_)
  replace he₃ : IsEnum h₃ e z ((k : Int) + 1) old := he₃
  show wpAny _ _ (newTuple [.int k tk, .ref hp.objs.size] >>= _) _ _ ⟨h₃, g, d, tk + 1, os⟩
  refine wpAny_bind (wpAny_newTuple ?_)
  have hs₂ : Heap.SameBut e h₁ h₂ := hs₂
  have hs₃ : Heap.SameBut e h₂ h₃ := hs₃
  have hsz : h₃.objs.size = hp.objs.size + 1 := by rw [hs₃.1, hs₂.1, hz1]
  have k3 : ∀ {c o}, c ≠ e → h₁.get? c = some o → h₃.get? c = some o := fun hc q => hs₃.extBut _ _ hc (hs₂.extBut _ _ hc q)
  have he₄ : IsEnum (h₃.push { cls := .type "tuple", data := .seq #[.int k tk, .ref hp.objs.size] }) e z ((k : Int) + 1) old := Heap.get?_push_of_some _ he₃
  generalize hh₄ : h₃.push { cls := .type "tuple", data := .seq #[.int k tk, .ref hp.objs.size] } = h₄ at he₄
  have k4 : ∀ {c o}, c ≠ e → h₁.get? c = some o → h₄.get? c = some o := fun hc q => by rw [← hh₄]; exact Heap.get?_push_of_some _ (k3 hc q)
  have ht₄ : h₄.get? (hp.objs.size + 1) = some { cls := .type "tuple", data := .seq #[.int k tk, .ref hp.objs.size] } := by rw [← hh₄, ← hsz]; exact Heap.get?_push_size _ rfl
  show wpAny _ _ (Builtin.SmallTypes.ownedTupleIsFree (.ref e) >>= _) _ _ ⟨h₄, g, d, tk + 1, os⟩
  rw [hsz]
  refine wpAny_bind ?_
  unfold Builtin.SmallTypes.ownedTupleIsFree
  refine wpAny_bind (wpAny_field he₄ rfl (x := .none) rfl (wpAny_pure ?_))
  simp only [if_true]
  refine wpAny_bind (wpAny_rule ?_)
  refine wpAny_bind (wpAny_field he₄ rfl (x := old) rfl ?_)
  refine wpAny_bind (wpAny_setField_rec he₄ (by simp) fun h₅ he₅ hs₅ => ?_)
  replace he₅ : IsEnum h₅ e z ((k : Int) + 1) (.ref hp.objs.size) := he₅
  show wpAny _ _ (Builtin.SmallTypes.ownedTupleHandOut (.ref e) (.ref (hp.objs.size + 1)) >>= _) _ _ ⟨h₅, g, d, tk + 1, os⟩
  refine wpAny_bind ?_
  unfold Builtin.SmallTypes.ownedTupleHandOut
  refine wpAny_bind (wpAny_setField_rec he₅ (by simp) fun h₆ he₆ hs₆ => ?_)
  replace he₆ : IsEnumOut h₆ e z ((k : Int) + 1) (.ref hp.objs.size) (hp.objs.size + 1) := he₆
  refine wpAny_setField_rec he₆ (by simp) fun h₇ he₇ hs₇ => ?_
  replace he₇ : IsEnumOut h₇ e z ((k : Int) + 1) (.ref hp.objs.size) (hp.objs.size + 1) := he₇
  have k7 : ∀ {c o}, c ≠ e → h₄.get? c = some o → h₇.get? c = some o := fun hc q => hs₇.extBut _ _ hc (hs₆.extBut _ _ hc (hs₅.extBut _ _ hc q))
  have kk : ∀ {c o}, c ≠ e → h₁.get? c = some o → h₇.get? c = some o := fun hc q => k7 hc (k4 hc q)
  obtain ⟨f0, f1, hz₁, hf₁, u, v, hu⟩ := hz₁
  exact wpAny_bind (wpAny_letGo (wpAny_pure ⟨_, rfl, wpAny_pure (hQ h₇ tk he₇ ⟨f0, f1, kk (Ne.symm ne.1) hz₁, hf₁, u, v, kk (Ne.symm ne.2.2.1) hu⟩ (kk (Ne.symm ne.2.1) (hk₁ _ _ D.TIz D.TITO D.TIi1 D.TIi2 hTI)) (h1₁.at fun o q => kk (Ne.symm ne.2.2.2.1) q) (h2₁.at fun o q => kk (Ne.symm ne.2.2.2.2) q) (kk (Nat.ne_of_gt elt) hT₁) (k7 (Nat.ne_of_gt (Nat.lt_succ_of_lt elt)) ht₄) fun c o c0 c1 c2 c3 c4 q => kk c0 (hk₁ c o c1 c2 c3 c4 q))⟩))
theorem enumzip_end {e z TI TO i1 i2 l1 l2 : Addr} {k : Nat} {xs ys : Array Value} {old : Value} {Q : Option Value → Shared → Prop} (hh : A.handled = none) (D : ZipApart z TI TO i1 i2 l1 l2)
    (he : IsEnum s.heap e z (k : Int) old) (hz : ZipSt z TI TO s.heap) (hTI : IsPair s.heap TI (.ref i1) (.ref i2)) (h1 : s.heap.IsListIter i1 l1 k) (h2 : s.heap.IsListIter i2 l2 k) (hl1 : s.heap.IsList l1 xs) (hl2 : s.heap.IsList l2 ys) (hx : xs[k]? = none)
    (hQ : ∀ h', (∀ c o, c ≠ z → c ≠ TO → c ≠ i1 → c ≠ i2 → s.heap.get? c = some o → h'.get? c = some o) → Q none { s with heap := h' }) : wpAny (model prog w) A (pyNext (.ref e)) Q E s := by
  have hT : s.TypeIs (.ref e) "enumerate" := ⟨_, he, rfl⟩
  unfold pyNext
  refine wpAny_bind (wpAny_attempt (wpAny_callSpecial?_slot (name := Str.ofString "__next__") hT F.slot_enumerate_next (wpAny_call_entry F.slot_enumerate_next hT F.entry_enumerate_next ?_ (F.args_enumerate_next_1 _))))
  show wpAny _ _ (field (.ref e) 2 >>= _) _ _ _
  refine wpAny_bind (wpAny_field he rfl (x := .ref z) rfl ?_)
  refine wpAny_bind (zip_nextEnd (show A.in1.handled = none from hh) D hz hTI h1 h2 hl1 hl2 hx fun h' x hk hx' => ?_)
  obtain ⟨o, ho, hc⟩ := hx'
  exact wpAny_bind (wpAny_isInstance (T := "StopIteration") (b := true) ⟨o, ho, hc⟩ isSubtype_stop (wpAny_pure (hQ _ hk)))
end
end Dn
namespace Dn
open PySem PySem.Spec PyProof.Rows L2
/-- an object of one's own, known from now on -/
theorem adopt {X : Cx} {pins : List (Addr × Obj)} {σ : L2.St} {H : Hp} {s : Shared} {T : Addr} {ob : HO} (I : Inv X pins σ H s) (hf : FpOk X pins H T) (new : ObjOk X.prog X.w (upd H T ob) s.heap T ob) : Inv X pins σ (upd H T ob) s := by
  have hn : H T = none := hf.1
  have z := I.step (t' := s.toks) (g' := s.gens) (d' := s.drawn) (ch := [T]) (h' := s.heap) (H' := upd H T ob) (fun b hb => by
    rw [List.mem_singleton.mp hb]
    exact ⟨hf.2.2.2.1, hf.2.1, hf.2.2.2.2.1, hf.2.2.2.2.2⟩) (fun b o _ _ _ e _ => e) (fun b o _ _ _ e _ => ⟨o.slots, e⟩)
    (fun b o hb e n => by rw [upd_ne (fun z => hb (by rw [z]; exact List.mem_singleton_self _))]; exact n) (fun b o _ e => ⟨o, e⟩) (fun b xs e => by rw [upd_ne (ne_of_none e hn)]; exact e) (fun b o u e => by rw [upd_ne (ne_of_none e hn)]; exact e) (fun b ps e => ⟨#[], by rw [upd_ne (ne_of_none e hn), e]; simp⟩) (fun m hm => hm) (fun b u e => ?_) I.bare
  · exact z
  · by_cases hb : b = T
    · subst hb
      rw [upd_same] at e
      cases e
      exact new
    · rw [upd_ne hb] at e
      exact (I.hok b u e).stay (fun c v _ q => q) (fun c q => by rw [upd_ne (ne_of_none q hn)]; exact q) fun c xs q => by rw [upd_ne (ne_of_none q hn)]; exact q
/-- the lists at a and b, each pair of items in a new pair behind its number -/
def Itez (K : PySem.W.Frag) (a b : Addr) : It :=
  ⟨fun i H => ∃ (xs ys : List V) (x y : V), SqL K H a xs ∧ SqL K H b ys ∧ xs[i]? = some x ∧ ys[i]? = some y,
    fun i H v H' => ∃ T1 T2 x y, v = .ref T2 ∧ H T1 = none ∧ H T2 = none ∧ T1 ≠ T2 ∧ H' = upd (upd H T1 (.tup [x, y])) T2 (.tup [.int (i : Nat), .ref T1]) ∧ (∀ xs, SqL K H a xs → xs[i]? = some x) ∧ ∀ ys, SqL K H b ys → ys[i]? = some y,
    fun i H => ∃ xs ys : List V, SqL K H a xs ∧ SqL K H b ys ∧ xs.length ≤ i⟩
theorem turn_enumzip {P : Program} {w : World} {K : PySem.W.Frag} {elts : List Expr} {kk : Nat} {tpos : Pos} {a b e z TI TO i1 i2 : Addr} (D : ZipApart z TI TO i1 i2 a b) (ne : e ≠ z ∧ e ≠ TI ∧ e ≠ TO ∧ e ≠ i1 ∧ e ≠ i2) :
    Turn P w K (.Tuple elts kk tpos) (Itez K a b) [e, z, TI, TO, i1, i2] e (fun i h => (∃ old, IsEnum h e z ((i : Nat) : Int) old) ∧ ZipSt z TI TO h ∧ IsPair h TI (.ref i1) (.ref i2) ∧ h.IsListIter i1 a i ∧ h.IsListIter i2 b i) where
  mem := by simp
  obj := fun i h st c hc => by
    obtain ⟨⟨old, he⟩, ⟨f0, f1, hz, _, u, v, hTO⟩, hTI, ⟨o1, e1, _, d1⟩, ⟨o2, e2, _, d2⟩⟩ := st
    have e' : c = e ∨ c = z ∨ c = TI ∨ c = TO ∨ c = i1 ∨ c = i2 := by simpa using hc
    rcases e' with q | q | q | q | q | q
    · rw [q]; exact ⟨_, he, fun v q => nomatch q⟩
    · rw [q]; exact ⟨_, hz, fun v q => nomatch q⟩
    · rw [q]; exact ⟨_, hTI, fun v q => nomatch q⟩
    · rw [q]; exact ⟨_, hTO, fun v q => nomatch q⟩
    · rw [q]; exact ⟨o1, e1, fun v q => by rw [d1] at q; cases q⟩
    · rw [q]; exact ⟨o2, e2, fun v q => by rw [d2] at q; cases q⟩
  keep := fun i h h' st k => by
    obtain ⟨⟨old, he⟩, ⟨f0, f1, hz, hf, u, v, hTO⟩, hTI, h1, h2⟩ := st
    exact ⟨⟨old, k e (by simp) _ he⟩, ⟨f0, f1, k z (by simp) _ hz, hf, u, v, k TO (by simp) _ hTO⟩, k TI (by simp) _ hTI, h1.at fun o q => k i1 (by simp) o q, h2.at fun o q => k i2 (by simp) o q⟩
  item := by
    intro X hP hw hK hc i pins s σ H E I hf st hg
    subst hP hw hK
    obtain ⟨⟨old, he⟩, hz, hTI, h1, h2⟩ := st
    obtain ⟨xs, ys, x, y, hqx, hqy, hx, hy⟩ := hg
    obtain ⟨its, rv, p, _⟩ := I.list hqx
    obtain ⟨its2, rv2, p2, _⟩ := I.list hqy
    obtain ⟨u, hu, ru⟩ := rv.get hx
    obtain ⟨u2, hu2, ru2⟩ := rv2.get hy
    have hel : e < s.heap.objs.size := Heap.lt_size he
    refine enumzip_item D ne he hz hTI h1 h2 p.isList p2.isList (x := u) (y := u2) (by simpa using hu) (by simpa using hu2) fun h' tk ho hz' hTI' h1' h2' hT1 hT2 hk => ?_
    refine ⟨_, rfl, wpAny_letOwnedTupleGo_enum (s := { s with heap := h', toks := tk + 1 }) ho fun h'' he' sb => ?_⟩
    have up : ∀ {c o}, c ≠ e → h'.get? c = some o → h''.get? c = some o := fun hc q => (sb.2 _ hc).trans q
    have T1' : IsPair h'' s.heap.objs.size u u2 := up (Nat.ne_of_gt hel) hT1
    have T2' : h''.get? (s.heap.objs.size + 1) = some { cls := .type "tuple", data := .seq #[.int i tk, .ref s.heap.objs.size] } := up (Nat.ne_of_gt (Nat.lt_succ_of_lt hel)) hT2
    have n1 : H s.heap.objs.size = none := I.hok.fresh (Nat.le_refl _)
    have n2 : H (s.heap.objs.size + 1) = none := I.hok.fresh (Nat.le_succ _)
    have I1 : Inv X pins σ (upd H s.heap.objs.size (.tup [x, y])) { s with heap := h'', toks := tk + 1 } :=
      I.turnedNew (ch := [e, z, TI, TO, i1, i2]) (fun c o hb q => up (fun z => hb (by simp [z])) (hk c o (fun z => hb (by simp [z])) (fun z => hb (by simp [z])) (fun z => hb (by simp [z])) (fun z => hb (by simp [z])) (fun z => hb (by simp [z])) q)) hf (Nat.le_refl _) ⟨by show 2 ≤ sizeLine; decide, [u, u2], .cons ru (.cons ru2 .nil), ⟨_, T1', rfl, _, rfl⟩⟩
    have n2' : (upd H s.heap.objs.size (.tup [x, y])) (s.heap.objs.size + 1) = none := by rw [upd_ne (Nat.succ_ne_self _)]; exact n2
    have I2 := adopt (T := s.heap.objs.size + 1) (ob := .tup [.int (i : Nat), .ref s.heap.objs.size]) I1 (I.fpOk (Nat.le_succ _) n2') ⟨by show 2 ≤ sizeLine; decide, [.int i tk, .ref s.heap.objs.size], .cons ⟨_, rfl⟩ (.cons rfl .nil), ⟨_, T2', rfl, _, rfl⟩⟩
    obtain ⟨f0, f1, hz', hf', uu, vv, hTO'⟩ := hz'
    refine ⟨.ref (s.heap.objs.size + 1), _, I2, rfl, ⟨s.heap.objs.size, _, x, y, rfl, n1, n2, (Nat.succ_ne_self _).symm, rfl, fun l hl => by rw [I.list_inj hl hqx]; exact hx, fun l hl => by rw [I.list_inj hl hqy]; exact hy⟩, ⟨⟨.ref s.heap.objs.size, ?_⟩, ⟨f0, f1, up (Ne.symm ne.1) hz', hf', uu, vv, up (Ne.symm ne.2.2.1) hTO'⟩, up (Ne.symm ne.2.1) hTI', h1'.at fun o q => up (Ne.symm ne.2.2.2.1) q, h2'.at fun o q => up (Ne.symm ne.2.2.2.2) q⟩, fun c hcm => ?_⟩
    · have e1 : ((i + 1 : Nat) : Int) = (i : Int) + 1 := by omega
      rw [e1]
      exact he'
    · have hn := (hf c hcm).1
      have hlt : c < s.heap.objs.size := by
        obtain ⟨f0', f1', hz0, _, _, _, hTO0⟩ := hz
        have e' : c = e ∨ c = z ∨ c = TI ∨ c = TO ∨ c = i1 ∨ c = i2 := by simpa using hcm
        rcases e' with q | q | q | q | q | q
        · rw [q]; exact hel
        · rw [q]; exact Heap.lt_size hz0
        · rw [q]; exact Heap.lt_size hTI
        · rw [q]; exact Heap.lt_size hTO0
        · rw [q]; obtain ⟨_, e1, _⟩ := h1; exact Heap.lt_size e1
        · rw [q]; obtain ⟨_, e2, _⟩ := h2; exact Heap.lt_size e2
      rw [upd_ne (Nat.ne_of_lt (Nat.lt_succ_of_lt hlt)), upd_ne (Nat.ne_of_lt hlt)]
      exact hn
  done := by
    intro X hP hw hK hc i pins s σ H E I hf st hg
    subst hP hw hK
    obtain ⟨⟨old, he⟩, hz, hTI, h1, h2⟩ := st
    obtain ⟨xs, ys, hqx, hqy, hend⟩ := hg
    obtain ⟨its, rv, p, _⟩ := I.list hqx
    obtain ⟨its2, rv2, p2, _⟩ := I.list hqy
    have l1 := rv.length
    exact enumzip_end (I.ok.hd hc) D he hz hTI h1 h2 p.isList p2.isList (by simp; omega) fun h' hk => ⟨rfl, I.turnedL (t' := s.toks) (ch := [e, z, TI, TO, i1, i2]) (fun c o hb q => hk c o (fun z => hb (by simp [z])) (fun z => hb (by simp [z])) (fun z => hb (by simp [z])) (fun z => hb (by simp [z])) q) hf⟩
  self := fun A i s Q E st h => let ⟨⟨_, he⟩, _⟩ := st; wpAny_pyIter_enum he h
def iEz (K : PySem.W.Frag) (ta : TA) : TI := fun σ H R => ta σ H fun vs H1 => ∃ a b xs ys, vs = [.ref a, .ref b] ∧ SqL K H1 a xs ∧ SqL K H1 b ys ∧ R (Itez K a b) H1
theorem pi_enumzip {X : Cx} {e e2 : Expr} {ta : TA} {p p2 pos pz tpos : Pos} {elts : List Expr} {kk : Nat} (hg : Gl X "enumerate") (hm : X.mg "enumerate" = none) (hgz : Gl X "zip") (hmz : X.mg "zip" = none) (ha : PA X [e, e2] ta)
    (hs : starEach [e, e2] X.env = (false, eval e X.env) :: starEach [e2] X.env := by rfl) (hpl : (backTo pz (starEach [e2] X.env)).any (·.1) = false := by rfl)
    (hs0 : starEach [.Call (.Name "zip" p2) [e, e2] [] pz] X.env = [(false, eval (.Call (.Name "zip" p2) [e, e2] [] pz) X.env)] := by rfl) :
    PI X (.Tuple elts kk tpos) (.Call (.Name "enumerate" p) [.Call (.Name "zip" p2) [e, e2] [] pz] [] pos) (iEz X.K ta) := by
  refine ⟨fun pins s σ H R I h => ?_⟩
  refine Call_ (ld_blt I hg hm boot_enumerate (PyProof.Rows.callWith_type1 ?_ hs0 rfl))
  rw [hs0]
  show wpAny _ _ (spliced ((false, eval (.Call (.Name "zip" p2) [e, e2] [] pz) X.env) :: backTo pos (starEach [] X.env))) _ _ s
  refine Calls.spliced_cons (Call_ (ld_blt I hgz hmz PyProof.Rows.boot_zip (PyProof.Rows.callWith_type1 (thn (ha.run pz pins s σ H _ I h) fun us s1 ⟨vs, H1, I1, r1, q1⟩ => ?_) hs hpl)))
  obtain ⟨a, b, xs, ys, ex, hqx, hqy, q⟩ := q1
  subst ex
  cases r1 with
  | cons r rr =>
    cases rr with
    | cons r' rr =>
      cases rr
      cases r
      cases r'
      obtain ⟨its, rv, p1, _⟩ := I1.list hqx
      obtain ⟨its2, rv2, p2, _⟩ := I1.list hqy
      have la : a < s1.heap.objs.size := p1.lt
      have lb : b < s1.heap.objs.size := p2.lt
      refine call_zip_2 p1.isList p2.isList fun h' hz hTI hTO h1 h2 hsz hk => Calls.spliced_nil (call_enum_zip hz ?_)
      have he : IsEnum (h'.push { cls := .type "enumerate", data := .fields #[.none, .bool false, .ref (s1.heap.objs.size + 4), rawInt 0, .none, .none] }) h'.objs.size (s1.heap.objs.size + 4) (0 : Int) .none := Heap.get?_push_size _ rfl
      refine wpAny_pyIter_enum he ?_
      have up : ∀ {c o}, h'.get? c = some o → (h'.push { cls := .type "enumerate", data := .fields #[.none, .bool false, .ref (s1.heap.objs.size + 4), rawInt 0, .none, .none] }).get? c = some o := fun q => Heap.get?_push_of_some _ q
      have I2 : Inv X pins σ H1 { s1 with heap := h'.push { cls := .type "enumerate", data := .fields #[.none, .bool false, .ref (s1.heap.objs.size + 4), rawInt 0, .none, .none] } } := I1.kept (t' := s1.toks) fun c o q => up (hk c o q)
      have ne : h'.objs.size ≠ s1.heap.objs.size + 4 ∧ h'.objs.size ≠ s1.heap.objs.size + 2 ∧ h'.objs.size ≠ s1.heap.objs.size + 3 ∧ h'.objs.size ≠ s1.heap.objs.size ∧ h'.objs.size ≠ s1.heap.objs.size + 1 := by omega
      refine ⟨h'.objs.size, [h'.objs.size, s1.heap.objs.size + 4, s1.heap.objs.size + 2, s1.heap.objs.size + 3, s1.heap.objs.size, s1.heap.objs.size + 1], _, _, H1, rfl, I2, turn_enumzip (PySem.W.ktu_apart s1.heap.objs.size a b la lb) ne, ⟨⟨_, he⟩, ⟨_, _, up hz, .inl rfl, _, _, up hTO⟩, up hTI, h1.at fun o q => up q, h2.at fun o q => up q⟩, fun c hcm => ?_, q⟩
      have e' : c = h'.objs.size ∨ c = s1.heap.objs.size + 4 ∨ c = s1.heap.objs.size + 2 ∨ c = s1.heap.objs.size + 3 ∨ c = s1.heap.objs.size ∨ c = s1.heap.objs.size + 1 := by simpa using hcm
      have hle : s1.heap.objs.size ≤ c := by
        rcases e' with z | z | z | z | z | z
        · rw [z, hsz]; exact Nat.le_add_right _ _
        · rw [z]; exact Nat.le_add_right _ _
        · rw [z]; exact Nat.le_add_right _ _
        · rw [z]; exact Nat.le_add_right _ _
        · rw [z]; exact Nat.le_refl _
        · rw [z]; exact Nat.le_add_right _ _
      exact I1.fpOk hle (I1.hok.fresh hle)
section
variable {X : Cx} {W : Wr} {G0 H0 : Hp} {ds : List Sl} {a b : Expr} {pos p2 p3 p4 p5 p6 p7 p8 p9 p10 : Pos} {N B C : NX} {r : RT} {rest body : List Stmt}
theorem walk_ez {K : PySem.W.Frag} {a b : Addr} {xs ys : List V} (hl : xs.length = ys.length) : Walk (Itez K a b) xs.length (fun H => SqL K H a xs ∧ SqL K H b ys) (fun i H v H' => ∃ T1 T2 x y, v = .ref T2 ∧ H T1 = none ∧ H T2 = none ∧ T1 ≠ T2 ∧ H' = upd (upd H T1 (.tup [x, y])) T2 (.tup [.int (i : Nat), .ref T1]) ∧ xs[i]? = some x ∧ ys[i]? = some y) :=
  ⟨fun i _ hi q => ⟨xs, ys, xs[i], ys[i]'(by omega), q.1, q.2, by simp [hi], by simp [show i < ys.length by omega]⟩, fun _ q => ⟨xs, ys, q.1, q.2, Nat.le_refl _⟩, fun i H v H' _ q y => by
    obtain ⟨T1, T2, x, z, h1, h2, h3, h4, h5, h6, h7⟩ := y
    exact ⟨T1, T2, x, z, h1, h2, h3, h4, h5, h6 xs q.1, h7 ys q.2⟩⟩
/-- for i, (x, y) in enumerate(zip(list, list)) -/
theorem bm_forEZ {N1 : NX} (i j l : Nat) {x y z : Str} {n0 n1 : Nat} {as bs : List PyData} (hab : as.length = bs.length) (ha : Em X W ds a (· = .list as)) (hb : Em X W ds b (· = .list bs)) (I : Nat → List Sl → Prop) (h0 : I 0 ds) (hp : PassesOwn (model X.prog X.w) X.A X.env X.xe) (hc : X.calm = true) (hme : X.mg "enumerate" = none) (hmz : X.mg "zip" = none)
    (hs : ∀ (n : Nat) d d' ds', as[n]? = some d → bs[n]? = some d' → I n ds' → Bm X W G0 H0 (((ds'.set i (.dat (.int n))).set j (.dat d)).set l (.dat d')) body (I (n + 1)) N1 (I (n + 1)) r) (hd : ∀ ds', I as.length ds' → N1 ds') (k : ∀ ds', N1 ds' → Bm X W G0 H0 ds' rest N B C r) (hN : X.N.Nodup) (hi : X.N[i]? = some x := by rfl) (hj : X.N[j]? = some y := by rfl) (hl : X.N[l]? = some z := by rfl)
    (hx : Loc X.env.scope x := by first | exact Or.inl rfl | exact Or.inr rfl) (hy : Loc X.env.scope y := by first | exact Or.inl rfl | exact Or.inr rfl) (hz : Loc X.env.scope z := by first | exact Or.inl rfl | exact Or.inr rfl)
    (hfx : X.fn x = true ∨ X.env.scope.names.lookup x = some .local := by first | exact .inl rfl | exact .inr rfl) (hfy : X.fn y = true ∨ X.env.scope.names.lookup y = some .local := by first | exact .inl rfl | exact .inr rfl) (hfz : X.fn z = true ∨ X.env.scope.names.lookup z = some .local := by first | exact .inl rfl | exact .inr rfl) (hge : Gl X "enumerate" := by rfl) (hgz : Gl X "zip" := by rfl)
    (q1 : (assignEach [.Name x p2, .Tuple [.Name y p3, .Name z p4] n1 p5] X.env).map (·.2) = assign (.Name x p2) X.env :: (assignEach [.Tuple [.Name y p3, .Name z p4] n1 p5] X.env).map (·.2) := by rfl) (q2 : (assignEach [.Tuple [.Name y p3, .Name z p4] n1 p5] X.env).map (·.2) = assign (.Tuple [.Name y p3, .Name z p4] n1 p5) X.env :: (assignEach [] X.env).map (·.2) := by rfl)
    (q3 : (assignEach [.Name y p3, .Name z p4] X.env).map (·.2) = assign (.Name y p3) X.env :: (assignEach [.Name z p4] X.env).map (·.2) := by rfl) (q4 : (assignEach [.Name z p4] X.env).map (·.2) = assign (.Name z p4) X.env :: (assignEach [] X.env).map (·.2) := by rfl)
    (m1 : (assignEach [.Name x p2, .Tuple [.Name y p3, .Name z p4] n1 p5] X.env).length = 2 := by rfl) (m2 : (assignEach [.Name x p2, .Tuple [.Name y p3, .Name z p4] n1 p5] X.env).findIdx? (·.1) = none := by rfl) (m3 : (assignEach [.Name y p3, .Name z p4] X.env).length = 2 := by rfl) (m4 : (assignEach [.Name y p3, .Name z p4] X.env).findIdx? (·.1) = none := by rfl)
    (s1 : starEach [a, b] X.env = (false, eval a X.env) :: starEach [b] X.env := by rfl) (s2 : starEach [b] X.env = (false, eval b X.env) :: starEach [] X.env := by rfl) (hpl : (backTo p9 (starEach [b] X.env)).any (·.1) = false := by rfl) (s0 : starEach [.Call (.Name "zip" p8) [a, b] [] p9] X.env = [(false, eval (.Call (.Name "zip" p8) [a, b] [] p9) X.env)] := by rfl)
    (hs' : ∀ x, foldedSetIterable (.Call (.Name "enumerate" p7) [.Call (.Name "zip" p8) [a, b] [] p9] [] p10) X.env x = pure x := by intro _; rfl) :
    Bm X W G0 H0 ds (.For (.Tuple [.Name x p2, .Tuple [.Name y p3, .Name z p4] n1 p5] n0 p6) (.Call (.Name "enumerate" p7) [.Call (.Name "zip" p8) [a, b] [] p9] [] p10) body [] pos :: rest) N B C r :=
  bm_st (ps_for hp hc (pi_enumzip hge hme hgz hmz (pa_cons pe_u (pa_cons pe_u pa_nil s2) s1) s1 hpl s0) (pg_tup hc (pgs_cons (pg_name (i := i) hN hi hx hfx) (pgs_cons (pg_tup hc (pgs_cons (pg_name (i := j) hN hj hy hfy) (pgs_cons (pg_name (i := l) hN hl hz hfz) pgs_nil q4) q3) m3 m4) pgs_nil q2) q1) m1 m2) pss_u hs') (fun Gb σ G H D s env n bb cc qq => ha σ G H s.ok env _ fun v d G1 H1 r1 hv e => hb σ G1 H1 (W.oks r1) (env.mono r1) _ fun v' d' G2 H2 r2 hv' e' => by
    subst e
    subst e'
    have hv := dmono (W.g r2) _ _ hv
    cases hv with
    | @lst ad us _ hq hus => cases hv' with
      | @lst ad' us' _ hq' hus' =>
        have sm := W.sub (W.oks r2)
        have sR := (s.to r1).to r2
        refine ⟨ad, ad', us, us', rfl, .inl (.inl (sm _ _ hq)), .inl (.inl (sm _ _ hq')), for_it (walk_ez (K := X.K) (xs := us) (ys := us') (by rw [hus.len, hus'.len]; exact hab)) (fun n σ' H' => ∃ ds' G', At W G2 G0 H0 G' H' ∧ EnvOk X.K W G' H' ds' σ' ∧ I n ds') ⟨ds, G2, ⟨.refl _, sR.r⟩, (env.mono r1).mono r2, h0⟩ ?_ ?_ ?_⟩
        · rintro m σ' H' _ ⟨ds', G', s', _, _⟩
          exact ⟨.inl (.inl (W.sub s'.ok _ _ (s'.b _ _ hq))), .inl (.inl (W.sub s'.ok _ _ (s'.b _ _ hq')))⟩
        · rintro m y' σ' H' H'' hm ⟨ds', G', s', env', hI⟩ ⟨T1, T2, x1, x2, rfl, hT1, hT2, h12, rfl, hx1, hx2⟩
          obtain ⟨d1, g1, t1⟩ := hus.atV hx1
          obtain ⟨d2, g2, t2⟩ := hus'.atV hx2
          have st1 : Stp G' H' G' (upd H' T1 (.tup [x1, x2])) := ⟨.refl _, same_upd2 (W.sub s'.ok) ((W.sub s'.ok).free hT1), same_upd hT1, fun _ _ h => h⟩
          have r3 := W.step s'.ok st1
          have hT2' : (upd H' T1 (.tup [x1, x2])) T2 = none := by rw [upd_ne (Ne.symm h12)]; exact hT2
          have st2 : Stp G' (upd H' T1 (.tup [x1, x2])) G' (upd (upd H' T1 (.tup [x1, x2])) T2 (.tup [.int (m : Nat), .ref T1])) := ⟨.refl _, same_upd2 (W.sub (W.oks r3)) ((W.sub s'.ok).free hT2), same_upd hT2', fun _ _ h => h⟩
          have r4 := W.trans r3 (W.step (W.oks r3) st2)
          refine ⟨T2, [.int (m : Nat), .ref T1], rfl, SqT.of upd_same, rfl, .int (m : Nat), [.ref T1], rfl, .ref T1, [], rfl, T1, [x1, x2], rfl, SqT.of (by rw [upd_ne h12, upd_same]), rfl, x1, [x2], rfl, x2, [], rfl, rfl, rfl, ?_⟩
          exact hs m d1 d2 ds' g1 g2 hI G2 _ G' _ _ (s'.to r4) ((((env'.mono r4).set i (.dat (.int _))).set j (.dat (dmono s'.b _ _ t1))).set l (.dat (dmono s'.b _ _ t2))) (fun ds2 σ2 G3 H3 s3 e3 p => ⟨ds2, G3, s3, e3, p⟩) (fun ds2 σ2 G3 H3 s3 e3 p => n ds2 σ2 G3 H3 ⟨sR.b.trans s3.b, s3.r⟩ e3 p) (fun ds2 σ2 G3 H3 s3 e3 p => ⟨ds2, G3, s3, e3, p⟩) qq
        · rintro σ' H' ⟨ds', G', s', env', hI⟩
          exact n ds' σ' G' H' ⟨sR.b.trans s'.b, s'.r⟩ env' (hd ds' (by rw [← hus.len]; exact hI))) k
end
end Dn
namespace Dn
open PySem PySem.Spec PyProof.Rows L2 LamX
theorem mi_bx (b : Addr) {S : Addr → Prop} {I : Hp → Hp → Prop} (m : Mi S I) : Mi (fun a => a = b ∨ S a) (fun G H => BagI b G H ∧ I G H) := ⟨fun t g e => ⟨t.1.mono g (e b (.inl rfl)), m.mono t.2 g fun a ha => e a (.inr ha)⟩⟩
abbrev bxw (b : Addr) {S : Addr → Prop} {I : Hp → Hp → Prop} (m : Mi S I) : Wr := mw (fun a => a = b ∨ S a) (fun G H => BagI b G H ∧ I G H) (mi_bx b m)
theorem subx_bag (b : Addr) {S : Addr → Prop} {I : Hp → Hp → Prop} (m : Mi S I) (hbS : ∀ b G H, BagI b G H → I G H → ¬ S b) : Sub (bw b) (bxw b m) where
  ok := fun h => ⟨h.1, (h.2.1 b (.inl rfl)).1, h.2.2.1⟩
  R := fun {G H G1 H1} o s => by
    have key : ∀ a, S a → H1 a = H a := fun a ha => by
      obtain ⟨u, eu⟩ := ne_some (o.2.1 a (.inr ha)).2
      rw [eu, s.h a u (fun z => hbS b G H o.2.2.1 o.2.2.2 (by rw [← z]; exact ha)) eu]
    have bi : BagI b G1 H1 := s.ok.2.2
    refine ⟨s.g, s.ok.1, fun a ha => ?_, ⟨bi, m.mono o.2.2.2 s.g key⟩, fun a x ha e => s.h a x (fun z => ha (.inl z)) e, s.k⟩
    rcases ha with rfl | ha
    · obtain ⟨l, k, ns, h1, _⟩ := bi
      exact ⟨s.ok.2.1, some_ne h1⟩
    · exact ⟨s.k _ (o.2.1 _ (.inr ha)).2 (o.2.1 _ (.inr ha)).1, by rw [key a ha]; exact (o.2.1 _ (.inr ha)).2⟩
  stb := fun h z => h (.inl z)
  fl := rfl
theorem subx_tab (b : Addr) {S : Addr → Prop} {I : Hp → Hp → Prop} (m : Mi S I) (hbS : ∀ b G H, BagI b G H → I G H → ¬ S b) : Sub (mw S I m) (bxw b m) where
  ok := fun h => ⟨h.1, fun a ha => h.2.1 a (.inr ha), h.2.2.2⟩
  R := fun {G H G1 H1} o s => by
    obtain ⟨u, eu⟩ := ne_some (o.2.1 b (.inl rfl)).2
    have eb : H1 b = H b := by rw [eu, s.h b u (hbS b G H o.2.2.1 o.2.2.2) eu]
    refine ⟨s.g, s.i, fun a ha => ?_, ⟨o.2.2.1.mono s.g eb, s.v⟩, fun a x ha e => s.h a x (fun z => ha (.inr z)) e, s.k⟩
    rcases ha with rfl | ha
    · exact ⟨s.k _ (o.2.1 _ (.inl rfl)).2 (o.2.1 _ (.inl rfl)).1, by rw [eb]; exact (o.2.1 _ (.inl rfl)).2⟩
    · exact s.o _ ha
  stb := fun h z => h (.inr z)
  fl := rfl
theorem mi_lx (bs : List Addr) {S : Addr → Prop} {I : Hp → Hp → Prop} (m : Mi S I) : Mi (fun a => a ∈ bs ∨ S a) I := ⟨fun t g e => m.mono t g fun a ha => e a (.inr ha)⟩
abbrev lwx (bs : List Addr) {S : Addr → Prop} {I : Hp → Hp → Prop} (m : Mi S I) : Wr := mw (fun a => a ∈ bs ∨ S a) I (mi_lx bs m)
theorem bx_lwx {bs : List Addr} {b : Addr} {S : Addr → Prop} {I : Hp → Hp → Prop} {m : Mi S I} {G H G1 H1 : Hp} (hb : b ∈ bs) (o : (lwx bs m).ok G H) (s : (bxw b m).R G H G1 H1) : (lwx bs m).R G H G1 H1 :=
  ⟨s.g, s.i, fun a ha => ⟨s.k a (o.2.1 a ha).2 (o.2.1 a ha).1, s.there (o.2.1 a ha).2⟩, s.v.2, fun a x ha e => s.h a x (fun z => by
      rcases z with z | z
      · exact ha (.inl (by rw [z]; exact hb))
      · exact ha (.inr z)) e, s.k⟩
/-- two tables -/
abbrev S2 (P1 P2 : Addr) : Addr → Prop := fun a => a = P1 ∨ a = P2
abbrev I2 (P1 P2 : Addr) (q1 q2 : Str) : Hp → Hp → Prop := fun G H => TabG P1 q1 G H ∧ TabG P2 q2 G H
theorem mi_2 (P1 P2 : Addr) (q1 q2 : Str) : Mi (S2 P1 P2) (I2 P1 P2 q1 q2) := ⟨fun t g e => ⟨t.1.mono g (e P1 (.inl rfl)), t.2.mono g (e P2 (.inr rfl))⟩⟩
theorem bag_2 {P1 P2 : Addr} {q1 q2 : Str} : ∀ b G H, BagI b G H → I2 P1 P2 q1 q2 G H → ¬ S2 P1 P2 b := fun b G H t u z => by
  rcases z with z | z
  · exact tab_ne t u.1 z
  · exact tab_ne t u.2 z
theorem sub_tab1 {P1 P2 : Addr} {q1 q2 : Str} (ne : P1 ≠ P2) : Sub (tw P1 q1) (mw (S2 P1 P2) (I2 P1 P2 q1 q2) (mi_2 P1 P2 q1 q2)) where
  ok := fun h => ⟨h.1, fun a ha => h.2.1 a (.inl ha), h.2.2.1⟩
  R := fun {G H G1 H1} o s => by
    obtain ⟨u, eu⟩ := ne_some (o.2.1 P2 (.inr rfl)).2
    have eb : H1 P2 = H P2 := by rw [eu, s.h P2 u (Ne.symm ne) eu]
    refine ⟨s.g, s.i, fun a ha => ?_, ⟨s.v, o.2.2.2.mono s.g eb⟩, fun a x ha e => s.h a x (fun z => ha (.inl z)) e, s.k⟩
    rcases ha with rfl | rfl
    · exact s.o _ rfl
    · exact ⟨s.k _ (o.2.1 _ (.inr rfl)).2 (o.2.1 _ (.inr rfl)).1, by rw [eb]; exact (o.2.1 _ (.inr rfl)).2⟩
  stb := fun h z => h (.inl z)
  fl := rfl
theorem sub_tab2 {P1 P2 : Addr} {q1 q2 : Str} (ne : P1 ≠ P2) : Sub (tw P2 q2) (mw (S2 P1 P2) (I2 P1 P2 q1 q2) (mi_2 P1 P2 q1 q2)) where
  ok := fun h => ⟨h.1, fun a ha => h.2.1 a (.inr ha), h.2.2.2⟩
  R := fun {G H G1 H1} o s => by
    obtain ⟨u, eu⟩ := ne_some (o.2.1 P1 (.inl rfl)).2
    have eb : H1 P1 = H P1 := by rw [eu, s.h P1 u ne eu]
    refine ⟨s.g, s.i, fun a ha => ?_, ⟨o.2.2.1.mono s.g eb, s.v⟩, fun a x ha e => s.h a x (fun z => ha (.inr z)) e, s.k⟩
    rcases ha with rfl | rfl
    · exact ⟨s.k _ (o.2.1 _ (.inl rfl)).2 (o.2.1 _ (.inl rfl)).1, by rw [eb]; exact (o.2.1 _ (.inl rfl)).2⟩
    · exact s.o _ rfl
  stb := fun h z => h (.inr z)
  fl := rfl
theorem Sub.trans {W1 W2 W3 : Wr} (a : Sub W1 W2) (b : Sub W2 W3) : Sub W1 W3 := ⟨fun h => a.ok (b.ok h), fun o r => b.R o (a.R (b.ok o) r), fun h => a.stb (b.stb h), b.fl.trans a.fl⟩
section
variable {X : Cx} {pos p2 p3 p4 p5 p6 p7 : Pos}
/-- as law_loop, in a world where what is at S may change -/
theorem law_loopX {x sc bn : Str} {k m : Nat} {ps : List Str} {ad : Addr} {S : Addr → Prop} {I : Hp → Hp → Prop} (m0 : Mi S I) (hbS : ∀ b G H, BagI b G H → I G H → ¬ S b) {ns : List Int} {z : Int} {body rest : List Stmt} {G H : Hp} {σ : L2.St} {Q : VK} {kk : Nat} (F : Fk X.prog X.w X.K X.mg X.base x k ps spBags) (hr : Room k X.A) (hz : 1 ≤ z ∧ z ≤ 100)
    (hlen : σ.length = m) (hm : 2 ≤ m) (h0 : σ[0]? = some (some (.ref ad))) (sm : Same G H) (hS : SqL X.K G ad (ns.map V.int)) (gP : ∀ a, S a → G a = none ∧ H a ≠ none) (tab : I G H) (q : ∀ H', Q (.bl true) H')
    (hbody : ∀ (b : Addr) (G1 H1 : Hp), (bxw b m0).ok G1 H1 → Bm X (bxw b m0) G1 H1 (.scr X.K ad ns :: .raw (.ref b) :: List.replicate (m - 2) .un) body (fun ds' => ds'.length = m ∧ ds'[0]? = some (.scr X.K ad ns)) nono nono (rD X.K (· = .bool true)))
    (hrest : ∀ (bs : List Addr) (G1 H1 : Hp), Bm X (lwx bs m0) G1 H1 (.scr X.K ad ns :: List.replicate (m - 1) .un) rest nono nono nono (rD X.K (· = .bool true)))
    (hp : PassesOwn (model X.prog X.w) X.A X.env X.xe) (hc : X.calm = true) (hN : X.N.Nodup) (hN0 : X.N[0]? = some sc := by rfl) (hi : X.N[1]? = some bn := by rfl) (hx : Loc X.env.scope bn := by first | exact Or.inl rfl | exact Or.inr rfl) (hf : X.fn bn = true ∨ X.env.scope.names.lookup bn = some .local := by first | exact .inl rfl | exact .inr rfl)
    (hv : Vis X.env.scope sc := by first | exact Or.inl rfl | exact Or.inr (Or.inl rfl) | exact Or.inr (Or.inr rfl)) (hd : (sc == ("__debug__" : Str)) = false := by decide) (hcd : (sc == ("__classdict__" : Str)) = false := by decide) (hg : Gl X x := by rfl)
    (hdb : (x == ("__debug__" : Str)) = false := by decide) (he1 : starEach [.Constant (.int z) kk p6] X.env = (false, eval (.Constant (.int z) kk p6) X.env) :: starEach [] X.env := by rfl) (he : starEach [.Name sc p5, .Constant (.int z) kk p6] X.env = (false, eval (.Name sc p5) X.env) :: starEach [.Constant (.int z) kk p6] X.env := by rfl)
    (hpl : (backTo p4 (starEach [.Constant (.int z) kk p6] X.env)).any (·.1) = false := by rfl) (hs : ∀ y, foldedSetIterable (.Call (.Name x p3) [.Name sc p5, .Constant (.int z) kk p6] [] p4) X.env y = pure y := by intro _; rfl) :
    ∃ t, PSs X (.For (.Name bn p2) (.Call (.Name x p3) [.Name sc p5, .Constant (.int z) kk p6] [] p4) body [] pos :: rest) t ∧ t { nx := fun _ H' => Q .non H', rt := Q } σ H := by
  obtain ⟨f, fd, Gf, hmf, hk, hb⟩ := F.ex
  refine ⟨_, pss_cons (ps_for hp hc (pi_list (pe_call Gf hr hg hmf hk hb .nil pass0 (pa_cons (pv 0 hN0 hv hd hcd) (pa_cons pe_int pa_nil he1) he) hdb he hpl)) (pg_name (i := 1) hN hi hx hf) pss_u hs) pss_u, ?_⟩
  refine ⟨.ref ad, h0, ?_⟩
  refine ⟨ad, G, ns, z, rfl, hz.1, hz.2, sm, hS, fun L bs G1 H1 st hL nd hbs => ?_⟩
  have key : ∀ a, S a → H1 a = H a := fun a ha => by
    obtain ⟨u, eu⟩ := ne_some (gP a ha).2
    rw [eu, st.h _ _ eu]
  have tab1 : I G1 H1 := m0.mono tab st.g key
  have o1 : (lwx bs m0).ok G1 H1 := ⟨st.i, fun a ha => by
    rcases ha with ha | ha
    · obtain ⟨g, l, k, ns, e, _⟩ := hbs a ha
      exact ⟨g, some_ne e⟩
    · exact ⟨st.k a (gP a ha).2 (gP a ha).1, by rw [key a ha]; exact (gP a ha).2⟩, tab1⟩
  have fin : ∀ v G2 H2, (rD X.K (· = .bool true)) v G2 H2 → Q v H2 := fun v G2 H2 ⟨d, hd, e⟩ => by
    subst e
    cases hd
    exact q H2
  refine ⟨L, rfl, ⟨_, .inl (.inl (st.i _ _ hL))⟩, for_list (K := X.K) (xs := bs.map V.ref) (fun n σ' H' => ∃ G', (lwx bs m0).R G1 H1 G' H' ∧ σ'.length = m ∧ σ'[0]? = some (some (.ref ad)) ∧ ∀ j b, n ≤ j → bs[j]? = some b → BagAt b G' H') ⟨G1, (lwx bs m0).refl o1, hlen, h0, fun j b _ hj => hbs b (List.mem_of_getElem? hj)⟩ ?_ ?_ ?_⟩
  · rintro n σ' H' _ ⟨G', r, _⟩
    exact .inl (.inl (r.i _ _ (r.g _ _ hL)))
  · rintro n y σ' H' hn ⟨G', r, hl', h0', hbs'⟩
    rw [List.getElem?_map] at hn
    cases eb : bs[n]? with
    | none =>
      rw [eb] at hn
      cases hn
    | some b =>
      rw [eb] at hn
      cases hn
      have bo := hbs' n b (Nat.le_refl _) eb
      have hb : b ∈ bs := List.mem_of_getElem? eb
      have okl := (lwx bs m0).oks r
      have bok : (bxw b m0).ok G' H' := ⟨r.i, fun a ha => okl.2.1 a (ha.imp (fun z => by rw [z]; exact hb) id), bo.2, r.v⟩
      have env : EnvOk X.K (bxw b m0) G' H' (.scr X.K ad ns :: .raw (.ref b) :: List.replicate (m - 2) .un) (σ'.set 1 (some (.ref b))) := by
        refine ⟨by rw [List.length_cons, List.length_cons, List.length_replicate, List.length_set, hl']; omega, fun i s y a c => ?_⟩
        match i with
        | 0 =>
          cases a
          rw [List.getElem?_set_ne (by decide), h0'] at c
          cases c
          exact ⟨rfl, (st.g.trans r.g).seq hS⟩
        | 1 =>
          cases a
          rw [List.getElem?_set_self (by omega)] at c
          cases c
          rfl
        | i + 2 =>
          rw [List.getElem?_cons_succ, List.getElem?_cons_succ, List.getElem?_replicate] at a
          split at a
          · cases a
            trivial
          · cases a
      have next : ∀ (ds' : List Sl) σ2 G2 H2, At (bxw b m0) G' G' H' G2 H2 → EnvOk X.K (bxw b m0) G2 H2 ds' σ2 → ds'[0]? = some (.scr X.K ad ns) → σ2.length = m → ∃ G', (lwx bs m0).R G1 H1 G' H2 ∧ σ2.length = m ∧ σ2[0]? = some (some (.ref ad)) ∧ ∀ j b, n + 1 ≤ j → bs[j]? = some b → BagAt b G' H2 := fun ds' σ2 G2 H2 s2 e2 hd l2 => by
        obtain ⟨y, e3, e4, _⟩ := e2.at hd
        refine ⟨G2, (lwx bs m0).trans r (bx_lwx hb okl s2.r), l2, by rw [e3, e4], fun j c hj hc => ?_⟩
        have ncb : c ≠ b := fun z => by
          rw [z] at hc
          obtain ⟨h1, q1⟩ := List.getElem?_eq_some_iff.mp hc
          obtain ⟨h2, q2⟩ := List.getElem?_eq_some_iff.mp eb
          have := (List.getElem_inj nd).mp (q1.trans q2.symm)
          omega
        obtain ⟨g, l, k, ns, e, hl, h4⟩ := hbs' j c (by omega) hc
        have ncP : ¬ S c := hbS c G' H' ⟨l, k, ns, e, hl, h4⟩ r.v
        exact ⟨s2.r.k c (some_ne e) g, l, k, ns, s2.r.h c _ (fun z => z.elim ncb ncP) e, s2.r.g _ _ hl, h4⟩
      exact hbody b G' H' bok G' _ G' H' _ ⟨.refl _, (bxw b m0).refl bok⟩ env (fun ds2 σ2 G2 H2 s2 e2 p => next ds2 σ2 G2 H2 s2 e2 p.2 (e2.1.symm.trans p.1)) (fun _ _ _ _ _ _ z => z.elim) (fun _ _ _ _ _ _ z => z.elim) fun v G2 H2 _ h => fin v G2 H2 h
  · rintro σ' H' ⟨G', r, hl', h0', _⟩
    have env : EnvOk X.K (lwx bs m0) G' H' (.scr X.K ad ns :: List.replicate (m - 1) .un) σ' := by
      refine ⟨by rw [List.length_cons, List.length_replicate, hl']; omega, fun i s y a c => ?_⟩
      match i with
      | 0 =>
        cases a
        rw [h0'] at c
        cases c
        exact ⟨rfl, (st.g.trans r.g).seq hS⟩
      | i + 1 =>
        rw [List.getElem?_cons_succ, List.getElem?_replicate] at a
        split at a
        · cases a
          trivial
        · cases a
    exact hrest bs G' H' G' σ' G' H' _ ⟨.refl _, (lwx bs m0).refl ((lwx bs m0).oks r)⟩ env (fun _ _ _ _ _ _ z => z.elim) (fun _ _ _ _ _ _ z => z.elim) (fun _ _ _ _ _ _ z => z.elim) fun v G2 H2 _ h => fin v G2 H2 h
end
/-! ## an expression that comes to something, or raises -/
def Um (X : Cx) (W : Wr) (G0 H0 : Hp) (ds : List Sl) (e : Expr) (o : Option Str) : Prop := ∀ σ G H, W.R G0 H0 G H → EnvOk X.K W G H ds σ → ∀ Q : VK, (∀ u G2 H2, o = none → W.R G H G2 H2 → Q u H2) → uE X e σ H Q
/-- .. to the object at f -/
def Rf (X : Cx) (W : Wr) (ds : List Sl) (e : Expr) (f : Addr) : Prop := ∀ σ G H, W.ok G H → EnvOk X.K W G H ds σ → ∀ Q : VK, Q (.ref f) H → uE X e σ H Q
def EXo (K : PySem.W.Frag) (W : Wr) (G0 H0 : Hp) (o : Option Str) : XK := fun cls d H => ∃ wd, o = some wd ∧ cls = .ref (He.ga K wd) ∧ d = none ∧ ∃ G, W.R G0 H0 G H
def Tko (X : Cx) (W : Wr) (G0 H0 : Hp) (o : Option Str) : Prop := L2N.Takes X (fun cls d _ H => EXo X.K W G0 H0 o cls d H)
section
variable {X : Cx} {W : Wr} {G0 H0 : Hp} {ds : List Sl} {e a b c : Expr} {es : List Expr} {pos p2 p3 p4 : Pos} {N B C : NX} {rest : List Stmt} {o : Option Str}
theorem rf_glob {x : Str} {f : Addr} (hm : X.mg x = some (.ref f)) (hg : Gl X x := by rfl) (hd : (x == ("__debug__" : Str)) = false := by decide) : Rf X W ds (.Name x pos) f := fun σ G H ok env Q q => ⟨_, pe_glob (v := .ref f) hg hm rfl hd, q⟩
theorem rf_var (n : Nat) {x : Str} {f : Addr} (hn : ds[n]? = some (.raw (.ref f))) (hN : X.N[n]? = some x := by rfl) (hv : Vis X.env.scope x := by first | exact Or.inl rfl | exact Or.inr (Or.inl rfl) | exact Or.inr (Or.inr rfl)) (hd : (x == ("__debug__" : Str)) = false := by decide) (hcd : (x == ("__classdict__" : Str)) = false := by decide) : Rf X W ds (.Name x pos) f := fun σ G H ok env Q q => by
  obtain ⟨z, e1, e2⟩ := env.at hn
  exact ⟨_, pv n hN hv hd hcd, .ref f, by rw [e1, show z = some (V.ref f) from e2], q⟩
theorem um_cal (n : Nat) {x : Str} {f : Addr} {k : Nat} {as : List PyData} (F : Cal X.prog X.w X.K X.mg X.base k f (fun _ => True) (spO (· = as) o X.K)) (hr : Room k X.A) (tk : Tko X W G0 H0 o) (hn : ds[n]? = some (.raw (.ref f))) (ha : Am X W ds (e :: es) (· = as)) (hN : X.N[n]? = some x := by rfl) (hv : Vis X.env.scope x := by first | exact Or.inl rfl | exact Or.inr (Or.inl rfl) | exact Or.inr (Or.inr rfl)) (hd : (x == ("__debug__" : Str)) = false := by decide) (hcd : (x == ("__classdict__" : Str)) = false := by decide)
    (he : starEach (e :: es) X.env = (false, eval e X.env) :: starEach es X.env := by rfl) (hpl : (backTo pos (starEach es X.env)).any (·.1) = false := by rfl) : Um X W G0 H0 ds (.Call (.Name x p2) (e :: es) [] pos) o := fun σ G H r env Q q => by
  obtain ⟨z, e1, e2⟩ := env.at hn
  refine ⟨_, pe_cal (i := n) (E := fun _ => EXo X.K W G0 H0 o) F hr (fun σ => fun pins H s e s' I hx => L2N.passes_call (E := EXo X.K W G0 H0 o) tk (fun _ _ _ _ h => h) pins σ H s e s' I hx) hN hv pa_u hd hcd he hpl, by rw [e1, show z = some (V.ref f) from e2], trivial, ?_⟩
  refine ha σ G H (W.oks r) env _ fun vs as' G1 H1 r1 hs e => ⟨trivial, G1, as', W.sub (W.oks r1), hs, e, fun v G' H' ho st => q v G' H' ho (W.trans r1 (W.step (W.oks r1) st)), fun wd G' H' ho st => ⟨wd, ho, rfl, rfl, G', W.trans r (W.trans r1 (W.step (W.oks r1) st))⟩⟩
theorem um_ifE {x : Bool} (hc : Tm X W ds c (· = x)) (h1 : x = true → Um X W G0 H0 ds a o) (h2 : x = false → Um X W G0 H0 ds b o) : Um X W G0 H0 ds (.IfExp c a b pos) o := fun σ G H r env Q q => ⟨_, pe_ifExp pt_u pe_u pe_u, hc σ G H (W.oks r) env _ fun y G1 H1 r1 e => by
  subst e
  cases y with
  | true =>
    rw [if_pos rfl]
    exact h1 rfl σ G1 H1 (W.trans r r1) (env.mono r1) _ fun u G2 H2 ho r2 => q u G2 H2 ho (W.trans r1 r2)
  | false =>
    rw [if_neg Bool.false_ne_true]
    exact h2 rfl σ G1 H1 (W.trans r r1) (env.mono r1) _ fun u G2 H2 ho r2 => q u G2 H2 ho (W.trans r1 r2)⟩
theorem bm_retU (h : Um X W G0 H0 ds e o) : Bm X W G0 H0 ds (.Return (some e) pos :: rest) N B C (fun _ _ _ => o = none) := bm_of (pss_cons (ps_ret pe_u) pss_never) fun Gb σ G H D s env n b c q => h σ G H s.r env _ fun u G2 H2 ho r2 => q u G2 H2 (s.to r2).r ho
end
end Dn
namespace Dn
open PySem PySem.Spec PyProof.Rows L2 LamX
/-! ## what k11's law is made of besides -/
def rTimesZ (K : PySem.W.Frag) : R2 := fun x y H Q => ∃ l k xs, x = .ref l ∧ y = .int k ∧ SqT K H l xs ∧ xs ≠ [] ∧ 2 ≤ k ∧ k ≤ 1000 ∧ xs.length ≤ 1000 ∧ newT (List.replicate k.toNat xs).flatten H Q
section
variable {X : Cx} {W : Wr} {G0 H0 : Hp} {ds : List Sl} {e a b c : Expr} {es : List Expr} {pos p2 p3 p4 p5 p6 : Pos} {P : PyData → Prop} {d : PyData} {N B C : NX} {r : RT} {rest body : List Stmt}
theorem op_timesZ : OpR X (binaryOp .Mult) (rTimesZ X.K) := by
  intro pins s σ H x y v u Q I rx ry ⟨l, k, xs, ex, ey, hT, hne, h2, hk, hz, q⟩
  subst ex ey
  cases rx
  obtain ⟨t, rfl⟩ := ry
  obtain ⟨its, rv, ⟨⟨cls, dd, data, sl⟩, ho, hc, n, hd⟩, hs⟩ := I.tuple hT
  simp only at hc hd
  subst hc hd
  have hle : its.length = xs.length := rv.length.symm
  have hi : its.toArray.isEmpty = false := by
    cases its with
    | nil => exact absurd (List.eq_nil_of_length_eq_zero hle.symm) hne
    | cons a b => rfl
  have hsz : its.toArray.size = xs.length := by rw [List.size_toArray, hle]
  have hm : ((xs.length : Nat) : Int) * k ≤ 1000 * 1000 := Int.le_trans (Int.mul_le_mul_of_nonneg_right (show ((xs.length : Nat) : Int) ≤ 1000 by omega) (by omega)) (by omega)
  have flen : k.toNat * xs.length ≤ sizeLine := by
    rw [sizeLine_eq]
    exact Nat.le_trans (Nat.mul_le_mul (show k.toNat ≤ 1000 by omega) hz) (by decide)
  refine wpAny_binaryOp_repeat_ref (T := "tuple") (U := "int") (by decide) ⟨_, ho, rfl⟩ (fun s' => typeIs_int s' k t) noFill_tuple_mul F.fills_int_mul F.slot_int_rmul repeat_tuple F.slot_int_index.lookup
    (call_meets F.slot_int_rmul (typeIs_int s k t) F.entry_int_rmul (F.args_int_rmul_2 _ _) (int_rmul_tuple k t l its.toArray n dd sl)
      ⟨ho, rfl, ⟨_, ho, rfl⟩, call_meets F.slot_tuple_mul ⟨_, ho, rfl⟩ F.entry_tuple_mul (F.args_tuple_mul_2 _ _) (tuple_mulW l its.toArray n dd sl k t ?_ ?_ ?_ ?_ ?_ ?_) ⟨ho, ?_⟩⟩)
  · rw [decide_eq_false (by omega), decide_eq_false (by omega)] <;> rfl
  · rw [hi, Bool.false_or]
    exact beq_eq_false_iff_ne.mpr (by omega)
  · rw [hi, Bool.or_false]
    exact decide_eq_false (by omega)
  · rw [hsz]
    omega
  · unfold Builtin.Tuple.tupleTooMany
    rw [sizeLine_eq, hsz]
    exact decide_eq_false (by omega)
  · rw [size_rep, List.size_toArray, PyProof.Rows.lm_len_rep_flat, hle]
    exact flen
  · rw [size_rep]
    exact newT_of I (rv.rep k.toNat) (by rw [PyProof.Rows.lm_len_rep_flat]; exact flen) q
theorem Ds.rep {K : PySem.W.Frag} {G : Hp} {vs : List V} {as : List PyData} (h : Ds K G vs as) : ∀ n : Nat, Ds K G (List.replicate n vs).flatten (List.replicate n as).flatten
  | 0 => .nil
  | n + 1 => by
    rw [List.replicate_succ, List.replicate_succ, List.flatten_cons, List.flatten_cons]
    exact h.app (Ds.rep h n)
theorem em_timesZ {as : List PyData} {k : Int} (h0 : 2 ≤ k) (h1 : k ≤ 1000) (hne : as ≠ []) (hl : as.length ≤ 1000) (ha : Em X W ds a (· = .tuple as)) (hb : Em X W ds b (· = .int k)) : Em X W ds (.BinOp a .Mult b pos) (· = .tuple (List.replicate k.toNat as).flatten) := em_of (pe_op op_timesZ pe_u pe_u) (em_op2 ha hb fun G H u v dx dy ok hx hy px py Q q => by
  subst px
  subst py
  cases hy
  cases hx with
  | @tup _ us _ hq d1 =>
    have hus : us ≠ [] := fun z => by
      subst z
      cases d1
      exact hne rfl
    refine ⟨_, k, us, rfl, rfl, hq.sq (W.sub ok), hus, h0, h1, by rw [d1.len]; exact hl, fun p ob hp hob => ?_⟩
    have st := Stp.new (o := .frz ob (.tup (List.replicate k.toNat us).flatten)) (W.sub ok) hp
    exact q _ _ _ _ (W.step ok st) (.tup (.new hob) (dmonoAll st.g _ _ (d1.rep _))) rfl)
theorem em_timesL {as : List PyData} {k : Int} (h0 : -1000 ≤ k) (h1 : k ≤ 1000) (hl : as.length ≤ 1000) (ha : Em X W ds a (· = .list as)) (hb : Em X W ds b (· = .int k)) : Em X W ds (.BinOp a .Mult b pos) (· = .list (List.replicate k.toNat as).flatten) := em_of (pe_op op_rep pe_u pe_u) (em_op2 ha hb fun G H u v dx dy ok hx hy px py Q q => by
  subst px
  subst py
  cases hy
  cases hx with
  | @lst _ us _ hq d1 =>
    refine ⟨_, k, us, rfl, rfl, W.sub ok _ _ hq, by omega, by omega, ?_, fun p hp => ?_⟩
    · rw [d1.len, sizeLine_eq]
      exact Nat.le_trans (Nat.mul_le_mul hl (show k.toNat ≤ 1000 by omega)) (by decide)
    · have st := Stp.new (o := .lst (List.replicate k.toNat us).flatten) (W.sub ok) hp
      exact q _ _ _ _ (W.step ok st) (.lst upd_same (dmonoAll st.g _ _ (d1.rep _))) rfl)
/-- a, b = list of two -/
theorem bm_unl2 (i j : Nat) {x y : Str} {n : Nat} {u v : PyData} (he : Em X W ds e (· = .list [u, v])) (k : Bm X W G0 H0 ((ds.set i (.dat u)).set j (.dat v)) rest N B C r) (hc : X.calm = true) (hN : X.N.Nodup) (hi : X.N[i]? = some x := by rfl) (hj : X.N[j]? = some y := by rfl) (hx : Loc X.env.scope x := by first | exact Or.inl rfl | exact Or.inr rfl) (hy : Loc X.env.scope y := by first | exact Or.inl rfl | exact Or.inr rfl)
    (hfx : X.fn x = true ∨ X.env.scope.names.lookup x = some .local := by first | exact .inl rfl | exact .inr rfl) (hfy : X.fn y = true ∨ X.env.scope.names.lookup y = some .local := by first | exact .inl rfl | exact .inr rfl)
    (ht : PGs X [.Name x p2, .Name y p3] (gCons (gName i) (gCons (gName j) gNil)) → PS X (.Assign [.Tuple [.Name x p2, .Name y p3] n p4] e pos) (tAsg (uE X e) (gUnl X.K 2 (gCons (gName i) (gCons (gName j) gNil)))))
    (hs1 : (assignEach [.Name x p2, .Name y p3] X.env).map (·.2) = assign (.Name x p2) X.env :: (assignEach [.Name y p3] X.env).map (·.2) := by rfl) (hs2 : (assignEach [.Name y p3] X.env).map (·.2) = assign (.Name y p3) X.env :: (assignEach [] X.env).map (·.2) := by rfl) :
    Bm X W G0 H0 ds (.Assign [.Tuple [.Name x p2, .Name y p3] n p4] e pos :: rest) N B C r :=
  bm_st (N1 := fun ds' => ds' = (ds.set i (.dat u)).set j (.dat v)) (ht (pgs_cons (pg_name hN hi hx hfx) (pgs_cons (pg_name hN hj hy hfy) pgs_nil hs2) hs1)) (fun Gb σ G H D s env n b c q => he σ G H s.ok env _ fun w d G2 H2 r2 hd p => by
    subst p
    cases hd with
    | @lst ad us _ hq hd =>
      cases hd with
      | cons h1 hd => cases hd with
        | cons h2 hd => cases hd with
          | nil =>
            rename_i v1 v2
            exact ⟨ad, [v1, v2], rfl, .inl (.inl (W.sub (W.oks r2) _ _ hq)), rfl, v1, [v2], rfl, v2, [], rfl, rfl, n _ _ G2 H2 (s.to r2) (((env.mono r2).set i (.dat h1)).set j (.dat h2)) rfl⟩) fun ds' e => by
    subst e
    exact k
/-- names of defs -/
def Gm (X : Cx) (W : Wr) (ds : List Sl) (es : List Expr) (fs : List Addr) : Prop := ∀ σ G H, W.ok G H → EnvOk X.K W G H ds σ → ∀ Q : List V → Hp → Prop, Q (fs.map V.ref) H → uA X es σ H Q
theorem gm_nil : Gm X W ds [] [] := fun σ G H ok env Q q => ⟨_, pa_nil, q⟩
theorem gm_cons {f : Addr} {fs : List Addr} (h : Rf X W ds e f) (t : Gm X W ds es fs) (hs : starEach (e :: es) X.env = (false, eval e X.env) :: starEach es X.env := by rfl) : Gm X W ds (e :: es) (f :: fs) := fun σ G H ok env Q q => ⟨_, pa_cons pe_u pa_u hs, h σ G H ok env _ (t σ G H ok env _ q)⟩
theorem bm_forF {N1 : NX} (i : Nat) {x : Str} {fs : List Addr} {nn : Nat} (hl : fs.length ≤ 1000) (ha : Gm X W ds es fs) (I : List Sl → Prop) (h0 : I ds) (hp : PassesOwn (model X.prog X.w) X.A X.env X.xe) (hc : X.calm = true)
    (hs : ∀ f ds', f ∈ fs → I ds' → Bm X W G0 H0 (ds'.set i (.raw (.ref f))) body I N1 I r) (hd : ∀ ds', I ds' → N1 ds') (k : ∀ ds', N1 ds' → Bm X W G0 H0 ds' rest N B C r) (hN : X.N.Nodup) (hi : X.N[i]? = some x := by rfl) (hx : Loc X.env.scope x := by first | exact Or.inl rfl | exact Or.inr rfl)
    (hf : X.fn x = true ∨ X.env.scope.names.lookup x = some .local := by first | exact .inl rfl | exact .inr rfl) (hs' : ∀ x, foldedSetIterable (.Tuple es nn p3) X.env x = pure x := by intro _; rfl) : Bm X W G0 H0 ds (.For (.Name x p2) (.Tuple es nn p3) body [] pos :: rest) N B C r :=
  bm_st (ps_for hp hc (pi_tup (pe_tupZ pa_u)) (pg_name (i := i) hN hi hx hf) pss_u hs') (fun Gb σ G H D s env n b cc q => ha σ G H s.ok env _ ⟨Nat.le_of_lt (small1000 (by rw [List.length_map]; exact hl)), fun ad ob hn hob => by
    have st := Stp.new (o := .frz ob (.tup (fs.map V.ref))) (W.sub s.ok) hn
    have r1 := W.step s.ok st
    have hq : upd G ad (.frz ob (.tup (fs.map V.ref))) ad = some (.frz ob (.tup (fs.map V.ref))) := upd_same
    refine ⟨ad, rfl, ⟨fs.map V.ref, .inl (.inr ⟨ob, upd_same⟩)⟩, for_tup (K := X.K) (xs := fs.map V.ref) (fun _ σ' H' => ∃ ds' G', At W (upd G ad (.frz ob (.tup (fs.map V.ref)))) G0 H0 G' H' ∧ EnvOk X.K W G' H' ds' σ' ∧ I ds') ⟨ds, _, ⟨.refl _, (s.to r1).r⟩, env.mono r1, h0⟩ ?_ ?_ ?_⟩
    · rintro m σ' H' _ ⟨ds', G', s', _, _⟩
      exact .inl (.inr ⟨ob, W.sub s'.ok _ _ (s'.b _ _ hq)⟩)
    · rintro m y σ' H' hm ⟨ds', G', s', env', hI⟩
      rw [List.getElem?_map] at hm
      cases e : fs[m]? with
      | none =>
        rw [e] at hm
        cases hm
      | some f =>
        rw [e] at hm
        cases hm
        exact hs f ds' (List.mem_of_getElem? e) hI _ _ G' H' _ s' (env'.set i rfl) (fun ds2 σ2 G3 H3 s3 e3 p => ⟨ds2, G3, s3, e3, p⟩) (fun ds2 σ2 G3 H3 s3 e3 p => n ds2 σ2 G3 H3 ⟨(s.to r1).b.trans s3.b, s3.r⟩ e3 p) (fun ds2 σ2 G3 H3 s3 e3 p => ⟨ds2, G3, s3, e3, p⟩) q
    · rintro σ' H' ⟨ds', G', s', env', hI⟩
      exact n ds' σ' G' H' ⟨(s.to r1).b.trans s'.b, s'.r⟩ env' (hd ds' hI)⟩) k
end
theorem Sub.refl (W : Wr) : Sub W W := ⟨fun h => h, fun _ r => r, fun h => h, rfl⟩
theorem Cal.at {P : Program} {w : World} {K : PySem.W.Frag} {mg : Str → Option Value} {base : Heap} {k j : Nat} {f : Addr} {pre : List PyData → Prop} {o : Option Str} {as : List PyData} (c : Cal P w K mg base k f (fun _ => True) (spO pre o K)) (hk : k ≤ j) (h : pre as) : Cal P w K mg base j f (fun _ => True) (spO (· = as) o K) :=
  c.imp hk fun vs H Q E ⟨G, as', sm, hd, e, q⟩ => ⟨G, as', sm, hd, by rw [e]; exact h, q⟩
section
variable {P : Program} {w : World} {K : PySem.W.Frag} {mg : Str → Option Value} {base : Heap} {x qual : Str} {params : Arguments} {body : List Stmt} {scope : Scope} {f : Addr} {fd : FuncData} {ps N : List Str} {k j : Nat}
/-- what comes back, handed on -/
theorem fc_O {pre : List PyData → Prop} {sp : KSp} (F : FunD K x qual params body scope [] [] f fd) (hm : mg x = some (.ref f)) (h : FnO P w K mg base k f fd ps sp) (hi : ∀ vs H Q E, spO pre none K vs H Q E → sp K vs H Q E)
    (hb : ∀ (kV doc pm : Value) (an : Option Addr) (cdv ct : Value) (us : List Value), us.length = ps.length → bindArgs (PySem.W.fnOf x qual params body scope .none kV doc pm an cdv ct) ⟨us, []⟩ = pure (ps.zip us)) : Fc P w K mg base x k (spO pre none) := by
  refine ⟨f, hm, (cal_def h (F.bindsN hb) ?_ fun _ _ _ _ _ _ z => z.elim).imp (Nat.le_refl _) hi⟩
  obtain ⟨oc, od, dV, kV, doc, pm, an, cdv, ct, osl, e, lk, _⟩ := F.ex
  exact ⟨oc, od, osl, lk⟩
theorem spO_Q {α : Type} {enc : α → List PyData} {pre : α → Prop} {post : α → PyData → Prop} : ∀ vs H Q E, spO (fun as => ∃ v, as = enc v ∧ pre v) none K vs H Q E → spQ enc pre post K vs H Q E := fun vs H Q E ⟨G, as, sm, hd, ⟨v, e, hp⟩, q, _⟩ => ⟨G, v, sm, e ▸ hd, hp, fun u d G' H' st _ _ => q u G' H' rfl st⟩
theorem spO_P {pre : List PyData → Prop} {post : List PyData → PyData → Prop} : ∀ vs H Q E, spO pre none K vs H Q E → spP pre post K vs H Q E := fun vs H Q E ⟨G, as, sm, hd, hp, q, _⟩ => ⟨G, as, sm, hd, hp, fun u d G' H' st _ _ => q u G' H' rfl st⟩
theorem spO_L {pre : List PyData → Prop} {post : List PyData → List PyData → Prop} : ∀ vs H Q E, spO pre none K vs H Q E → spL pre post K vs H Q E := fun vs H Q E ⟨G, as, sm, hd, hp, q, _⟩ => ⟨G, as, sm, hd, hp, fun p us xs G' H' st _ _ _ _ _ => q (.ref p) G' H' rfl st⟩
/-- a def in the world of the table of another def -/
theorem fn_TO {α : Type} {p : He.Defn} {q : Str} {enc : α → List PyData} {pre : α → Prop} {post : α → PyData → Prop} (F : FunD K x qual params body scope [] [] f fd) (S : FnScope N ps scope) (hl : ∀ v, (enc v).length = ps.length)
    (hb : ∀ (cdv : Value) (A : Around) (outer : List Env) (s : Shared) (H : Hp) (E : XK) (G : Hp) (v : α), Room k (A.deeper (envOfC qual scope s.heap.objs.size f cdv)) → (tw (He.cT K p).2 q).ok G H → pre v →
      Bm (Cx0 P w K mg base N qual scope f cdv A outer s H E) (tw (He.cT K p).2 q) G H (sl0 N (enc v)) body (fun _ => post v .none) nono nono (rD K (post v))) : FnO P w K mg base (k + 1) f fd ps (spT p q enc pre post) := by
  refine F.ok S (fun vs H Q E ⟨G, v, sm, hd, p, _⟩ => by rw [hd.len]; exact hl v) fun cdv A outer s H vs Q E hr ⟨G, v, ok, hd, p, q⟩ => ?_
  obtain ⟨t, ht, h⟩ := hb cdv A outer s H E G v hr ok p G (start N vs) G H { nx := fun _ H' => Q .non H', rt := Q } ⟨.refl _, (tw _ _).refl ok⟩ (env0 hd) (fun ds' σ' G2 H2 s2 _ p2 => q .non .none G2 H2 s2.r .non p2) (fun _ _ _ _ _ _ z => z.elim) (fun _ _ _ _ _ _ z => z.elim) fun u G2 H2 s2 ⟨d, hd2, p2⟩ => q u d G2 H2 s2 hd2 p2
  exact ⟨t, ht.nox, h⟩
end
end Dn
namespace Dn
open PySem PySem.Spec PyProof.Rows L2
/-! ## tubs kept: more of their methods -/
/-- what of the text isinstance(.., Kept) needs -/
structure KTy (K : PySem.W.Frag) : Prop where
  ha : PySem.W.findIn K (.ref (kC K)) "__class__" = some (some (.builtin "object.__class__"))
  hn : PySem.W.specialIn K (.builtin "object.__class__") "__get__" = some (some (.builtin "getset_descriptor.__get__"))
  tk : PySem.W.takesIn K (.builtin "object.__class__") = some true
  hm : PySem.W.mroIn K (kC K) (.type "object") = some true
  kk : PySem.W.kitOne K (.ref (kC K)) (.ref (kC K)) = some true
  kt : PySem.W.kitOne K (.type "tuple") (.ref (kC K)) = some false
theorem ktyB_ok {K : PySem.W.Frag} (h : ktyB K = true) : KTy K := by
  unfold ktyB at h
  obtain ⟨h1, h⟩ := He.ba h
  obtain ⟨h2, h⟩ := He.ba h
  obtain ⟨h3, h⟩ := He.ba h
  obtain ⟨h4, h⟩ := He.ba h
  obtain ⟨h5, h6⟩ := He.ba h
  exact ⟨of_decide_eq_true h1, of_decide_eq_true h2, of_decide_eq_true h3, of_decide_eq_true h4, of_decide_eq_true h5, of_decide_eq_true h6⟩
theorem Ds.dropLast {K : PySem.W.Frag} {G : Hp} {vs : List V} {as : List PyData} (h : Ds K G vs as) : Ds K G vs.dropLast as.dropLast := by
  rw [List.dropLast_eq_take, List.dropLast_eq_take, h.len]
  exact h.take _
section
variable {X : Cx} {W : Wr} {G0 H0 : Hp} {ds : List Sl} {e a b c : Expr} {es : List Expr} {pos p2 p3 p4 p5 p6 p7 p8 : Pos} {P : PyData → Prop} {d : PyData} {N B C : NX} {r : RT} {rest body orelse : List Stmt} {st : Stmt} {q q' : Kq} {pt pt' : PyData} {ms ss ms1 ss1 : List PyData}
/-- x.m() -/
theorem bm_methN (i : Nat) {x m : Str} {k : Nat} {ps : List Str} {pre : KPre} {post : KPost} {pl : Sem Bool} (T : KCl X.K) (hq : q.C = kC X.K) (hi : ds[i]? = some (.kep q pt ms ss)) (F : Mk1 X.prog X.w X.K X.mg X.base m k ps (spM pre post)) (hr : Room k X.A) (hp : pre pt ms ss [])
    (h0m : H0 q.lm = none) (h0s : H0 q.ls = none) (hn : ∀ (j : Nat) s, j ≠ i → ds[j]? = some s → ∀ a ∈ s.foot, a ≠ q.lm ∧ a ≠ q.ls) (hm : ¬ m = "parts" ∧ ¬ m = "made" ∧ ¬ m = "shares") (kk : ∀ ms' ss' d, post pt ms ss [] ms' ss' d → Bm X W G0 H0 (ds.set i (.kep q pt ms' ss')) rest N B C r) (hN : X.N[i]? = some x := by rfl)
    (hv : Vis X.env.scope x := by first | exact Or.inl rfl | exact Or.inr (Or.inl rfl) | exact Or.inr (Or.inr rfl)) (hd : (x == ("__debug__" : Str)) = false := by decide) (hcd : (x == ("__classdict__" : Str)) = false := by decide)
    (hs : swapsWith (.Call (.Attribute (.Name x p2) m p3) [] [] p4) none pos.line X.env = pure false := by rfl)
    (ht : eval (.Call (.Attribute (.Name x p2) m p3) [] [] p4) X.env = (do
      let ov ← eval (.Name x p2) X.env
      standAt p3.atName
      let (f, first) ← holding [ov] (getMethod ov m pl)
      callWith p4 f first (backTo p4 (starEach [] X.env)) (backToKw p4 (keywordEach [] X.env))) := by rfl) :
    Bm X W G0 H0 ds (.Expr (.Call (.Attribute (.Name x p2) m p3) [] [] p4) pos :: rest) N B C r := by
  obtain ⟨f, fd, Gf, hM, hb⟩ := F.ex
  refine bm_st (N1 := fun ds' => ∃ ms' ss' d, post pt ms ss [] ms' ss' d ∧ ds' = ds.set i (.kep q pt ms' ss')) (ps_expr (pe_meth0 (C := kC X.K) (pl := pl) (pv i hN hv hd hcd) T.cl hM Gf hr hb .nil pass0 ht) hs) (fun Gb σ G H D s env n b c k => ?_) fun ds' ⟨ms', ss', d, h2, e⟩ => by
    rw [e]
    exact kk ms' ss' d h2
  obtain ⟨z, e1, e2, _, h⟩ := env.at hi
  obtain ⟨vp, us, vs, h1, h2, h3, h4, h5, h6, h7⟩ := h.ex
  refine ⟨.ref q.o, by rw [e1, e2], q.o, q.dx, _, rfl, by rw [h1, hq], kfs_no q vp hm.1 hm.2.1 hm.2.2, G, q, pt, ms, ss, [], [], rfl, hq, W.sub s.ok, h.cast, .nil, hp, fun v d ms' ss' G2 H2 st hk hd hpo => ?_⟩
  obtain ⟨A2, E2⟩ := kstep (X := X) s env hi h0m h0s hn st hk
  exact n _ _ G2 H2 A2 E2 ⟨ms', ss', d, hpo, rfl⟩
/-! ### x.shares.pop(), x.made.pop() -/
theorem last_ne {α : Type} {xs : List α} (h : xs ≠ []) : ∃ y, xs[xs.length - 1]? = some y := by
  have : xs.length ≠ 0 := fun z => h (List.eq_nil_of_length_eq_zero z)
  exact ⟨_, List.getElem?_eq_getElem (by omega)⟩
theorem bm_kpopS (i : Nat) {x : Str} (T : KCl X.K) (hq : q.C = kC X.K) (hi : ds[i]? = some (.kep q pt ms ss)) (h0 : H0 q.ls = none) (hz : ss ≠ []) (hn : ∀ (j : Nat) s, j ≠ i → ds[j]? = some s → ∀ a ∈ s.foot, a ≠ q.lm ∧ a ≠ q.ls) (k : Bm X W G0 H0 (ds.set i (.kep q pt ms ss.dropLast)) rest N B C r)
    (ht : PS X (.Expr (.Call (.Attribute (.Attribute (.Name x p2) "shares" p5) "pop" p3) [] [] p4) pos) (tDrop (tBM0 X.K "list" rPop (tFld X.K (tVar i) "shares")))) : Bm X W G0 H0 ds (.Expr (.Call (.Attribute (.Attribute (.Name x p2) "shares" p5) "pop" p3) [] [] p4) pos :: rest) N B C r :=
  bm_st (N1 := fun ds' => ds' = ds.set i (.kep q pt ms ss.dropLast)) ht (fun Gb σ G H D s env n b c kk => by
    obtain ⟨z, e1, e2, _, h⟩ := env.at hi
    obtain ⟨vp, us, vs, h1, h2, h3, h4, h5, h6, h7⟩ := h.ex
    have hvs : vs ≠ [] := fun z => by subst z; cases h7; exact hz rfl
    obtain ⟨y, hy⟩ := last_ne hvs
    refine ⟨.ref q.o, by rw [e1, e2], q.o, _, q.dx, _, _, rfl, h1, hq ▸ T.cl, hq ▸ T.nS, kfs_shares q vp, .inl ⟨rfl, vs, .inl (.inl h4)⟩, q.ls, vs, y, rfl, rfl, h4, hy, ?_⟩
    have R := s.chg (o' := .lst vs.dropLast) h.ts h0 h.gs h4
    have nod : q.o ≠ q.ls := ne_of h1 h4 (fun z => by cases z)
    have ndd : q.dx ≠ q.ls := ne_of h2 h4 (fun z => by cases z)
    exact n _ _ G _ R (env.kcall hi hn (fun a _ n2 => upd_ne n2) (W.refl R.ok) ⟨h.go, h.gd, h.gm, h.gs, h.to, h.td, h.tm, h.ts, h.ne, vp, us, vs.dropLast, by rw [upd_ne nod]; exact h1, by rw [upd_ne ndd]; exact h2, by rw [upd_ne h.ne]; exact h3, upd_same, h5, h6, h7.dropLast⟩) rfl) fun ds' e => by
    rw [e]
    exact k
theorem bm_kpopM (i : Nat) {x : Str} (T : KCl X.K) (hq : q.C = kC X.K) (hi : ds[i]? = some (.kep q pt ms ss)) (h0 : H0 q.lm = none) (hz : ms ≠ []) (hn : ∀ (j : Nat) s, j ≠ i → ds[j]? = some s → ∀ a ∈ s.foot, a ≠ q.lm ∧ a ≠ q.ls) (k : Bm X W G0 H0 (ds.set i (.kep q pt ms.dropLast ss)) rest N B C r)
    (ht : PS X (.Expr (.Call (.Attribute (.Attribute (.Name x p2) "made" p5) "pop" p3) [] [] p4) pos) (tDrop (tBM0 X.K "list" rPop (tFld X.K (tVar i) "made")))) : Bm X W G0 H0 ds (.Expr (.Call (.Attribute (.Attribute (.Name x p2) "made" p5) "pop" p3) [] [] p4) pos :: rest) N B C r :=
  bm_st (N1 := fun ds' => ds' = ds.set i (.kep q pt ms.dropLast ss)) ht (fun Gb σ G H D s env n b c kk => by
    obtain ⟨z, e1, e2, _, h⟩ := env.at hi
    obtain ⟨vp, us, vs, h1, h2, h3, h4, h5, h6, h7⟩ := h.ex
    have hus : us ≠ [] := fun z => by subst z; cases h6; exact hz rfl
    obtain ⟨y, hy⟩ := last_ne hus
    refine ⟨.ref q.o, by rw [e1, e2], q.o, _, q.dx, _, _, rfl, h1, hq ▸ T.cl, hq ▸ T.nM, kfs_made q vp, .inl ⟨rfl, us, .inl (.inl h3)⟩, q.lm, us, y, rfl, rfl, h3, hy, ?_⟩
    have R := s.chg (o' := .lst us.dropLast) h.tm h0 h.gm h3
    have nod : q.o ≠ q.lm := ne_of h1 h3 (fun z => by cases z)
    have ndd : q.dx ≠ q.lm := ne_of h2 h3 (fun z => by cases z)
    exact n _ _ G _ R (env.kcall hi hn (fun a n1 _ => upd_ne n1) (W.refl R.ok) ⟨h.go, h.gd, h.gm, h.gs, h.to, h.td, h.tm, h.ts, h.ne, vp, us.dropLast, vs, by rw [upd_ne nod]; exact h1, by rw [upd_ne ndd]; exact h2, upd_same, by rw [upd_ne h.ne.symm]; exact h4, h5, h6.dropLast, h7⟩) rfl) fun ds' e => by
    rw [e]
    exact k
/-- tuple(x.made) -/
theorem em_ktup (n : Nat) {x : Str} (T : KCl X.K) (hq : q.C = kC X.K) (hn : ds[n]? = some (.kep q pt ms ss)) (hm : X.mg "tuple" = none) (hN : X.N[n]? = some x := by rfl) (hv : Vis X.env.scope x := by first | exact Or.inl rfl | exact Or.inr (Or.inl rfl) | exact Or.inr (Or.inr rfl)) (hd : (x == ("__debug__" : Str)) = false := by decide) (hcd : (x == ("__classdict__" : Str)) = false := by decide)
    (hb : attributeBase (.Name x p2) "made" X.env (eval (.Name x p2) X.env) = eval (.Name x p2) X.env := by rfl)
    (hg : Gl X "tuple" := by rfl) (hs : starEach [.Attribute (.Name x p2) "made" p3] X.env = (false, eval (.Attribute (.Name x p2) "made" p3) X.env) :: starEach [] X.env := by rfl) (hpl : (backTo pos (starEach [] X.env)).any (·.1) = false := by rfl) : Em X W ds (.Call (.Name "tuple" p4) [.Attribute (.Name x p2) "made" p3] [] pos) (· = .tuple ms) :=
  em_of (pe_callTy call_tupleZ hg hm (by decide +kernel) (pa_cons (pe_fld (pv n hN hv hd hcd) hb) pa_nil hs) (he := hs) (hpl := hpl)) fun σ G H ok env Q k => by
    obtain ⟨z, e1, e2, _, h⟩ := env.at hn
    obtain ⟨vp, us, vs, h1, h2, h3, h4, h5, h6, h7⟩ := h.ex
    refine ⟨.ref q.o, by rw [e1, e2], q.o, _, q.dx, _, _, rfl, h1, hq ▸ T.cl, hq ▸ T.nM, kfs_made q vp, q.lm, us, rfl, .inl (.inl h3), fun p ob hp hob => ?_⟩
    have st := Stp.new (o := .frz ob (.tup us)) (W.sub ok) hp
    exact k _ _ _ _ (W.step ok st) (.tup (.new hob) (dmonoAll st.g _ _ h6)) rfl
/-! ### x.shares == y.shares, x.made == y.made -/
theorem em_kshEq (n m : Nat) {x y : Str} {k : Nat} (hr : Room k X.A) (T : KCl X.K) (hq : q.C = kC X.K) (hq' : q'.C = kC X.K) (hn : ds[n]? = some (.kep q pt ms ss)) (hm : ds[m]? = some (.kep q' pt' ms1 ss1)) (s : SeqAt.shaped (.list ss) = true) (s' : SeqAt.shaped (.list ss1) = true)
    (hN : X.N[n]? = some x := by rfl) (hM : X.N[m]? = some y := by rfl) (hv : Vis X.env.scope x := by first | exact Or.inl rfl | exact Or.inr (Or.inl rfl) | exact Or.inr (Or.inr rfl)) (hv' : Vis X.env.scope y := by first | exact Or.inl rfl | exact Or.inr (Or.inl rfl) | exact Or.inr (Or.inr rfl)) (hd : (x == ("__debug__" : Str)) = false := by decide) (hcd : (x == ("__classdict__" : Str)) = false := by decide) (hd' : (y == ("__debug__" : Str)) = false := by decide) (hcd' : (y == ("__classdict__" : Str)) = false := by decide)
    (hb : attributeBase (.Name x p2) "shares" X.env (eval (.Name x p2) X.env) = eval (.Name x p2) X.env := by rfl) (hb' : attributeBase (.Name y p4) "shares" X.env (eval (.Name y p4) X.env) = eval (.Name y p4) X.env := by rfl) :
    Em X W ds (.Compare (.Attribute (.Name x p2) "shares" p3) [.Eq] [.Attribute (.Name y p4) "shares" p5] pos) (· = .bool (PyData.eqv (.list ss) (.list ss1))) := em_of (pe_cmpR (op_eqD hr.units) (pe_fld (pv n hN hv hd hcd) hb) (pe_fld (pv m hM hv' hd' hcd') hb') (nomark _)) fun σ G H ok env Q k => by
  obtain ⟨z, e1, e2, _, h⟩ := env.at hn
  obtain ⟨vp, us, vs, h1, h2, h3, h4, h5, h6, h7⟩ := h.ex
  obtain ⟨z', f1, f2, _, g⟩ := env.at hm
  obtain ⟨vp', us', vs', g1, g2, g3, g4, g5, g6, g7⟩ := g.ex
  have sub := W.sub ok
  exact ⟨.ref q.o, by rw [e1, e2], q.o, _, q.dx, _, _, rfl, h1, hq ▸ T.cl, hq ▸ T.nS, kfs_shares q vp, .ref q'.o, by rw [f1, f2], q'.o, _, q'.dx, _, _, rfl, g1, hq' ▸ T.cl, hq' ▸ T.nS, kfs_shares q' vp',
    _, _, ddp _ _ (.lst h4 (dmonoAll sub _ _ h7)), ddp _ _ (.lst g4 (dmonoAll sub _ _ g7)), s, s', k _ _ G H (W.refl ok) (.bl _) rfl⟩
theorem em_kmdEq (n m : Nat) {x y : Str} {k : Nat} (hr : Room k X.A) (T : KCl X.K) (hq : q.C = kC X.K) (hq' : q'.C = kC X.K) (hn : ds[n]? = some (.kep q pt ms ss)) (hm : ds[m]? = some (.kep q' pt' ms1 ss1)) (s : SeqAt.shaped (.list ms) = true) (s' : SeqAt.shaped (.list ms1) = true)
    (hN : X.N[n]? = some x := by rfl) (hM : X.N[m]? = some y := by rfl) (hv : Vis X.env.scope x := by first | exact Or.inl rfl | exact Or.inr (Or.inl rfl) | exact Or.inr (Or.inr rfl)) (hv' : Vis X.env.scope y := by first | exact Or.inl rfl | exact Or.inr (Or.inl rfl) | exact Or.inr (Or.inr rfl)) (hd : (x == ("__debug__" : Str)) = false := by decide) (hcd : (x == ("__classdict__" : Str)) = false := by decide) (hd' : (y == ("__debug__" : Str)) = false := by decide) (hcd' : (y == ("__classdict__" : Str)) = false := by decide)
    (hb : attributeBase (.Name x p2) "made" X.env (eval (.Name x p2) X.env) = eval (.Name x p2) X.env := by rfl) (hb' : attributeBase (.Name y p4) "made" X.env (eval (.Name y p4) X.env) = eval (.Name y p4) X.env := by rfl) :
    Em X W ds (.Compare (.Attribute (.Name x p2) "made" p3) [.Eq] [.Attribute (.Name y p4) "made" p5] pos) (· = .bool (PyData.eqv (.list ms) (.list ms1))) := em_of (pe_cmpR (op_eqD hr.units) (pe_fld (pv n hN hv hd hcd) hb) (pe_fld (pv m hM hv' hd' hcd') hb') (nomark _)) fun σ G H ok env Q k => by
  obtain ⟨z, e1, e2, _, h⟩ := env.at hn
  obtain ⟨vp, us, vs, h1, h2, h3, h4, h5, h6, h7⟩ := h.ex
  obtain ⟨z', f1, f2, _, g⟩ := env.at hm
  obtain ⟨vp', us', vs', g1, g2, g3, g4, g5, g6, g7⟩ := g.ex
  have sub := W.sub ok
  exact ⟨.ref q.o, by rw [e1, e2], q.o, _, q.dx, _, _, rfl, h1, hq ▸ T.cl, hq ▸ T.nM, kfs_made q vp, .ref q'.o, by rw [f1, f2], q'.o, _, q'.dx, _, _, rfl, g1, hq' ▸ T.cl, hq' ▸ T.nM, kfs_made q' vp',
    _, _, ddp _ _ (.lst h3 (dmonoAll sub _ _ h6)), ddp _ _ (.lst g3 (dmonoAll sub _ _ g6)), s, s', k _ _ G H (W.refl ok) (.bl _) rfl⟩
/-! ### isinstance(y, Kept) -/
theorem em_isK (n : Nat) {x y : Str} (T : KCl X.K) (Y : KTy X.K) (hq : q.C = kC X.K) (hn : ds[n]? = some (.kep q pt ms ss)) (hm : X.mg "isinstance" = none) (hx : X.mg x = some (.ref (kC X.K)))
    (hN : X.N[n]? = some y := by rfl) (hv : Vis X.env.scope y := by first | exact Or.inl rfl | exact Or.inr (Or.inl rfl) | exact Or.inr (Or.inr rfl)) (hd : (y == ("__debug__" : Str)) = false := by decide) (hcd : (y == ("__classdict__" : Str)) = false := by decide)
    (hg : Gl X "isinstance" := by rfl) (hgT : Gl X x := by rfl) (hdx : (x == ("__debug__" : Str)) = false := by decide)
    (hs1 : starEach [.Name x p3] X.env = (false, eval (.Name x p3) X.env) :: starEach [] X.env := by rfl) (hs : starEach [.Name y p4, .Name x p3] X.env = (false, eval (.Name y p4) X.env) :: starEach [.Name x p3] X.env := by rfl) (hpl : (backTo pos (starEach [.Name x p3] X.env)).any (·.1) = false := by rfl) :
    Em X W ds (.Call (.Name "isinstance" p2) [.Name y p4, .Name x p3] [] pos) (· = .bool true) :=
  em_of (pe_callB call_isi hg hm (by decide +kernel) (pa_cons (pv n hN hv hd hcd) (pa_cons (pe_glob (v := .ref (kC X.K)) hgT hx rfl hdx) pa_nil hs1) hs) (he := hs) (hpl := hpl)) fun σ G H ok env Q k => by
    obtain ⟨z, e1, e2, _, h⟩ := env.at hn
    obtain ⟨vp, us, vs, h1, _⟩ := h.ex
    rw [hq] at h1
    exact ⟨.ref q.o, by rw [e1, e2], .ref q.o, .ref (kC X.K), _, _, true, rfl, .own _, .base (.ins h1 T.cl Y.ha Y.hn Y.tk Y.hm), Y.kk, k _ _ G H (W.refl ok) (.bl _) rfl⟩
theorem em_isKD {x : Str} {z : Bool} (ha : Em X W ds a (· = d)) (hm : X.mg "isinstance" = none) (hx : X.mg x = some (.ref (kC X.K))) (hk : PySem.W.kitOne X.K (.type (tyOf d)) (.ref (kC X.K)) = some z)
    (hg : Gl X "isinstance" := by rfl) (hgT : Gl X x := by rfl) (hdx : (x == ("__debug__" : Str)) = false := by decide)
    (hs1 : starEach [.Name x p3] X.env = (false, eval (.Name x p3) X.env) :: starEach [] X.env := by rfl) (hs : starEach [a, .Name x p3] X.env = (false, eval a X.env) :: starEach [.Name x p3] X.env := by rfl) (hpl : (backTo pos (starEach [.Name x p3] X.env)).any (·.1) = false := by rfl) :
    Em X W ds (.Call (.Name "isinstance" p2) [a, .Name x p3] [] pos) (· = .bool z) :=
  em_of (pe_callB call_isi hg hm (by decide +kernel) (pa_cons pe_u (pa_cons (pe_glob (v := .ref (kC X.K)) hgT hx rfl hdx) pa_nil hs1) hs) (he := hs) (hpl := hpl)) fun σ G H ok env Q q => ha σ G H ok env _ fun v d' G1 H1 r1 hd e => by
    subst e
    exact ⟨v, .ref (kC X.K), _, _, z, rfl, .own _, tyx (dmono (W.sub (W.oks r1)) _ _ hd), hk, q _ _ G1 H1 r1 (.bl _) rfl⟩
end
end Dn
namespace Dn
open PySem PySem.Spec PyProof.Rows L2
/-! ## tubs kept: their own == and len -/
def rKeq (K : PySem.W.Frag) (C : Addr) (sp : Sp) (E : XK) : R2 := fun x y H Q => ∃ a dx fs t, x = .ref a ∧ H a = some (.ins C dx fs) ∧ TyX K H y t ∧ PySem.W.notFirst K C t = true ∧ sp [x, y] H (fun v H' => ∃ b, v = .bl b ∧ Q v H') E
section
variable {X : Cx} {CX : CXT} {k : Nat} {C f : Addr} {fd : FuncData} {ps : List Str} {sp : Sp} {E : XK}
theorem op_kEq (F : FnOk X.prog X.w X.K X.mg X.base CX k f fd ps sp) (hr : Room k X.A) (M : Meth X.K C "__eq__" f) (hb : Binds X.K fd ps []) (hx : Passes CX X E) : OpR X (compareOp .Eq) (rKeq X.K C sp E) := by
  intro pins s σ H x y v u Q I rx ry ⟨a, dx, fs, t, ex, ha, ty, hn, h⟩
  subst ex
  cases rx
  obtain ⟨mA, J, _⟩ := ins_get I.hok ha
  obtain ⟨od, J, _⟩ := J.look
  obtain ⟨m, hF⟩ := I.fr
  obtain ⟨Pk, Z, p, _⟩ := kit_of I ry ty
  show wpAny (model X.prog X.w) X.A (richCompare .Eq (.ref a) u) (EP X pins σ Q) X.xe s
  refine PySem.W.cmp_K (op := .Eq) (tb := t) hr.units0 hF I.ok.mod.kin J (Z.ty _ _ I.kIn p) hn M.at_ M.fn ?_
  refine wpAny_mono (run_fn (us := [.ref a, u]) (vs := [.ref a, y]) (Q := fun v H' => ∃ b, v = .bl b ∧ Q v H') F hr hb .nil hx I (.cons rfl (.cons ry .nil)) (by simpa using h)) (fun r s' z => ?_) fun _ _ x => x
  obtain ⟨w, H', I', rv, b, ew, q⟩ := z
  subst ew
  cases rv
  exact ⟨.bl b, H', I', rfl, q⟩
def rKlen (C : Addr) (sp : Sp) (E : XK) : List V → Hp → VK → Prop := fun xs H Q => ∃ a dx fs, xs = [.ref a] ∧ H a = some (.ins C dx fs) ∧ sp [.ref a] H (fun v H' => ∃ n : Nat, v = .int n ∧ n < 2 ^ 62 ∧ Q v H') E
theorem call_kLen (F : FnOk X.prog X.w X.K X.mg X.base CX k f fd ps sp) (hr : Room (k + 1) X.A) (M : Meth X.K C "__len__" f) (hb : Binds X.K fd ps []) (hx : Passes CX X E) : CallR X (.builtin "len") (rKlen C sp E) := by
  intro pins s σ H xs us Q I r ⟨a, dx, fs, ex, ha, h⟩
  subst ex
  obtain ⟨u, rfl, rx⟩ := vals1 r
  cases rx
  obtain ⟨mA, J, _⟩ := ins_get I.hok ha
  obtain ⟨od, J, _⟩ := J.look
  obtain ⟨m, hF⟩ := I.fr
  refine PySem.W.len_K hF I.ok.mod.kin J M.at_ M.fn ?_
  have sb : L2.Sub X k X.A.in1 := L2.Sub.in1 ⟨hr, rfl⟩
  have e0 : Env0 X.prog X.w X.K X.mg X.base X.A.in1 X.stack s H := by
    have e := I.env0
    exact ⟨by rw [sb.fr]; exact e.frames, e.mod, e.bs, e.bsz, e.funs, e.frf, e.hok, e.bare⟩
  have hl := F.len _ _ _ _ h
  refine wpAny_call (codeAny_mono (F.run X.A.in1 X.stack s H ⟨[.ref a], []⟩ [.ref a] [.ref a] _ E sb.room e0 (by
    have := hb s [.ref a] I.kIn (by simpa using hl)
    simpa using this) (.cons rfl .nil) h) fun r s' hq => ?_)
  cases r with
  | error e => exact hx pins σ H s e s' I hq
  | ok fl =>
    cases fl with
    | ret w =>
      obtain ⟨z, H', I', rz, n, ez, hn, q⟩ := I.after hq
      subst ez
      obtain ⟨t, rfl⟩ := rz
      exact ⟨⟨by omega, by omega⟩, .int n, H', I'.tok _, ⟨_, rfl⟩, q⟩
    | next => exact False.elim hq
    | brk => exact False.elim hq
    | cont => exact False.elim hq
end
/-- of two tubs kept: whether all is alike -/
def spEqK : KSp := fun K vs H Q _ => ∃ G q q' pt ms ss pt' ms' ss', vs = [.ref q.o, .ref q'.o] ∧ q.C = kC K ∧ q'.C = kC K ∧ Same G H ∧ KqAt K pwk G H q pt ms ss ∧ KqAt K pwk G H q' pt' ms' ss' ∧ (SeqAt.shaped pt = true ∧ SeqAt.shaped pt' = true ∧ SeqAt.shaped (.list ms) = true ∧ SeqAt.shaped (.list ms') = true ∧ SeqAt.shaped (.list ss) = true ∧ SeqAt.shaped (.list ss') = true) ∧
  ∀ G' H', Stp G H G' H' → Q (.bl (PyData.eqv pt pt' && (PyData.eqv (.list ss) (.list ss') && PyData.eqv (.list ms) (.list ms')))) H'
/-- of tubs kept and a tuple: no -/
def spEqT : KSp := fun K vs H Q _ => ∃ G q pt ms ss v xs, vs = [.ref q.o, v] ∧ q.C = kC K ∧ Same G H ∧ KqAt K pwk G H q pt ms ss ∧ Dd K G v (.tuple xs) ∧ ∀ G' H', Stp G H G' H' → Q (.bl false) H'
structure KSh (pt : PyData) (ms ss : List PyData) : Prop where
  p : SeqAt.shaped pt = true
  m : SeqAt.shaped (.list ms) = true
  s : SeqAt.shaped (.list ss) = true
section
variable {X : Cx} {W : Wr} {G0 H0 : Hp} {ds : List Sl} {e a b c : Expr} {es : List Expr} {pos p2 p3 p4 p5 p6 p7 p8 : Pos} {P : PyData → Prop} {d : PyData} {N B C : NX} {r : RT} {rest body orelse : List Stmt} {st : Stmt} {q q' : Kq} {pt pt' : PyData} {ms ss ms1 ss1 : List PyData}
theorem nf_self {K : PySem.W.Frag} {C : Addr} : PySem.W.notFirst K C (.ref C) = true := by simp [PySem.W.notFirst]
/-- x == y -/
theorem em_keq (n m : Nat) {x y : Str} {k : Nat} {ps : List Str} (T : KCl X.K) (Y : KTy X.K) (F : Mk1 X.prog X.w X.K X.mg X.base "__eq__" k ps spEqK) (hr : Room k X.A) (hq : q.C = kC X.K) (hq' : q'.C = kC X.K) (hn : ds[n]? = some (.kep q pt ms ss)) (hm : ds[m]? = some (.kep q' pt' ms1 ss1)) (s : KSh pt ms ss) (s' : KSh pt' ms1 ss1)
    (hN : X.N[n]? = some x := by rfl) (hM : X.N[m]? = some y := by rfl) (hv : Vis X.env.scope x := by first | exact Or.inl rfl | exact Or.inr (Or.inl rfl) | exact Or.inr (Or.inr rfl)) (hv' : Vis X.env.scope y := by first | exact Or.inl rfl | exact Or.inr (Or.inl rfl) | exact Or.inr (Or.inr rfl)) (hd : (x == ("__debug__" : Str)) = false := by decide) (hcd : (x == ("__classdict__" : Str)) = false := by decide) (hd' : (y == ("__debug__" : Str)) = false := by decide) (hcd' : (y == ("__classdict__" : Str)) = false := by decide) :
    Em X W ds (.Compare (.Name x p2) [.Eq] [.Name y p3] pos) (· = .bool (PyData.eqv pt pt' && (PyData.eqv (.list ss) (.list ss1) && PyData.eqv (.list ms) (.list ms1)))) := by
  obtain ⟨f, fd, Gf, hM', hb⟩ := F.ex
  refine em_of (pe_cmpR (op_kEq (E := fun _ _ _ => False) Gf hr hM' hb pass0) (pv n hN hv hd hcd) (pv m hM hv' hd' hcd') (nomark _)) fun σ G H ok env Q k => ?_
  obtain ⟨z, e1, e2, _, h⟩ := env.at hn
  obtain ⟨vp, us, vs, h1, _⟩ := id h.ex
  obtain ⟨z', f1, f2, _, g⟩ := env.at hm
  obtain ⟨vp', us', vs', g1, _⟩ := id g.ex
  rw [hq] at h1
  rw [hq'] at g1
  exact ⟨.ref q.o, by rw [e1, e2], .ref q'.o, by rw [f1, f2], q.o, _, _, _, rfl, h1, .base (.ins g1 T.cl Y.ha Y.hn Y.tk Y.hm), nf_self, G, q, q', pt, ms, ss, pt', ms1, ss1, rfl, hq, hq', W.sub ok, h.cast, g.cast, ⟨s.p, s'.p, s.m, s'.m, s.s, s'.s⟩, fun G' H' st => ⟨_, rfl, k _ _ G' H' (W.step ok st) (.bl _) rfl⟩⟩
/-- x == a tuple -/
theorem em_keqT (n : Nat) {x : Str} {k : Nat} {ps : List Str} {xs : List PyData} (F : Mk1 X.prog X.w X.K X.mg X.base "__eq__" k ps spEqT) (hr : Room k X.A) (hq : q.C = kC X.K) (hnf : PySem.W.notFirst X.K (kC X.K) (.type "tuple") = true) (hn : ds[n]? = some (.kep q pt ms ss)) (ha : Em X W ds a (· = .tuple xs))
    (hN : X.N[n]? = some x := by rfl) (hv : Vis X.env.scope x := by first | exact Or.inl rfl | exact Or.inr (Or.inl rfl) | exact Or.inr (Or.inr rfl)) (hd : (x == ("__debug__" : Str)) = false := by decide) (hcd : (x == ("__classdict__" : Str)) = false := by decide) :
    Em X W ds (.Compare (.Name x p2) [.Eq] [a] pos) (· = .bool false) := by
  obtain ⟨f, fd, Gf, hM', hb⟩ := F.ex
  refine em_of (pe_cmpR (op_kEq (E := fun _ _ _ => False) Gf hr hM' hb pass0) (pv n hN hv hd hcd) pe_u (nomark _)) fun σ G H ok env Q k => ?_
  obtain ⟨z, e1, e2, _, h⟩ := env.at hn
  refine ⟨.ref q.o, by rw [e1, e2], ha σ G H ok env _ fun v d G1 H1 r1 hdv e => ?_⟩
  subst e
  have h' := h.mono r1
  obtain ⟨vp, us, vs, h1, _⟩ := id h'.ex
  rw [hq] at h1
  have sub := W.sub (W.oks r1)
  exact ⟨q.o, _, _, _, rfl, h1, tyx (dmono sub _ _ hdv), hnf, G1, q, pt, ms, ss, v, xs, rfl, hq, sub, h'.cast, hdv, fun G' H' st => ⟨_, rfl, k _ _ G' H' (W.trans r1 (W.step (W.oks r1) st)) (.bl _) rfl⟩⟩
/-- x == Kept(..) -/
theorem em_keqN (n : Nat) {x cx : Str} {k kI : Nat} {ps psI : List Str} {fI : Addr} {fdI : FuncData} {pre : PyData → PyData → Prop} {sh : PyData} (T : KCl X.K) (Y : KTy X.K) (F : Mk1 X.prog X.w X.K X.mg X.base "__eq__" k ps spEqK) (hr : Room k X.A) (M : Mk X.K (kC X.K) fI) (FI : FnOk X.prog X.w X.K X.mg X.base CX0 kI fI fdI psI (spI pre X.K)) (hbI : Binds X.K fdI psI []) (hrI : Room (kI + 1) X.A) (hmc : X.mg cx = some (.ref (kC X.K))) (hfl : W.fl = true)
    (hq : q.C = kC X.K) (hn : ds[n]? = some (.kep q pt ms ss)) (ha : Am X W ds (e :: es) (· = [pt', sh])) (hp : pre pt' sh) (s : KSh pt ms ss) (s' : KSh pt' [] [sh])
    (hN : X.N[n]? = some x := by rfl) (hv : Vis X.env.scope x := by first | exact Or.inl rfl | exact Or.inr (Or.inl rfl) | exact Or.inr (Or.inr rfl)) (hd : (x == ("__debug__" : Str)) = false := by decide) (hcd : (x == ("__classdict__" : Str)) = false := by decide)
    (hg : Gl X cx := by rfl) (hdb : (cx == ("__debug__" : Str)) = false := by decide) (he : starEach (e :: es) X.env = (false, eval e X.env) :: starEach es X.env := by rfl) (hpl : (backTo p4 (starEach es X.env)).any (·.1) = false := by rfl) :
    Em X W ds (.Compare (.Name x p2) [.Eq] [.Call (.Name cx p3) (e :: es) [] p4] pos) (· = .bool (PyData.eqv pt pt' && (PyData.eqv (.list ss) (.list [sh]) && PyData.eqv (.list ms) (.list [])))) := by
  obtain ⟨f, fd, Gf, hM', hb⟩ := F.ex
  refine em_of (pe_cmpR (op_kEq (E := fun _ _ _ => False) Gf hr hM' hb pass0) (pv n hN hv hd hcd) (pe_make M FI hrI hg hmc hbI .nil pass0 pa_u hdb he hpl) (nomark _)) fun σ G H ok env Q k => ?_
  obtain ⟨z, e1, e2, _, h⟩ := env.at hn
  refine ⟨.ref q.o, by rw [e1, e2], ha σ G H ok env _ fun vs as G1 H1 r1 hs p => fun x dx nx ndx ne => ?_⟩
  subst p
  rw [List.append_nil]
  have ok1 := W.oks r1
  have sub := W.sub ok1
  cases hs with
  | cons hvp hs => cases hs with
    | cons hvs hs =>
      cases hs
      rename_i vp vs'
      refine ⟨G1, x, dx, vp, vs', pt', sh, rfl, ?_, sub.free nx, sub.free ndx, upd_same, by rw [upd_ne ne, upd_same], hvp, hvs, hp, fun lm ls G2 H2 nlm nls sg si hh hk hK => ⟨rfl, ?_⟩⟩
      · exact same_upd2 (same_upd2 sub (sub.free ndx)) (sub.free nx)
      have off : ∀ b, upd (upd H1 dx (.own x)) x (.ins (kC X.K) dx []) b = none → H1 b = none := fun b hb => by
        by_cases e1 : b = x
        · rw [e1]; exact nx
        · by_cases e2 : b = dx
          · rw [e2]; exact ndx
          · rw [upd_ne e1, upd_ne e2] at hb
            exact hb
      have stp : Stp G1 H1 G2 H2 := ⟨sg, si, fun b o e => hh b o (ne_of_none e nx) (by rw [upd_ne (ne_of_none e nx), upd_ne (ne_of_none e ndx)]; exact e), fun b hb gb => hk b (fun z => hb (off b z)) gb⟩
      have r2 := W.step ok1 stp
      have h' := (h.mono r1).mono r2
      obtain ⟨vp1, us1, vs1, h1, _⟩ := id h'.ex
      obtain ⟨vp2, us2, vs2, g1, _⟩ := id hK.ex
      rw [hq] at h1
      exact ⟨q.o, _, _, _, rfl, h1, .base (.ins g1 T.cl Y.ha Y.hn Y.tk Y.hm), nf_self, G2, q, ⟨kC X.K, x, dx, lm, ls⟩, pt, ms, ss, pt', [], [sh], rfl, hq, rfl, W.sub (W.oks r2), h'.cast, hK, ⟨s.p, s'.p, s.m, s'.m, s.s, s'.s⟩, fun G' H' st => ⟨_, rfl, k _ _ G' H' (W.trans r1 (W.trans r2 (W.step (W.oks r2) st))) (.bl _) rfl⟩⟩
/-! the same as tests -/
theorem tm_keq (n m : Nat) {x y : Str} {k : Nat} {ps : List Str} (T : KCl X.K) (Y : KTy X.K) (F : Mk1 X.prog X.w X.K X.mg X.base "__eq__" k ps spEqK) (hr : Room k X.A) (hq : q.C = kC X.K) (hq' : q'.C = kC X.K) (hn : ds[n]? = some (.kep q pt ms ss)) (hm : ds[m]? = some (.kep q' pt' ms1 ss1)) (s : KSh pt ms ss) (s' : KSh pt' ms1 ss1)
    (hN : X.N[n]? = some x := by rfl) (hM : X.N[m]? = some y := by rfl) (hv : Vis X.env.scope x := by first | exact Or.inl rfl | exact Or.inr (Or.inl rfl) | exact Or.inr (Or.inr rfl)) (hv' : Vis X.env.scope y := by first | exact Or.inl rfl | exact Or.inr (Or.inl rfl) | exact Or.inr (Or.inr rfl)) (hd : (x == ("__debug__" : Str)) = false := by decide) (hcd : (x == ("__classdict__" : Str)) = false := by decide) (hd' : (y == ("__debug__" : Str)) = false := by decide) (hcd' : (y == ("__classdict__" : Str)) = false := by decide) :
    Tm X W ds (.Compare (.Name x p2) [.Eq] [.Name y p3] pos) (· = (PyData.eqv pt pt' && (PyData.eqv (.list ss) (.list ss1) && PyData.eqv (.list ms) (.list ms1)))) := by
  obtain ⟨f, fd, Gf, hM', hb⟩ := F.ex
  refine tm_of (pt_cmpR (op_kEq (E := fun _ _ _ => False) Gf hr hM' hb pass0) (pv n hN hv hd hcd) (pv m hM hv' hd' hcd') (nomark _)) fun σ G H ok env Q k => ?_
  obtain ⟨z, e1, e2, _, h⟩ := env.at hn
  obtain ⟨vp, us, vs, h1, _⟩ := id h.ex
  obtain ⟨z', f1, f2, _, g⟩ := env.at hm
  obtain ⟨vp', us', vs', g1, _⟩ := id g.ex
  rw [hq] at h1
  rw [hq'] at g1
  exact ⟨.ref q.o, by rw [e1, e2], .ref q'.o, by rw [f1, f2], q.o, _, _, _, rfl, h1, .base (.ins g1 T.cl Y.ha Y.hn Y.tk Y.hm), nf_self, G, q, q', pt, ms, ss, pt', ms1, ss1, rfl, hq, hq', W.sub ok, h.cast, g.cast, ⟨s.p, s'.p, s.m, s'.m, s.s, s'.s⟩, fun G' H' st => ⟨_, rfl, ⟨_, rfl, k _ G' H' (W.step ok st) rfl⟩⟩⟩
theorem tm_keqT (n : Nat) {x : Str} {k : Nat} {ps : List Str} {xs : List PyData} (F : Mk1 X.prog X.w X.K X.mg X.base "__eq__" k ps spEqT) (hr : Room k X.A) (hq : q.C = kC X.K) (hnf : PySem.W.notFirst X.K (kC X.K) (.type "tuple") = true) (hn : ds[n]? = some (.kep q pt ms ss)) (ha : Em X W ds a (· = .tuple xs))
    (hN : X.N[n]? = some x := by rfl) (hv : Vis X.env.scope x := by first | exact Or.inl rfl | exact Or.inr (Or.inl rfl) | exact Or.inr (Or.inr rfl)) (hd : (x == ("__debug__" : Str)) = false := by decide) (hcd : (x == ("__classdict__" : Str)) = false := by decide) :
    Tm X W ds (.Compare (.Name x p2) [.Eq] [a] pos) (· = false) := by
  obtain ⟨f, fd, Gf, hM', hb⟩ := F.ex
  refine tm_of (pt_cmpR (op_kEq (E := fun _ _ _ => False) Gf hr hM' hb pass0) (pv n hN hv hd hcd) pe_u (nomark _)) fun σ G H ok env Q k => ?_
  obtain ⟨z, e1, e2, _, h⟩ := env.at hn
  refine ⟨.ref q.o, by rw [e1, e2], ha σ G H ok env _ fun v d G1 H1 r1 hdv e => ?_⟩
  subst e
  have h' := h.mono r1
  obtain ⟨vp, us, vs, h1, _⟩ := id h'.ex
  rw [hq] at h1
  have sub := W.sub (W.oks r1)
  exact ⟨q.o, _, _, _, rfl, h1, tyx (dmono sub _ _ hdv), hnf, G1, q, pt, ms, ss, v, xs, rfl, hq, sub, h'.cast, hdv, fun G' H' st => ⟨_, rfl, ⟨_, rfl, k _ G' H' (W.trans r1 (W.step (W.oks r1) st)) rfl⟩⟩⟩
theorem tm_keqN (n : Nat) {x cx : Str} {k kI : Nat} {ps psI : List Str} {fI : Addr} {fdI : FuncData} {pre : PyData → PyData → Prop} {sh : PyData} (T : KCl X.K) (Y : KTy X.K) (F : Mk1 X.prog X.w X.K X.mg X.base "__eq__" k ps spEqK) (hr : Room k X.A) (M : Mk X.K (kC X.K) fI) (FI : FnOk X.prog X.w X.K X.mg X.base CX0 kI fI fdI psI (spI pre X.K)) (hbI : Binds X.K fdI psI []) (hrI : Room (kI + 1) X.A) (hmc : X.mg cx = some (.ref (kC X.K))) (hfl : W.fl = true)
    (hq : q.C = kC X.K) (hn : ds[n]? = some (.kep q pt ms ss)) (ha : Am X W ds (e :: es) (· = [pt', sh])) (hp : pre pt' sh) (s : KSh pt ms ss) (s' : KSh pt' [] [sh])
    (hN : X.N[n]? = some x := by rfl) (hv : Vis X.env.scope x := by first | exact Or.inl rfl | exact Or.inr (Or.inl rfl) | exact Or.inr (Or.inr rfl)) (hd : (x == ("__debug__" : Str)) = false := by decide) (hcd : (x == ("__classdict__" : Str)) = false := by decide)
    (hg : Gl X cx := by rfl) (hdb : (cx == ("__debug__" : Str)) = false := by decide) (he : starEach (e :: es) X.env = (false, eval e X.env) :: starEach es X.env := by rfl) (hpl : (backTo p4 (starEach es X.env)).any (·.1) = false := by rfl) :
    Tm X W ds (.Compare (.Name x p2) [.Eq] [.Call (.Name cx p3) (e :: es) [] p4] pos) (· = (PyData.eqv pt pt' && (PyData.eqv (.list ss) (.list [sh]) && PyData.eqv (.list ms) (.list [])))) := by
  obtain ⟨f, fd, Gf, hM', hb⟩ := F.ex
  refine tm_of (pt_cmpR (op_kEq (E := fun _ _ _ => False) Gf hr hM' hb pass0) (pv n hN hv hd hcd) (pe_make M FI hrI hg hmc hbI .nil pass0 pa_u hdb he hpl) (nomark _)) fun σ G H ok env Q k => ?_
  obtain ⟨z, e1, e2, _, h⟩ := env.at hn
  refine ⟨.ref q.o, by rw [e1, e2], ha σ G H ok env _ fun vs as G1 H1 r1 hs p => fun x dx nx ndx ne => ?_⟩
  subst p
  rw [List.append_nil]
  have ok1 := W.oks r1
  have sub := W.sub ok1
  cases hs with
  | cons hvp hs => cases hs with
    | cons hvs hs =>
      cases hs
      rename_i vp vs'
      refine ⟨G1, x, dx, vp, vs', pt', sh, rfl, ?_, sub.free nx, sub.free ndx, upd_same, by rw [upd_ne ne, upd_same], hvp, hvs, hp, fun lm ls G2 H2 nlm nls sg si hh hk hK => ⟨rfl, ?_⟩⟩
      · exact same_upd2 (same_upd2 sub (sub.free ndx)) (sub.free nx)
      have off : ∀ b, upd (upd H1 dx (.own x)) x (.ins (kC X.K) dx []) b = none → H1 b = none := fun b hb => by
        by_cases e1 : b = x
        · rw [e1]; exact nx
        · by_cases e2 : b = dx
          · rw [e2]; exact ndx
          · rw [upd_ne e1, upd_ne e2] at hb
            exact hb
      have stp : Stp G1 H1 G2 H2 := ⟨sg, si, fun b o e => hh b o (ne_of_none e nx) (by rw [upd_ne (ne_of_none e nx), upd_ne (ne_of_none e ndx)]; exact e), fun b hb gb => hk b (fun z => hb (off b z)) gb⟩
      have r2 := W.step ok1 stp
      have h' := (h.mono r1).mono r2
      obtain ⟨vp1, us1, vs1, h1, _⟩ := id h'.ex
      obtain ⟨vp2, us2, vs2, g1, _⟩ := id hK.ex
      rw [hq] at h1
      exact ⟨q.o, _, _, _, rfl, h1, .base (.ins g1 T.cl Y.ha Y.hn Y.tk Y.hm), nf_self, G2, q, ⟨kC X.K, x, dx, lm, ls⟩, pt, ms, ss, pt', [], [sh], rfl, hq, rfl, W.sub (W.oks r2), h'.cast, hK, ⟨s.p, s'.p, s.m, s'.m, s.s, s'.s⟩, fun G' H' st => ⟨_, rfl, ⟨_, rfl, k _ G' H' (W.trans r1 (W.trans r2 (W.step (W.oks r2) st))) rfl⟩⟩⟩
/-- len(x) -/
theorem em_kLen (n : Nat) {x : Str} {k : Nat} {ps : List Str} {pre : KPre} {post : KTell} {l : Nat} (F : Mk1 X.prog X.w X.K X.mg X.base "__len__" k ps (spRk pre post)) (hr : Room (k + 1) X.A) (hq : q.C = kC X.K) (hn : ds[n]? = some (.kep q pt ms ss)) (hp : pre pt ms ss []) (hpo : ∀ d, post pt ms ss [] d → d = .int l) (hl : l < 2 ^ 62) (hm : X.mg "len" = none)
    (hN : X.N[n]? = some x := by rfl) (hv : Vis X.env.scope x := by first | exact Or.inl rfl | exact Or.inr (Or.inl rfl) | exact Or.inr (Or.inr rfl)) (hd : (x == ("__debug__" : Str)) = false := by decide) (hcd : (x == ("__classdict__" : Str)) = false := by decide)
    (hg : Gl X "len" := by rfl) (hs : starEach [.Name x p2] X.env = (false, eval (.Name x p2) X.env) :: starEach [] X.env := by rfl) (hpl : (backTo pos (starEach [] X.env)).any (·.1) = false := by rfl) : Em X W ds (.Call (.Name "len" p3) [.Name x p2] [] pos) (· = .int l) := by
  obtain ⟨f, fd, Gf, hM', hb⟩ := F.ex
  refine em_of (pe_callB (call_kLen (E := fun _ _ _ => False) Gf hr hM' hb pass0) hg hm PySem.boot_len (pa_cons (pv n hN hv hd hcd) pa_nil hs) (he := hs) (hpl := hpl)) fun σ G H ok env Q k => ?_
  obtain ⟨z, e1, e2, _, h⟩ := env.at hn
  obtain ⟨vp, us, vs, h1, _⟩ := id h.ex
  rw [hq] at h1
  refine ⟨.ref q.o, by rw [e1, e2], q.o, _, _, rfl, h1, G, q, pt, ms, ss, [], [], rfl, hq, W.sub ok, h.cast, .nil, hp, fun v d G2 H2 st hd hpo' => ?_⟩
  have e := hpo d hpo'
  subst e
  cases hd
  exact ⟨l, rfl, hl, k _ _ G2 H2 (W.step ok st) (.int _) rfl⟩
end
end Dn
namespace Dn
open PySem PySem.Spec PyProof.Rows L2 LamX
/-! ## methods that raise -/
def spMX (pre : KPre) (wd : Str) : KSp := fun K vs H _ E => ∃ G q pt ms ss us as, vs = .ref q.o :: us ∧ q.C = kC K ∧ Same G H ∧ KqAt K pwk G H q pt ms ss ∧ Ds K G us as ∧ pre pt ms ss as ∧ ∀ G' H', Stp G H G' H' → E (.ref (He.ga K wd)) none H'
/-- __init__ that raises -/
def spIX (pre : PyData → PyData → Prop) (wd : Str) : KSp := fun K vs H _ E => ∃ G x vp vs' pt sh, vs = [.ref x, vp, vs'] ∧ Same G H ∧ Dd K G vp pt ∧ Dd K G vs' sh ∧ pre pt sh ∧ ∀ G' H', Stp G H G' H' → E (.ref (He.ga K wd)) none H'
structure Mx1 (P : Program) (w : World) (K : PySem.W.Frag) (mg : Str → Option Value) (base : Heap) (m : Str) (k : Nat) (ps : List Str) (sp : KSp) : Prop where
  ex : ∃ f fd, FnX P w K mg base k f fd ps sp ∧ Meth K (kC K) m f ∧ Binds K fd ps []
section
variable {P : Program} {w : World} {K : PySem.W.Frag} {mg : Str → Option Value} {base : Heap} {x qual : Str} {params : Arguments} {body : List Stmt} {scope : Scope} {f : Addr} {fd : FuncData} {N ps : List Str} {k : Nat}
theorem fn_MX {pre : KPre} {wd : Str} (F : FunD K x qual params body scope [] [] f fd) (S : FnScope N ps scope) (hl : ∀ pt ms ss as, pre pt ms ss as → as.length + 1 = ps.length)
    (hb : ∀ (cdv : Value) (A : Around) (outer : List Env) (s : Shared) (H : Hp) (E : XK) (G : Hp) (q : Kq) (pt : PyData) (ms ss as : List PyData), Room k (A.deeper (envOfC qual scope s.heap.objs.size f cdv)) → q.C = kC K → pre pt ms ss as → Tk (Cx1 P w K mg base N qual scope f cdv A outer s H E) pwk G H (He.ga K wd) →
      Bm (Cx1 P w K mg base N qual scope f cdv A outer s H E) pwk G H (slK N q pt ms ss as) body nono nono nono (fun _ _ _ => False)) : FnX P w K mg base (k + 1) f fd ps (spMX pre wd) := by
  refine F.ok S (fun vs H Q E ⟨G, q, pt, ms, ss, us, as, e, _, _, _, hd, p, _⟩ => by rw [e, List.length_cons, hd.len]; exact hl pt ms ss as p) fun cdv A outer s H vs Q E hr ⟨G, q, pt, ms, ss, us, as, e, hC, sm, hk, hd, p, kk⟩ => ?_
  rw [e]
  exact hb cdv A outer s H E G q pt ms ss as hr hC p (tk_cx fun G' H' r => kk G' H' r) G (L2.start N (.ref q.o :: us)) G H { nx := fun _ H' => Q .non H', rt := Q } ⟨.refl _, pwk.refl sm⟩ (envK hk hd) (fun _ _ _ _ _ _ z => z.elim) (fun _ _ _ _ _ _ z => z.elim) (fun _ _ _ _ _ _ z => z.elim) fun _ _ _ _ z => z.elim
theorem fn_IX {pre : PyData → PyData → Prop} {wd : Str} (F : FunD K x qual params body scope [] [] f fd) (S : FnScope N ps scope) (hl : ps.length = 3)
    (hb : ∀ (cdv : Value) (A : Around) (outer : List Env) (s : Shared) (H : Hp) (E : XK) (G : Hp) (o : Addr) (pt sh : PyData), Room k (A.deeper (envOfC qual scope s.heap.objs.size f cdv)) → pre pt sh → Tk (Cx1 P w K mg base N qual scope f cdv A outer s H E) pw G H (He.ga K wd) →
      Bm (Cx1 P w K mg base N qual scope f cdv A outer s H E) pw G H (.raw (.ref o) :: ([pt, sh].map Sl.dat ++ List.replicate (N.length - 3) .un)) body nono nono nono (fun _ _ _ => False)) : FnX P w K mg base (k + 1) f fd ps (spIX pre wd) := by
  refine F.ok S (fun vs H Q E ⟨G, x, vp, vs', pt, sh, e, _⟩ => by rw [e, hl]; rfl) fun cdv A outer s H vs Q E hr ⟨G, x, vp, vs', pt, sh, e, sm, hvp, hvs, p, kk⟩ => ?_
  rw [e]
  exact hb cdv A outer s H E G x pt sh hr p (tk_cx fun G' H' r => kk G' H' r) G (L2.start N [.ref x, vp, vs']) G H { nx := fun _ H' => Q .non H', rt := Q } ⟨.refl _, pw.refl sm⟩ (env1 (N := N) (.cons hvp (.cons hvs .nil))) (fun _ _ _ _ _ _ z => z.elim) (fun _ _ _ _ _ _ z => z.elim) (fun _ _ _ _ _ _ z => z.elim) fun _ _ _ _ z => z.elim
end
section
variable {X : Cx} {W : Wr} {G0 H0 : Hp} {ds : List Sl} {e a b c : Expr} {es : List Expr} {pos p2 p3 p4 p5 p6 p7 p8 : Pos} {P : PyData → Prop} {d : PyData} {N B C N1 : NX} {r : RT} {rest body suite : List Stmt} {b0 : Stmt} {np pos' : Pos} {q q' : Kq} {pt pt' : PyData} {ms ss ms1 ss1 : List PyData}
theorem rm_meth (i : Nat) {x m wd : Str} {k : Nat} {ps : List Str} {pre : KPre} {Pa : List PyData → Prop} {pl : Sem Bool} (T : KCl X.K) (hq : q.C = kC X.K) (hi : ds[i]? = some (.kep q pt ms ss)) (F : Mx1 X.prog X.w X.K X.mg X.base m k ps (spMX pre wd)) (hr : Room k X.A) (tk : Tk X W G0 H0 (He.ga X.K wd)) (ha : Am X W ds (e :: es) Pa) (hp : ∀ as, Pa as → pre pt ms ss as) (hm : ¬ m = "parts" ∧ ¬ m = "made" ∧ ¬ m = "shares") (hN : X.N[i]? = some x := by rfl)
    (hv : Vis X.env.scope x := by first | exact Or.inl rfl | exact Or.inr (Or.inl rfl) | exact Or.inr (Or.inr rfl)) (hd : (x == ("__debug__" : Str)) = false := by decide) (hcd : (x == ("__classdict__" : Str)) = false := by decide)
    (hst : starEach (e :: es) X.env = (false, eval e X.env) :: starEach es X.env := by rfl) (hpl : (backTo p4 (starEach es X.env)).any (·.1) = false := by rfl)
    (ht : eval (.Call (.Attribute (.Name x p2) m p3) (e :: es) [] p4) X.env = (do
      let ov ← eval (.Name x p2) X.env
      standAt p3.atName
      let (f, first) ← holding [ov] (getMethod ov m pl)
      callWith p4 f first (backTo p4 (starEach (e :: es) X.env)) (backToKw p4 (keywordEach [] X.env))) := by rfl) : Rm X W G0 H0 ds (.Call (.Attribute (.Name x p2) m p3) (e :: es) [] p4) := by
  obtain ⟨f, fd, Gf, hM, hb⟩ := F.ex
  intro σ G H r env Q
  refine ⟨_, pe_meth (C := kC X.K) (pl := pl) (pv i hN hv hd hcd) T.cl hM Gf hr hb .nil (L2N.passes_call (E := EX W G0 H0 (He.ga X.K wd)) tk fun _ _ _ _ h => h) pa_u hst hpl ht, ?_⟩
  obtain ⟨z, e1, e2, _, h⟩ := env.at hi
  obtain ⟨vp, us, vs, h1, _⟩ := id h.ex
  refine ⟨.ref q.o, by rw [e1, e2], q.o, q.dx, _, rfl, by rw [h1, hq], kfs_no q vp hm.1 hm.2.1 hm.2.2, ha σ G H (W.oks r) env _ fun ws as G1 H1 r1 hs p => ?_⟩
  rw [List.append_nil]
  exact ⟨G1, q, pt, ms, ss, ws, as, rfl, hq, W.sub (W.oks r1), (h.mono r1).cast, hs, hp as p, fun G' H' st => ⟨rfl, rfl, G', W.trans r (W.trans r1 (W.step (W.oks r1) st))⟩⟩
theorem rm_meth0 (i : Nat) {x m wd : Str} {k : Nat} {ps : List Str} {pre : KPre} {pl : Sem Bool} (T : KCl X.K) (hq : q.C = kC X.K) (hi : ds[i]? = some (.kep q pt ms ss)) (F : Mx1 X.prog X.w X.K X.mg X.base m k ps (spMX pre wd)) (hr : Room k X.A) (tk : Tk X W G0 H0 (He.ga X.K wd)) (hp : pre pt ms ss []) (hm : ¬ m = "parts" ∧ ¬ m = "made" ∧ ¬ m = "shares") (hN : X.N[i]? = some x := by rfl)
    (hv : Vis X.env.scope x := by first | exact Or.inl rfl | exact Or.inr (Or.inl rfl) | exact Or.inr (Or.inr rfl)) (hd : (x == ("__debug__" : Str)) = false := by decide) (hcd : (x == ("__classdict__" : Str)) = false := by decide)
    (ht : eval (.Call (.Attribute (.Name x p2) m p3) [] [] p4) X.env = (do
      let ov ← eval (.Name x p2) X.env
      standAt p3.atName
      let (f, first) ← holding [ov] (getMethod ov m pl)
      callWith p4 f first (backTo p4 (starEach [] X.env)) (backToKw p4 (keywordEach [] X.env))) := by rfl) : Rm X W G0 H0 ds (.Call (.Attribute (.Name x p2) m p3) [] [] p4) := by
  obtain ⟨f, fd, Gf, hM, hb⟩ := F.ex
  intro σ G H r env Q
  refine ⟨_, pe_meth0 (C := kC X.K) (pl := pl) (pv i hN hv hd hcd) T.cl hM Gf hr hb .nil (L2N.passes_call (E := EX W G0 H0 (He.ga X.K wd)) tk fun _ _ _ _ h => h) ht, ?_⟩
  obtain ⟨z, e1, e2, _, h⟩ := env.at hi
  obtain ⟨vp, us, vs, h1, _⟩ := id h.ex
  exact ⟨.ref q.o, by rw [e1, e2], q.o, q.dx, _, rfl, by rw [h1, hq], kfs_no q vp hm.1 hm.2.1 hm.2.2, G, q, pt, ms, ss, [], [], rfl, hq, W.sub (W.oks r), h.cast, .nil, hp, fun G' H' st => ⟨rfl, rfl, G', W.trans r (W.step (W.oks r) st)⟩⟩
/-- Kept(..) that raises -/
theorem rm_make {cx wd : Str} {k : Nat} {ps : List Str} {fI : Addr} {fdI : FuncData} {pre : PyData → PyData → Prop} {Pa : List PyData → Prop} (M : Mk X.K (kC X.K) fI) (F : FnX X.prog X.w X.K X.mg X.base k fI fdI ps (spIX pre wd)) (hb : Binds X.K fdI ps []) (hr : Room (k + 1) X.A) (hm : X.mg cx = some (.ref (kC X.K))) (tk : Tk X W G0 H0 (He.ga X.K wd)) (ha : Am X W ds (e :: es) Pa) (hp : ∀ as, Pa as → ∃ pt sh, as = [pt, sh] ∧ pre pt sh)
    (hg : Gl X cx := by rfl) (hdb : (cx == ("__debug__" : Str)) = false := by decide) (he : starEach (e :: es) X.env = (false, eval e X.env) :: starEach es X.env := by rfl) (hpl : (backTo p4 (starEach es X.env)).any (·.1) = false := by rfl) : Rm X W G0 H0 ds (.Call (.Name cx p3) (e :: es) [] p4) := by
  intro σ G H r env Q
  refine ⟨_, pe_make M F hr hg hm hb .nil (L2N.passes_call (E := EX W G0 H0 (He.ga X.K wd)) tk fun _ _ _ _ h => h) pa_u hdb he hpl, ?_⟩
  refine ha σ G H (W.oks r) env _ fun vs as G1 H1 r1 hs p => fun x dx nx ndx ne => ?_
  obtain ⟨pt, sh, e, hp⟩ := hp as p
  subst e
  rw [List.append_nil]
  have sub := W.sub (W.oks r1)
  cases hs with
  | cons hvp hs => cases hs with
    | cons hvs hs =>
      cases hs
      rename_i vp vs'
      refine ⟨G1, x, vp, vs', pt, sh, rfl, same_upd2 (same_upd2 sub (sub.free ndx)) (sub.free nx), hvp, hvs, hp, fun G' H' st => ⟨rfl, rfl, G', W.trans r (W.trans r1 (W.step (W.oks r1) ?_))⟩⟩
      have up : ∀ a o, H1 a = some o → upd (upd H1 dx (.own x)) x (.ins (kC X.K) dx []) a = some o := fun a o e => by rw [upd_ne (ne_of_none e nx), upd_ne (ne_of_none e ndx)]; exact e
      exact ⟨st.g, st.i, fun a o e => st.h a o (up a o e), fun a ha ga => st.k a (by
        obtain ⟨o, e⟩ := ne_some ha
        rw [up a o e]
        exact fun z => nomatch z) ga⟩
/-- x, y = Kept(..), Kept(..) -/
theorem bm_make2 (i j : Nat) {x y cx : Str} {k n1 n2 : Nat} {ps : List Str} {fI : Addr} {fdI : FuncData} {pre : PyData → PyData → Prop} {sh sh' : PyData} {e' : Expr} {es' : List Expr} {q5 q6 : Pos} (M : Mk X.K (kC X.K) fI) (F : FnOk X.prog X.w X.K X.mg X.base CX0 k fI fdI ps (spI pre X.K)) (hb : Binds X.K fdI ps []) (hr : Room (k + 1) X.A) (hm : X.mg cx = some (.ref (kC X.K))) (hfl : W.fl = true) (ha : Am X W ds (e :: es) (· = [pt, sh])) (ha' : Am X W ds (e' :: es') (· = [pt', sh'])) (hp : pre pt sh) (hp' : pre pt' sh')
    (kk : ∀ q q' : Kq, q.C = kC X.K → q'.C = kC X.K → H0 q.lm = none → H0 q.ls = none → H0 q'.lm = none → H0 q'.ls = none → (∀ a ∈ [q.o, q.dx, q.lm, q.ls], a ≠ q'.lm ∧ a ≠ q'.ls) → (∀ a ∈ [q'.o, q'.dx, q'.lm, q'.ls], a ≠ q.lm ∧ a ≠ q.ls) → (∀ (j : Nat) s, ds[j]? = some s → ∀ a ∈ s.foot, (a ≠ q.lm ∧ a ≠ q.ls) ∧ a ≠ q'.lm ∧ a ≠ q'.ls) → Bm X W G0 H0 ((ds.set i (.kep q pt [] [sh])).set j (.kep q' pt' [] [sh'])) rest N B C r)
    (hc : X.calm = true) (hN : X.N.Nodup) (hi : X.N[i]? = some x := by rfl) (hj : X.N[j]? = some y := by rfl) (hij : i ≠ j := by decide) (hx : X.env.scope.names.lookup x = some .local := by rfl) (hy : X.env.scope.names.lookup y = some .local := by rfl)
    (hw : swappedStores [.Tuple [.Name x p2, .Name y p3] n1 p4] (.Tuple [.Call (.Name cx p5) (e :: es) [] p6, .Call (.Name cx q5) (e' :: es') [] q6] n2 p7) X.env = pure (some [x, y]) := by rfl) (hs : swapsWithSole [.Tuple [.Name x p2, .Name y p3] n1 p4] (.Tuple [.Call (.Name cx p5) (e :: es) [] p6, .Call (.Name cx q5) (e' :: es') [] q6] n2 p7) pos.line X.env = pure false := by rfl)
    (hg : Gl X cx := by rfl) (hdb : (cx == ("__debug__" : Str)) = false := by decide) (he : starEach (e :: es) X.env = (false, eval e X.env) :: starEach es X.env := by rfl) (hpl : (backTo p6 (starEach es X.env)).any (·.1) = false := by rfl) (he' : starEach (e' :: es') X.env = (false, eval e' X.env) :: starEach es' X.env := by rfl) (hpl' : (backTo q6 (starEach es' X.env)).any (·.1) = false := by rfl)
    (s1 : starEach [.Call (.Name cx p5) (e :: es) [] p6, .Call (.Name cx q5) (e' :: es') [] q6] X.env = (false, eval (.Call (.Name cx p5) (e :: es) [] p6) X.env) :: starEach [.Call (.Name cx q5) (e' :: es') [] q6] X.env := by rfl) (s2 : starEach [.Call (.Name cx q5) (e' :: es') [] q6] X.env = (false, eval (.Call (.Name cx q5) (e' :: es') [] q6) X.env) :: starEach [] X.env := by rfl) :
    Bm X W G0 H0 ds (.Assign [.Tuple [.Name x p2, .Name y p3] n1 p4] (.Tuple [.Call (.Name cx p5) (e :: es) [] p6, .Call (.Name cx q5) (e' :: es') [] q6] n2 p7) pos :: rest) N B C r := by
  refine bm_st (N1 := fun ds' => ∃ q q' : Kq, q.C = kC X.K ∧ q'.C = kC X.K ∧ H0 q.lm = none ∧ H0 q.ls = none ∧ H0 q'.lm = none ∧ H0 q'.ls = none ∧ (∀ a ∈ [q.o, q.dx, q.lm, q.ls], a ≠ q'.lm ∧ a ≠ q'.ls) ∧ (∀ a ∈ [q'.o, q'.dx, q'.lm, q'.ls], a ≠ q.lm ∧ a ≠ q.ls) ∧ (∀ (j : Nat) s, ds[j]? = some s → ∀ a ∈ s.foot, (a ≠ q.lm ∧ a ≠ q.ls) ∧ a ≠ q'.lm ∧ a ≠ q'.ls) ∧ ds' = (ds.set i (.kep q pt [] [sh])).set j (.kep q' pt' [] [sh']))
    (ps_par hc hN hi hj hij hx hy (pa_cons (pe_make M F hr hg hm hb .nil pass0 pa_u hdb he hpl) (pa_cons (pe_make M F hr hg hm hb .nil pass0 pa_u hdb he' hpl') pa_nil s2) s1) hw hs) (fun Gb σ G H D s env n b c k => ?_) fun ds' ⟨q, q', h1, h2, h3, h4, h5, h6, h7, h8, h9, e⟩ => by
    rw [e]
    exact kk q q' h1 h2 h3 h4 h5 h6 h7 h8 h9
  have mk : ∀ {e : Expr} {es : List Expr} {pt sh : PyData} (ha : Am X W ds (e :: es) (· = [pt, sh])) (hp : pre pt sh) (G H : Hp) (hok : W.ok G H) (env : EnvOk X.K W G H ds σ) (Q : VK), (∀ x dx lm ls G1 H1 G2 H2, W.R G H G1 H1 → H1 x = none → H1 dx = none → H1 lm = none → H1 ls = none → W.R G1 H1 G2 H2 → KqAt X.K W G2 H2 ⟨kC X.K, x, dx, lm, ls⟩ pt [] [sh] → Q (.ref x) H2) → tMake (kC X.K) (spI pre X.K) [] E0 (uA X (e :: es)) σ H Q := fun {e es pt sh} ha hp G H hok env Q hQ => by
    refine ha σ G H hok env _ fun vs as G1 H1 r1 hs p => fun x dx nx ndx ne => ?_
    subst p
    rw [List.append_nil]
    have ok1 := W.oks r1
    have sub := W.sub ok1
    cases hs with
    | cons hvp hs => cases hs with
      | cons hvs hs =>
        cases hs
        rename_i vp vs'
        refine ⟨G1, x, dx, vp, vs', pt, sh, rfl, same_upd2 (same_upd2 sub (sub.free ndx)) (sub.free nx), sub.free nx, sub.free ndx, upd_same, by rw [upd_ne ne, upd_same], hvp, hvs, hp, fun lm ls G2 H2 nlm nls sg si hh hk hK => ⟨rfl, ?_⟩⟩
        have off : ∀ b, upd (upd H1 dx (.own x)) x (.ins (kC X.K) dx []) b = none → H1 b = none := fun b hb => by
          by_cases e1 : b = x
          · rw [e1]; exact nx
          · by_cases e2 : b = dx
            · rw [e2]; exact ndx
            · rw [upd_ne e1, upd_ne e2] at hb
              exact hb
        have nl := off lm nlm
        have nl' := off ls nls
        have stp : Stp G1 H1 G2 H2 := ⟨sg, si, fun b o e => hh b o (ne_of_none e nx) (by rw [upd_ne (ne_of_none e nx), upd_ne (ne_of_none e ndx)]; exact e), fun b hb gb => hk b (fun z => hb (off b z)) gb⟩
        exact hQ x dx lm ls G1 H1 G2 H2 r1 nx ndx nl nl' (W.step ok1 stp) ⟨hK.go, hK.gd, hK.gm, hK.gs, W.new ok1 nx, W.new ok1 ndx, W.new ok1 nl, W.new ok1 nl', hK.ne, hK.ex⟩
  unfold tPar tCons
  refine mk ha hp G H s.ok env _ fun x dx lm ls G1 H1 G2 H2 r1 nx ndx nl nl' r2 hK => ?_
  have R := W.trans r1 r2
  show tMake _ _ _ _ _ σ H2 _
  refine mk ha' hp' G2 H2 (W.oks R) (env.mono R) _ fun x' dx' lm' ls' G3 H3 G4 H4 r3 nx' ndx' nm ns r4 hK' => ?_
  have R2 := W.trans r3 r4
  have there : ∀ a ∈ [x, dx, lm, ls], H3 a ≠ none := fun a ha => by
    obtain ⟨vp, us, vs, h1, h2, h3, h4, _⟩ := (hK.mono r3).ex
    simp only [List.mem_cons, List.not_mem_nil, or_false] at ha
    rcases ha with rfl | rfl | rfl | rfl
    · exact some_ne h1
    · exact some_ne h2
    · exact some_ne h3
    · exact some_ne h4
  have sA := s.to R
  have sB := sA.to r3
  have s1' := s.to r1
  have d1 : ∀ a ∈ [x, dx, lm, ls], a ≠ lm' ∧ a ≠ ls' := fun a ha => ⟨fun z => there a ha (by rw [z]; exact nm), fun z => there a ha (by rw [z]; exact ns)⟩
  refine ⟨_, _, rfl, n _ _ G4 H4 (s.to (W.trans R R2)) (((env.mono (W.trans R R2)).set i (s := .kep ⟨kC X.K, x, dx, lm, ls⟩ pt [] [sh]) (x := some (.ref x)) ⟨rfl, hfl, hK.mono R2⟩).set j (s := .kep ⟨kC X.K, x', dx', lm', ls'⟩ pt' [] [sh']) (x := some (.ref x')) ⟨rfl, hfl, hK'⟩) ⟨_, _, rfl, rfl, s1'.fresh nl, s1'.fresh nl', sB.fresh nm, sB.fresh ns, d1, fun a ha => ?_, fun j t hj b hb => ⟨⟨(env.mono r1).fresh nl j t hj b hb, (env.mono r1).fresh nl' j t hj b hb⟩, (env.mono (W.trans R r3)).fresh nm j t hj b hb, (env.mono (W.trans R r3)).fresh ns j t hj b hb⟩, rfl⟩⟩
  have tl := there lm (by simp)
  have ts := there ls (by simp)
  have nn : ∀ a, H3 a = none → a ≠ lm ∧ a ≠ ls := fun a h => ⟨fun z => tl (by rw [← z]; exact h), fun z => ts (by rw [← z]; exact h)⟩
  simp only [List.mem_cons, List.not_mem_nil, or_false] at ha
  rcases ha with rfl | rfl | rfl | rfl
  · exact nn _ nx'
  · exact nn _ ndx'
  · exact nn _ nm
  · exact nn _ ns
end
end Dn
namespace Dn
open PySem PySem.Spec PyProof.Rows L2 LamX
/-! ## kept tubs put out of sight -/
def fg : Sl → Sl
  | .kep _ _ _ _ => .un
  | s => s
/-- a smaller world within a greater one, kept tubs apart -/
structure SubK (W W' : Wr) : Prop where
  ok : ∀ {G H}, W'.ok G H → W.ok G H
  R : ∀ {G H G1 H1}, W'.ok G H → W.R G H G1 H1 → W'.R G H G1 H1
  stb : ∀ {a}, W'.stb a → W.stb a
theorem Sub.k {W W' : Wr} (s : Sub W W') : SubK W { W' with fl := true } := ⟨fun h => s.ok h, fun h r => s.R h r, fun h => s.stb h⟩
theorem EnvOk.subK {K : PySem.W.Frag} {W W' : Wr} {G H : Hp} {ds : List Sl} {σ : L2.St} (s : SubK W W') (h : EnvOk K W' G H ds σ) : EnvOk K W G H (ds.map fg) σ := ⟨by rw [List.length_map]; exact h.1, fun i t x a b => by
  rw [List.getElem?_map] at a
  cases e : ds[i]? with
  | none => rw [e] at a; cases a
  | some u =>
    rw [e] at a
    cases a
    have z := h.2 i u x e b
    cases u with
    | un => trivial
    | dat d => exact z
    | raw v => exact z
    | own a xs => exact ⟨z.1, z.2.1, s.stb z.2.2.1, z.2.2.2⟩
    | scr K1 a ns => exact z
    | kep q pt ms ss => trivial⟩
section
variable {X : Cx} {W W' : Wr} {G0 H0 : Hp} {ds : List Sl} {e : Expr} {es : List Expr} {P : PyData → Prop} {rest : List Stmt} {N N' : NX} {r : RT}
theorem em_subK (s : SubK W W') (h : Em X W (ds.map fg) e P) : Em X W' ds e P := fun σ G H ok env Q q => h σ G H (s.ok ok) (env.subK s) Q fun v d G2 H2 r hd p => q v d G2 H2 (s.R ok r) hd p
theorem tm_subK {P : Bool → Prop} (s : SubK W W') (h : Tm X W (ds.map fg) e P) : Tm X W' ds e P := fun σ G H ok env Q q => h σ G H (s.ok ok) (env.subK s) Q fun b G2 H2 r p => q b G2 H2 (s.R ok r) p
theorem am_subK {P : List PyData → Prop} (s : SubK W W') (h : Am X W (ds.map fg) es P) : Am X W' ds es P := fun σ G H ok env Q q => h σ G H (s.ok ok) (env.subK s) Q fun v d G2 H2 r hd p => q v d G2 H2 (s.R ok r) hd p
/-- kept tubs allowed for these statements -/
theorem bm_flN (k : Bm X { W with fl := true } G0 H0 ds rest N' nono nono r) (hN : ∀ ds', N' ds' → N (ds'.map fg)) (h0 : ds.map fg = ds) : Bm X W G0 H0 ds rest N nono nono r := fun Gb σ G H D s env n b c q => by
  have env' : EnvOk X.K { W with fl := true } G H ds σ := ⟨env.1, fun i t x a b => by
    have z := env.2 i t x a b
    cases t with
    | un => trivial
    | dat d => exact z
    | raw v => exact z
    | scr K1 a ns => exact z
    | own a xs => exact z
    | kep q pt ms ss => exact ⟨z.1, rfl, z.2.2.go, z.2.2.gd, z.2.2.gm, z.2.2.gs, z.2.2.to, z.2.2.td, z.2.2.tm, z.2.2.ts, z.2.2.ne, z.2.2.ex⟩⟩
  exact k Gb σ G H D ⟨s.b, s.r⟩ env' (fun ds' σ' G2 H2 s2 e2 p => n (ds'.map fg) σ' G2 H2 ⟨s2.b, s2.r⟩ (EnvOk.subK (W := W) (W' := { W with fl := true }) ⟨fun h => h, fun _ h => h, fun h => h⟩ e2) (hN ds' p)) (fun _ _ _ _ _ _ z => z.elim) (fun _ _ _ _ _ _ z => z.elim) q
end
/-! ## a try whose call changes kept tubs and comes back -/
section
variable {X : Cx} {W : Wr} {G0 H0 : Hp} {ds : List Sl} {pos pos' np : Pos} {N B C : NX} {r : RT} {rest body suite : List Stmt} {b0 : Stmt} {qk : Kq} {pt : PyData} {ms ss ms' ss' : List PyData}
theorem bm_try3N {x n y y1 y2 y3 : Str} {i j j1 j2 j3 k : Nat} {ca f : Addr} {v2 v3 : V} {pre : Hp → Prop} {sp : Sp} {p1 p2 p3 p4 p5 p6 : Pos} (F : Cal X.prog X.w X.K X.mg X.base k f pre sp) (hr : Room k X.A) (hs : X.stack = X.env :: X.outer) (hf : X.env.frame = some X.env.locals) (hN : X.N.Nodup) (hx : X.mg x = some (.ref ca))
    (h0 : ds[j]? = some (.raw (.ref f))) (h1 : ds[j1]? = some (.kep qk pt ms ss)) (h2 : ds[j2]? = some (.raw v2)) (h3 : ds[j3]? = some (.raw v3)) (h0m : H0 qk.lm = none) (h0s : H0 qk.ls = none) (hnf : ∀ (j : Nat) s, j ≠ j1 → ds[j]? = some s → ∀ a ∈ s.foot, a ≠ qk.lm ∧ a ≠ qk.ls)
    (hcall : ∀ G H, W.R G0 H0 G H → KqAt X.K pwk G H qk pt ms ss → pre H ∧ ∀ (Q : VK) (E : XK), (∀ v G2 H2, Stp G (offK qk H) G2 H2 → KqAt X.K pwk G2 H2 qk pt ms' ss' → Q v H2) → sp [.ref qk.o, v2, v3] H Q E)
    (kk : Bm X W G0 H0 (ds.set j1 (.kep qk pt ms' ss')) rest N B C r)
    (hi : X.N[i]? = some n := by rfl) (hln : X.env.kindOf n = some .local := by rfl) (hg : Gl X x := by rfl) (hdb : (x == ("__debug__" : Str)) = false := by decide)
    (hj : X.N[j]? = some y := by rfl) (hj1 : X.N[j1]? = some y1 := by rfl) (hj2 : X.N[j2]? = some y2 := by rfl) (hj3 : X.N[j3]? = some y3 := by rfl)
    (hv : Vis X.env.scope y := by first | exact Or.inl rfl | exact Or.inr (Or.inl rfl) | exact Or.inr (Or.inr rfl)) (hv1 : Vis X.env.scope y1 := by first | exact Or.inl rfl | exact Or.inr (Or.inl rfl) | exact Or.inr (Or.inr rfl)) (hv2 : Vis X.env.scope y2 := by first | exact Or.inl rfl | exact Or.inr (Or.inl rfl) | exact Or.inr (Or.inr rfl)) (hv3 : Vis X.env.scope y3 := by first | exact Or.inl rfl | exact Or.inr (Or.inl rfl) | exact Or.inr (Or.inr rfl))
    (hd : (y == ("__debug__" : Str)) = false := by decide) (hd1 : (y1 == ("__debug__" : Str)) = false := by decide) (hd2 : (y2 == ("__debug__" : Str)) = false := by decide) (hd3 : (y3 == ("__debug__" : Str)) = false := by decide)
    (hc : (y == ("__classdict__" : Str)) = false := by decide) (hc1 : (y1 == ("__classdict__" : Str)) = false := by decide) (hc2 : (y2 == ("__classdict__" : Str)) = false := by decide) (hc3 : (y3 == ("__classdict__" : Str)) = false := by decide)
    (hsw : ∀ env, swapsWith (.Call (.Name y p1) [.Name y1 p2, .Name y2 p3, .Name y3 p4] [] p5) none p6.line env = pure false := by intro _; rfl)
    (s3 : starEach [.Name y3 p4] X.env = (false, eval (.Name y3 p4) X.env) :: starEach [] X.env := by rfl) (s2 : starEach [.Name y2 p3, .Name y3 p4] X.env = (false, eval (.Name y2 p3) X.env) :: starEach [.Name y3 p4] X.env := by rfl) (s1 : starEach [.Name y1 p2, .Name y2 p3, .Name y3 p4] X.env = (false, eval (.Name y1 p2) X.env) :: starEach [.Name y2 p3, .Name y3 p4] X.env := by rfl)
    (hpl : (backTo p5 (starEach [.Name y2 p3, .Name y3 p4] X.env)).any (·.1) = false := by rfl) :
    Bm X W G0 H0 ds (.Try [.Expr (.Call (.Name y p1) [.Name y1 p2, .Name y2 p3, .Name y3 p4] [] p5) p6] [.ExceptHandler (some (.Name x np)) (some n) (b0 :: suite) pos'] [] [] pos :: rest) N B C r := by
  refine bm_st (N1 := fun ds' => ds' = ds.set j1 (.kep qk pt ms' ss')) (ps_tryU hs hf hN hi hln hx hg hdb) (fun Gb σ G H Dn s env nx b cc q pn xe tk => ?_) fun ds' e => by rw [e]; exact kk
  refine ⟨_, pss_one (ps_expr (pe_cal (X := X.tr pn xe) (i := j) (E := fun σ cls d H2 => wAs X.K (.ref ca) i (uSu X (b0 :: suite)) (fun _ _ _ _ => False) Dn cls d σ H2) F hr (L2N.passAt tk) hj hv (pa_cons (pv j1 hj1 hv1 hd1 hc1) (pa_cons (pv j2 hj2 hv2 hd2 hc2) (pa_cons (pv j3 hj3 hv3 hd3 hc3) pa_nil s3) s2) s1) hd hc s1 hpl) (hsw _)), ?_⟩
  obtain ⟨z0, e0, q0⟩ := env.at h0
  obtain ⟨z1, e1, q1, _, hk⟩ := env.at h1
  obtain ⟨z2, e2, q2⟩ := env.at h2
  obtain ⟨z3, e3, q3⟩ := env.at h3
  obtain ⟨hp, hq⟩ := hcall G H s.r hk.cast
  have q0 : z0 = some (V.ref f) := q0
  have q2 : z2 = some v2 := q2
  have q3 : z3 = some v3 := q3
  subst q0 q1 q2 q3
  exact ⟨e0, hp, .ref qk.o, e1, v2, e2, v3, e3, hp, hq _ _ fun v G2 H2 st hk2 => by
    obtain ⟨A2, E2⟩ := kstep (X := X) s env h1 h0m h0s hnf st hk2
    exact nx _ σ G2 H2 A2 E2 rfl⟩
end
end Dn
namespace Dn
open PySem PySem.Spec PyProof.Rows L2 LamX
section
variable {X : Cx} {W : Wr} {G0 H0 : Hp} {ds : List Sl} {a : Expr} {pos p2 p3 p4 : Pos} {N B C : NX} {r : RT} {rest body : List Stmt}
/-- for x in range(e), e not known but for its bound -/
theorem bm_forRE {N1 : NX} (i : Nat) {x : Str} (m : Nat) (hmm : m < 2 ^ 61) (ha : Em X W ds a (fun d => ∃ z : Int, d = .int z ∧ 0 ≤ z ∧ z ≤ m)) (I : Nat → List Sl → Prop) (h0 : I 0 ds) (hp : PassesOwn (model X.prog X.w) X.A X.env X.xe) (hc : X.calm = true)
    (hs : ∀ (n : Nat) ds', n < m → I n ds' → Bm X W G0 H0 (ds'.set i (.dat (.int n))) body (I (n + 1)) N1 (I (n + 1)) r) (hd : ∀ n ds', n ≤ m → I n ds' → N1 ds') (k : ∀ ds', N1 ds' → Bm X W G0 H0 ds' rest N B C r) (hm : X.mg "range" = none) (hN : X.N.Nodup) (hi : X.N[i]? = some x := by rfl) (hx : Loc X.env.scope x := by first | exact Or.inl rfl | exact Or.inr rfl)
    (hf : X.fn x = true ∨ X.env.scope.names.lookup x = some .local := by first | exact .inl rfl | exact .inr rfl) (hg : Gl X "range" := by rfl) (hs1 : starEach [a] X.env = [(false, eval a X.env)] := by rfl) (hs2 : starEach [a] X.env = (false, eval a X.env) :: starEach [] X.env := by rfl) (hs' : ∀ x, foldedSetIterable (.Call (.Name "range" p3) [a] [] p4) X.env x = pure x := by intro _; rfl) :
    Bm X W G0 H0 ds (.For (.Name x p2) (.Call (.Name "range" p3) [a] [] p4) body [] pos :: rest) N B C r :=
  bm_st (ps_for hp hc (pi_range1 hg hm (pa_cons pe_u pa_nil hs2) hs1) (pg_name (i := i) hN hi hx hf) pss_u hs') (fun Gb σ G H D s env n b cc q => ha σ G H s.ok env _ fun v d G1 H1 r1 hv ⟨z, e, z0, z1⟩ => by
    subst e
    cases hv
    refine ⟨z, rfl, by omega, by omega, for_range (fun n σ' H' => ∃ ds' G', At W Gb G0 H0 G' H' ∧ EnvOk X.K W G' H' ds' σ' ∧ I n ds') ⟨ds, G1, s.to r1, env.mono r1, h0⟩ ?_ ?_⟩
    · rintro j σ' H' hj ⟨ds', G', s', env', hI⟩
      have e0 : (0 : Int) + (j : Int) = (j : Int) := Int.zero_add _
      show uB X body _ (σ'.set i (some (.int ((0 : Int) + (j : Int))))) H'
      rw [e0]
      exact hs j ds' (by omega) hI Gb _ G' H' _ s' (env'.set i (.dat (.int _))) (fun ds2 σ2 G3 H3 s3 e3 p => ⟨ds2, G3, s3, e3, p⟩) (fun ds2 σ2 G3 H3 s3 e3 p => n ds2 σ2 G3 H3 s3 e3 p) (fun ds2 σ2 G3 H3 s3 e3 p => ⟨ds2, G3, s3, e3, p⟩) q
    · rintro σ' H' ⟨ds', G', s', env', hI⟩
      exact n ds' σ' G' H' s' env' (hd _ ds' (by omega) hI)) k
end
theorem sub_ltab (bs : List Addr) {S : Addr → Prop} {I : Hp → Hp → Prop} (m : Mi S I) : Sub (mw S I m) (lwx bs m) where
  ok := fun h => ⟨h.1, fun a ha => h.2.1 a (.inr ha), h.2.2⟩
  R := fun {G H G1 H1} o s => by
    refine ⟨s.g, s.i, fun a ha => ?_, s.v, fun a x ha e => s.h a x (fun z => ha (.inr z)) e, s.k⟩
    by_cases c : S a
    · exact s.o a c
    · obtain ⟨g, h⟩ := o.2.1 a ha
      obtain ⟨u, e⟩ := ne_some h
      exact ⟨s.k a h g, some_ne (s.h a u c e)⟩
  stb := fun h z => h (.inr z)
  fl := rfl
end Dn
namespace Dn
open PySem PySem.Spec PyProof.Rows L2 LamX
theorem excCB_ok {K : PySem.W.Frag} {D : Addr} (h : excCB K D = true) : ExcC K D := by
  obtain ⟨h1, h⟩ := He.ba h
  obtain ⟨h2, h⟩ := He.ba h
  obtain ⟨h3, h⟩ := He.ba h
  obtain ⟨h4, h⟩ := He.ba h
  obtain ⟨h5, h⟩ := He.ba h
  obtain ⟨h6, h⟩ := He.ba h
  obtain ⟨h7, h8⟩ := He.ba h
  exact ⟨of_decide_eq_true h1, of_decide_eq_true h2, of_decide_eq_true h3, h4, of_decide_eq_true h5, of_decide_eq_true h6, of_decide_eq_true h7, of_decide_eq_true h8⟩
structure Xf1 (ws : List Str) (top : Str) (K : PySem.W.Frag) (mg : Str → Option Value) (x : Str) : Prop where
  xc : XC K mg x
  m : PySem.W.exmOne K (.ref (He.ga K x)) (.ref (He.ga K top)) = some true
  c : ExcC K (He.ga K x)
  k : ∀ y ∈ ws, PySem.W.kitOne K (.ref (He.ga K x)) (.ref (He.ga K y)) = some (decide (x = y))
  v : PySem.W.kitOne K (.ref (He.ga K x)) (.type "ValueError") = some true
theorem xfB_ok {ws : List Str} {top : Str} {K : PySem.W.Frag} {h : Heap} {mg : Str → Option Value} (X : K.In h) (G : h.Ns mainGlobals mg) (e : xfB ws top K = true) {x : Str} (hx : x ∈ ws) : Xf1 ws top K mg x := by
  have z : xf1 ws top K x = true := List.all_eq_true.mp e x hx
  obtain ⟨h1, z⟩ := He.ba z
  obtain ⟨h2, z⟩ := He.ba z
  obtain ⟨h3, z⟩ := He.ba z
  obtain ⟨h4, z⟩ := He.ba z
  obtain ⟨h5, h6⟩ := He.ba z
  obtain ⟨a1, a2, a3, a4⟩ := He.exc_ok h1
  exact ⟨⟨He.glo_ok X G h2, a1, a2, a3, a4⟩, He.exm_ok h3, excCB_ok h4, fun y hy => of_decide_eq_true (List.all_eq_true.mp h5 y hy), of_decide_eq_true h6⟩
/-! ## the end of a law with tables -/
theorem walk_ofTE {l : PySem.W.OpenLaw} {n k : Nat} {q : Program} {loose : List Str} {XP : (Str → Option Value) → Heap → Prop} {YP : World → Heap → Prop} {d : DefRec} {CX : CXT} {x : Str}
    (hn : l.most = some n) (hn2 : n ≤ sizeLine) (hdf : d.params.defaults = []) (hr : Room k callerA)
    (F : ∀ (w : World) (mg : Str → Option Value) (fa : Addr) (h : Heap), YP w h → h.Ns mainGlobals mg → mg d.name = some (.ref fa) →
      ∃ (K : PySem.W.Frag) (fd : FuncData) (cs : List (Addr × Addr)) (sp : Sp), K.In h ∧ (∀ p ∈ cs, h.get? p.2 = some { cls := .none, data := .fields #[] }) ∧ (∀ p ∈ cs, K.lookup p.2 = none) ∧ (∀ p ∈ cs, PySem.W.CodeHd h p.1 p.2) ∧ (∀ (s : Shared) (u : Value), BindsTo s fd ⟨[u], []⟩ [(x, u)]) ∧
        (∀ (H : Hp) (a : Addr) (ns : List Int), ns.length ≤ n → (∀ p ∈ cs, H p.2 = some (.tbl #[])) → SqL K H a (ns.map V.int) → sp [.ref a] H (fun v _ => v = .bl true) fun _ _ _ => False) ∧
        ∀ base : Heap, K.In base → base.Ns mainGlobals mg → (∀ p ∈ cs, TabB base mg p.1 p.2) → FnOk l.prog w K mg base CX k fa fd [x] sp)
    (hCX : ∀ (H : Hp) (s : Shared) (e : Value) (s' : Shared), CX [] H s (fun _ _ _ => False) e s' → False) :
    PySem.W.WalkO q loose XP YP l.row.toRowW d [] (fun f vs => PySem.call f vs) := by
  refine Att.attach_callB hn hdf fun w s₀ s₁ mg mb fa o pm cd doc a vs ns G Y ho hd hcd hmg hobj hints hlen hbits hg => ?_
  obtain ⟨K, fd, cs, sp, KX, hT, nT, C, hb, hsp, hF⟩ := F w mg fa _ Y G.T.g hmg
  exact law_callTs KX G.T.g G.T.b G.T.builtins G.T.nolimit hg hT nT C G.T.bmain hobj hints (Nat.le_trans hlen hn2) hr hF hb (fun H hH hS => hsp H a ns hlen hH hS) fun H e s' => hCX H s₁ e s'
end Dn
namespace Pb
open PySem PySem.Spec PyProof.Rows L2 Dn
/-- a fraction as the program has it -/
abbrev rt (q : Rat) : PyData := .tuple [.int q.num, .int q.den]
theorem rt_inj {x y : Rat} (h : rt x = rt y) : x = y := by
  injection h with h
  injection h with h1 h2
  injection h2 with h2 _
  injection h1 with h1
  injection h2 with h2
  exact Rat.ext h1 (Int.ofNat.inj h2)
theorem mkRat_rt (n : Int) (d : Nat) (hd : 0 < d) : rt (mkRat n d) = .tuple [.int (n / (Nat.gcd n.natAbs d : Nat)), .int (d / Nat.gcd n.natAbs d : Nat)] := by
  unfold rt
  rw [Rat.num_mkRat, Rat.den_mkRat, if_neg (by omega), if_neg (by omega), Nat.gcd_comm]
/-! ### small numbers -/
def Sm (i : Int) : Prop := i.natAbs < 2 ^ 4000
structure Smq (q : Rat) : Prop where
  n : q.num.natAbs < 2 ^ 4000
  d : q.den < 2 ^ 4000
theorem Smq.d' {q : Rat} (h : Smq q) : ((q.den : Nat) : Int).natAbs < 2 ^ 4000 := h.d
theorem cm {i j : Int} (a : Sm i) (b : Sm j) : CMulW i j := wide_mul a b (by decide) (by decide) (by decide)
theorem dpos (q : Rat) : 0 < (q.den : Int) := Int.natCast_pos.mpr q.den_pos
/-! ### what the program asks of things -/
def isTupD : PyData → Bool
  | .tuple _ => true
  | _ => false
def isIntD : PyData → Bool
  | .int _ => true
  | .bool _ => true
  | _ => false
def isBoolD : PyData → Bool
  | .bool _ => true
  | _ => false
def isWholeD : PyData → Bool
  | .int _ => true
  | _ => false
def isPairD : PyData → Bool
  | .tuple [_, _] => true
  | _ => false
def isFracD : PyData → Bool
  | .tuple [.int t, .int b] => decide (1 ≤ b) && decide ((Int.gcd t b : Int) = 1)
  | _ => false
def isPartD : PyData → Bool
  | .tuple [.int t, .int b] => isFracD (.tuple [.int t, .int b]) && (decide (0 < t) && (decide (t < b) && decide (b ≤ 12)))
  | _ => false
def arePartsD : PyData → Bool
  | .tuple [.tuple [.int a, .int b], .tuple [.int c, .int d]] => isPartD (.tuple [.int a, .int b]) && (isPartD (.tuple [.int c, .int d]) && decide (b * d ≤ a * d + c * b))
  | _ => false
def isShareD : PyData → Bool
  | .tuple [.int t, .int b] => isFracD (.tuple [.int t, .int b]) && (decide (0 ≤ t) && (decide (t ≤ b) && decide (b ≤ 99999999999999999999)))
  | _ => false
def isPourD (d : PyData) : Bool := PyData.eqv d (.str "right") || PyData.eqv d (.str "left")
def isRowD : PyData → Bool
  | .tuple as => decide (as.length ≤ 40) && as.all isPourD
  | _ => false
def hd1 (f : PyData → PyData) : List PyData → PyData
  | x :: _ => f x
  | [] => .none
theorem kit_int : ∀ d : PyData, kitB (tyOf d) "int" = some (isIntD d)
  | .none => (by decide +kernel : kitB "NoneType" "int" = some false)
  | .bool _ => (by decide +kernel : kitB "bool" "int" = some true)
  | .int _ => (by decide +kernel : kitB "int" "int" = some true)
  | .str _ => (by decide +kernel : kitB "str" "int" = some false)
  | .list _ => (by decide +kernel : kitB "list" "int" = some false)
  | .tuple _ => (by decide +kernel : kitB "tuple" "int" = some false)
  | .dict _ => (by decide +kernel : kitB "dict" "int" = some false)
theorem kit_bool : ∀ d : PyData, kitB (tyOf d) "bool" = some (isBoolD d)
  | .none => (by decide +kernel : kitB "NoneType" "bool" = some false)
  | .bool _ => (by decide +kernel : kitB "bool" "bool" = some true)
  | .int _ => (by decide +kernel : kitB "int" "bool" = some false)
  | .str _ => (by decide +kernel : kitB "str" "bool" = some false)
  | .list _ => (by decide +kernel : kitB "list" "bool" = some false)
  | .tuple _ => (by decide +kernel : kitB "tuple" "bool" = some false)
  | .dict _ => (by decide +kernel : kitB "dict" "bool" = some false)
theorem kit_tuple : ∀ d : PyData, kitB (tyOf d) "tuple" = some (isTupD d)
  | .none => (by decide +kernel : kitB "NoneType" "tuple" = some false)
  | .bool _ => (by decide +kernel : kitB "bool" "tuple" = some false)
  | .int _ => (by decide +kernel : kitB "int" "tuple" = some false)
  | .str _ => (by decide +kernel : kitB "str" "tuple" = some false)
  | .list _ => (by decide +kernel : kitB "list" "tuple" = some false)
  | .tuple _ => (by decide +kernel : kitB "tuple" "tuple" = some true)
  | .dict _ => (by decide +kernel : kitB "dict" "tuple" = some false)
abbrev spF (pre : List PyData → Prop) (f : List PyData → PyData) : KSp := spP pre (fun as d => d = f as)
theorem len1 {as : List PyData} (h : as.length = 1) : ∃ x, as = [x] := match as, h with | [x], _ => ⟨x, rfl⟩
theorem len2 {as : List PyData} (h : as.length = 2) : ∃ x y, as = [x, y] := match as, h with | [x, y], _ => ⟨x, y, rfl⟩
section
variable {X : Cx} {W : Wr} {ds : List Sl} {a b : Expr} {pos : Pos}
theorem em_andB {rest : List Expr} {x y : Bool} (ha : Em X W ds a (· = .bool x)) (hb : x = true → Em X W ds (.BoolOp .And (b :: rest) pos) (· = .bool y)) : Em X W ds (.BoolOp .And (a :: b :: rest) pos) (· = .bool (x && y)) :=
  em_and ha (fun h => by rw [h]; rfl) fun h => em_is (hb h) (by rw [h]; rfl)
theorem em_orB {rest : List Expr} {x y : Bool} (ha : Em X W ds a (· = .bool x)) (hb : x = false → Em X W ds (.BoolOp .Or (b :: rest) pos) (· = .bool y)) : Em X W ds (.BoolOp .Or (a :: b :: rest) pos) (· = .bool (x || y)) :=
  em_or ha (fun h => by rw [h]; rfl) fun h => em_is (hb h) (by rw [h]; rfl)
theorem wm_orB {rest : List Expr} {x y : Bool} (ha : Tm X W ds a (· = x)) (hb : x = false → Wm X W ds (.BoolOp .Or (b :: rest) pos) (· = y)) : Wm X W ds (.BoolOp .Or (a :: b :: rest) pos) (· = (x || y)) :=
  wm_or ha (fun h => by rw [h]; rfl) fun h σ G H ok env Q q => hb h σ G H ok env Q fun z G2 H2 r e => q z G2 H2 r (by rw [e, h]; rfl)
theorem em_callF {x : Str} {k : Nat} {ps : List Str} {pre : List PyData → Prop} {g : List PyData → PyData} {as : List PyData} {d : PyData} {e : Expr} {es : List Expr} {p2 : Pos} (F : Fk X.prog X.w X.K X.mg X.base x k ps (spF pre g)) (hr : Room k X.A) (ha : Am X W ds (e :: es) (· = as)) (hp : pre as) (hd : g as = d := by rfl) (hg : Gl X x := by rfl)
    (hdb : (x == ("__debug__" : Str)) = false := by decide) (he : starEach (e :: es) X.env = (false, eval e X.env) :: starEach es X.env := by rfl) (hpl : (backTo pos (starEach es X.env)).any (·.1) = false := by rfl) : Em X W ds (.Call (.Name x p2) (e :: es) [] pos) (· = d) :=
  em_call' F hr ha (fun _ e => by rw [e]; exact ⟨hp, fun _ h => h.trans hd⟩) hg hdb he hpl
theorem tm_notB {x : Bool} (h : Tm X W ds a (· = x)) : Tm X W ds (.UnaryOp .Not a pos) (· = !x) := tm_not (tm_mono h fun _ e => by rw [e])
end
/-- the built-in names are the built-in ones -/
structure Bi (mg : Str → Option Value) : Prop where
  isi : mg "isinstance" = none
  int : mg "int" = none
  bool : mg "bool" = none
  tuple : mg "tuple" = none
  len : mg "len" = none
  abs : mg "abs" = none
  all : mg "all" = none
/-- the constants of pours -/
structure Cn (mg : Str → Option Value) : Prop where
  r : ∃ t, mg "RIGHT" = some (.str "right" t)
  l : ∃ t, mg "LEFT" = some (.str "left" t)
  p : ∃ t, mg "MOST_PART_BOTTOM" = some (.int 12 t)
  s : ∃ t, mg "MOST_SHARE_BOTTOM" = some (.int 99999999999999999999 t)
theorem boot_int : bootBuiltins "int" = some (.type "int") := by decide +kernel
theorem boot_bool : bootBuiltins "bool" = some (.type "bool") := by decide +kernel
theorem boot_tuple : bootBuiltins "tuple" = some (.type "tuple") := by decide +kernel
abbrev FnP (K : PySem.W.Frag) (x : Str) (st : Stmt) (f : Addr) (fd : FuncData) : Prop := FunD K x x (defArgs st) (defBody st) (defScope st) [] [] f fd
end Pb
namespace Pb
open PySem PySem.Spec PyProof.Rows L2 Dn
/-! ### fractions as rationals -/
theorem nd (q : Rat) : (q.num : Rat) = q * (q.den : Rat) := by
  have h : (q.den : Rat) ≠ 0 := by
    intro z
    exact q.den_nz (Rat.natCast_eq_zero_iff.mp z)
  have e : (q.num : Rat) / (q.den : Rat) = q := by
    rw [← Rat.mkRat_eq_div, Rat.mkRat_self]
  rw [← Rat.div_mul_cancel (a := (q.num : Rat)) h, e]
theorem dn (q : Rat) : (q.den : Rat) ≠ 0 := fun z => q.den_nz (Rat.natCast_eq_zero_iff.mp z)
theorem mk_div (n : Int) (d : Nat) : mkRat n d = (n : Rat) / (d : Rat) := Rat.mkRat_eq_div n d
theorem mk_right (s p : Rat) : mkRat (s.num * ((p.den : Int) - p.num)) (s.den * p.den) = s * (1 - p) := by
  rw [mk_div]
  have h1 := nd s
  have h2 := nd p
  have h3 := dn s
  have h4 := dn p
  rw [Rat.intCast_mul, Rat.intCast_sub, Rat.natCast_mul, Rat.intCast_natCast]
  grind
theorem mk_left (s q : Rat) : mkRat (s.num * (q.den : Int) + ((s.den : Int) - s.num) * q.num) (s.den * q.den) = s + (1 - s) * q := by
  rw [mk_div]
  have h1 := nd s
  have h2 := nd q
  have h3 := dn s
  have h4 := dn q
  rw [Rat.intCast_add, Rat.intCast_mul, Rat.intCast_mul, Rat.intCast_sub, Rat.natCast_mul, Rat.intCast_natCast, Rat.intCast_natCast]
  grind
theorem le_one {q : Rat} (h : q ≤ 1) : q.num ≤ q.den := by
  have := (Rat.le_iff q 1).mp h
  simpa using this
theorem lt_one {q : Rat} (h : q < 1) : q.num < q.den := by
  have := (Rat.lt_iff q 1).mp h
  simpa using this
theorem nn {q : Rat} (h : 0 ≤ q) : 0 ≤ q.num := Rat.num_nonneg.mpr h
theorem pp {q : Rat} (h : 0 < q) : 0 < q.num := by
  have := (Rat.lt_iff 0 q).mp h
  simpa using this
/-- parts as the document has them -/
structure Parts (p q : Rat) : Prop where
  p0 : 0 < p
  p1 : p < 1
  pd : p.den ≤ 12
  q0 : 0 < q
  q1 : q < 1
  qd : q.den ≤ 12
  ge : 1 ≤ p + q
structure Share (s : Rat) : Prop where
  s0 : 0 ≤ s
  s1 : s ≤ 1
  sd : s.den ≤ 99999999999999999999
theorem gcd_rt (q : Rat) : (Int.gcd q.num q.den : Int) = 1 := by
  have h : Nat.gcd q.num.natAbs q.den = 1 := q.reduced
  show ((Nat.gcd q.num.natAbs (q.den : Int).natAbs : Nat) : Int) = 1
  rw [Int.natAbs_natCast, h]
  rfl
theorem frac_rt (q : Rat) : isFracD (rt q) = true := by
  show (decide (1 ≤ (q.den : Int)) && decide ((Int.gcd q.num q.den : Int) = 1)) = true
  rw [decide_eq_true (gcd_rt q), decide_eq_true (by have := q.den_pos; omega)]
  rfl
theorem part_rt {p : Rat} (h0 : 0 < p) (h1 : p < 1) (hd : p.den ≤ 12) : isPartD (rt p) = true := by
  show (isFracD (rt p) && (decide (0 < p.num) && (decide (p.num < (p.den : Int)) && decide ((p.den : Int) ≤ 12)))) = true
  rw [frac_rt, decide_eq_true (pp h0), decide_eq_true (lt_one h1), decide_eq_true (by omega : (p.den : Int) ≤ 12)]
  rfl
theorem parts_rt {p q : Rat} (h : Parts p q) : arePartsD (.tuple [rt p, rt q]) = true := by
  show (isPartD (rt p) && (isPartD (rt q) && decide ((p.den : Int) * q.den ≤ p.num * q.den + q.num * p.den))) = true
  rw [part_rt h.p0 h.p1 h.pd, part_rt h.q0 h.q1 h.qd]
  have e := h.ge
  have h1 := nd p
  have h2 := nd q
  have z : ((p.den : Int) * q.den : Int) ≤ p.num * q.den + q.num * p.den := by
    rw [← Rat.intCast_le_intCast, Rat.intCast_add, Rat.intCast_mul, Rat.intCast_mul, Rat.intCast_mul, Rat.intCast_natCast, Rat.intCast_natCast, h1, h2]
    have a : (0 : Rat) ≤ (p.den : Rat) * (q.den : Rat) := Rat.mul_nonneg Rat.natCast_nonneg Rat.natCast_nonneg
    have b := Rat.mul_le_mul_of_nonneg_right e a
    grind
  rw [decide_eq_true z]
  rfl
theorem share_rt {s : Rat} (h : Share s) : isShareD (rt s) = true := by
  show (isFracD (rt s) && (decide (0 ≤ s.num) && (decide (s.num ≤ (s.den : Int)) && decide ((s.den : Int) ≤ 99999999999999999999)))) = true
  rw [frac_rt, decide_eq_true (nn h.s0), decide_eq_true (le_one h.s1), decide_eq_true (by have := h.sd; omega : (s.den : Int) ≤ 99999999999999999999)]
  rfl
/-! ### pours -/
inductive Pour where
  | right | left
  deriving DecidableEq
abbrev Pour.d : Pour → PyData
  | .right => .str "right"
  | .left => .str "left"
abbrev rowD (r : List Pour) : PyData := .tuple (r.map Pour.d)
theorem pour_eqv_r (x : Pour) : PyData.eqv x.d (.str "right") = decide (x = .right) := by cases x <;> decide +kernel
theorem pour_eqv_l (x : Pour) : PyData.eqv x.d (.str "left") = decide (x = .left) := by cases x <;> decide +kernel
theorem isPour_d (x : Pour) : isPourD x.d = true := by
  unfold isPourD
  rw [pour_eqv_r, pour_eqv_l]
  cases x <;> rfl
theorem row_rt {r : List Pour} (h : r.length ≤ 40) : isRowD (rowD r) = true := by
  show (decide ((r.map Pour.d).length ≤ 40) && (r.map Pour.d).all isPourD) = true
  rw [List.length_map, decide_eq_true h, List.all_map, show r.all (isPourD ∘ Pour.d) = true from List.all_eq_true.mpr fun x _ => isPour_d x]
  rfl
theorem shaped_pour (x : Pour) : SeqAt.shaped x.d = true := by cases x <;> decide +kernel
/-- one pour, a row -/
def pour1 (p q s : Rat) : Pour → Rat
  | .right => s * (1 - p)
  | .left => s + (1 - s) * q
def pours (p q : Rat) : Rat → List Pour → Rat
  | s, [] => s
  | s, x :: r => pours p q (pour1 p q s x) r
/-! ### bounds -/
theorem den_mk (n : Int) (d : Nat) (h : 0 < d) : (mkRat n d).den ≤ d := by
  rw [Rat.den_mkRat, if_neg (by omega)]
  exact Nat.div_le_self _ _
/-- from 0 to 1, bottom at most b -/
structure Bq (b : Nat) (s : Rat) : Prop where
  s0 : 0 ≤ s
  s1 : s ≤ 1
  sd : s.den ≤ b
theorem Bq.smq {b : Nat} {s : Rat} (h : Bq b s) (hb : b < 2 ^ 4000) : Smq s := by
  have h1 := nn h.s0
  have h2 := le_one h.s1
  have h3 := h.sd
  exact ⟨by omega, by omega⟩
theorem Bq.mono {b c : Nat} {s : Rat} (h : Bq b s) (hb : b ≤ c) : Bq c s := ⟨h.s0, h.s1, Nat.le_trans h.sd hb⟩
theorem Share.bq {s : Rat} (h : Share s) : Bq (10 ^ 20) s := ⟨h.s0, h.s1, Nat.le_trans h.sd (by decide)⟩
theorem Parts.sp {p q : Rat} (h : Parts p q) : Smq p := (Bq.mk (b := 12) (Rat.le_of_lt h.p0) (Rat.le_of_lt h.p1) h.pd).smq (by exact Nat.lt_of_lt_of_le (by decide : 12 < 2 ^ 4) (Nat.pow_le_pow_right (by decide) (by decide)))
theorem Parts.sq {p q : Rat} (h : Parts p q) : Smq q := (Bq.mk (b := 12) (Rat.le_of_lt h.q0) (Rat.le_of_lt h.q1) h.qd).smq (by exact Nat.lt_of_lt_of_le (by decide : 12 < 2 ^ 4) (Nat.pow_le_pow_right (by decide) (by decide)))
theorem m01 {a b : Rat} (a0 : 0 ≤ a) (a1 : a ≤ 1) (b0 : 0 ≤ b) (b1 : b ≤ 1) : 0 ≤ a * b ∧ a * b ≤ a := by
  refine ⟨Rat.mul_nonneg a0 b0, ?_⟩
  have h := Rat.mul_le_mul_of_nonneg_left b1 a0
  rwa [Rat.mul_one] at h
theorem Bq.pour {b : Nat} {p q s : Rat} (h : Bq b s) (hp : Parts p q) (x : Pour) : Bq (b * 12) (pour1 p q s x) := by
  cases x with
  | right =>
    show Bq (b * 12) (s * (1 - p))
    have p1 := Rat.le_of_lt hp.p1
    have p0 := Rat.le_of_lt hp.p0
    obtain ⟨h1, h2⟩ := m01 h.s0 h.s1 (b := 1 - p) (by grind) (by grind)
    refine ⟨h1, Rat.le_trans h2 h.s1, ?_⟩
    rw [← mk_right]
    exact Nat.le_trans (den_mk _ _ (Nat.mul_pos s.den_pos p.den_pos)) (Nat.mul_le_mul h.sd hp.pd)
  | left =>
    show Bq (b * 12) (s + (1 - s) * q)
    have q1 := Rat.le_of_lt hp.q1
    have q0 := Rat.le_of_lt hp.q0
    have s0 := h.s0
    have s1 := h.s1
    obtain ⟨h1, h2⟩ := m01 (a := 1 - s) (b := q) (by grind) (by grind) q0 q1
    refine ⟨by grind, by grind, ?_⟩
    rw [← mk_left]
    exact Nat.le_trans (den_mk _ _ (Nat.mul_pos s.den_pos q.den_pos)) (Nat.mul_le_mul h.sd hp.qd)
theorem Bq.pours {p q : Rat} (hp : Parts p q) : ∀ (r : List Pour) {b : Nat} {s : Rat}, Bq b s → Bq (b * 12 ^ r.length) (Pb.pours p q s r)
  | [], b, s, h => by
    show Bq (b * 1) s
    rw [Nat.mul_one]
    exact h
  | x :: r, b, s, h => by
    have e : b * 12 ^ (x :: r).length = b * 12 * 12 ^ r.length := by
      rw [List.length_cons, Nat.pow_succ, Nat.mul_assoc, Nat.mul_comm 12]
    rw [e]
    exact Bq.pours hp r (h.pour hp x)
theorem big {n : Nat} (h : n ≤ 900) : 10 ^ 20 * 12 ^ n < 2 ^ 4000 := by
  have a : 10 ^ 20 < 2 ^ 67 := by decide
  have b : 12 ^ n ≤ 2 ^ (4 * 900) := by
    rw [Nat.pow_mul]
    exact Nat.le_trans (Nat.pow_le_pow_left (by decide : 12 ≤ 2 ^ 4) n) (Nat.pow_le_pow_right (by decide) h)
  have c : 10 ^ 20 * 12 ^ n < 2 ^ 67 * 2 ^ (4 * 900) := Nat.mul_lt_mul_of_lt_of_le a b (Nat.pow_pos (by decide))
  rw [← Nat.pow_add] at c
  exact Nat.lt_of_lt_of_le c (Nat.pow_le_pow_right (by decide) (by decide))
theorem pours_take {p q s : Rat} {r : List Pour} {n : Nat} {x : Pour} (h : r[n]? = some x) : pours p q s (r.take (n + 1)) = pour1 p q (pours p q s (r.take n)) x := by
  induction r generalizing s n with
  | nil => simp at h
  | cons y r ih =>
    cases n with
    | zero =>
      cases h
      rfl
    | succ n => exact ih (s := pour1 p q s y) h
theorem Share.tk {p q s : Rat} (hp : Parts p q) (hs : Share s) {r : List Pour} (hr : r.length ≤ 40) (n : Nat) : Bq (10 ^ 20 * 12 ^ 40) (Pb.pours p q s (r.take n)) := by
  have h := hs.bq.pours hp (r.take n)
  refine h.mono (Nat.mul_le_mul_left _ (Nat.pow_le_pow_right (by decide) ?_))
  rw [List.length_take]
  omega
theorem row_at {r : List Pour} {n : Nat} {d : PyData} (h : (r.map Pour.d)[n]? = some d) : ∃ x, r[n]? = some x ∧ d = x.d := by
  rw [List.getElem?_map] at h
  cases e : r[n]? with
  | none =>
    rw [e] at h
    cases h
  | some x =>
    rw [e] at h
    cases h
    exact ⟨x, rfl, rfl⟩
/-! ### the law's own reckoning -/
theorem mk_add (x y : Rat) : mkRat (x.num * (y.den : Int) + y.num * (x.den : Int)) (x.den * y.den) = x + y := (Rat.add_def' x y).symm
theorem mk_sub (x y : Rat) : mkRat (x.num * (y.den : Int) - y.num * (x.den : Int)) (x.den * y.den) = x - y := (Rat.sub_def' x y).symm
theorem mk_mul (x y : Rat) : mkRat (x.num * y.num) (x.den * y.den) = x * y := (Rat.mul_def' x y).symm
theorem Bq.one_sub {b : Nat} {s : Rat} (h : Bq b s) : Bq b (1 - s) := by
  have s0 := h.s0
  have s1 := h.s1
  refine ⟨by grind, by grind, ?_⟩
  rw [← mk_sub]
  have e : (1 : Rat).den * s.den = s.den := by simp
  rw [e]
  exact Nat.le_trans (den_mk _ _ s.den_pos) h.sd
theorem Bq.times {b c : Nat} {s p : Rat} (h : Bq b s) (hp : Bq c p) : Bq (b * c) (s * p) := by
  obtain ⟨h1, h2⟩ := m01 h.s0 h.s1 hp.s0 hp.s1
  refine ⟨h1, Rat.le_trans h2 h.s1, ?_⟩
  rw [← mk_mul]
  exact Nat.le_trans (den_mk _ _ (Nat.mul_pos s.den_pos p.den_pos)) (Nat.mul_le_mul h.sd hp.sd)
theorem Parts.bp {p q : Rat} (h : Parts p q) : Bq 12 p := ⟨Rat.le_of_lt h.p0, Rat.le_of_lt h.p1, h.pd⟩
theorem Parts.bq {p q : Rat} (h : Parts p q) : Bq 12 q := ⟨Rat.le_of_lt h.q0, Rat.le_of_lt h.q1, h.qd⟩
theorem mk_pos {t : Int} {b : Nat} (h : 0 < t) (hb : 0 < b) : 0 < mkRat t b := by
  have hb' : (0 : Rat) < (b : Rat) := Rat.natCast_pos.mpr hb
  rw [mk_div, Rat.lt_div_iff hb', Rat.zero_mul]
  exact Rat.intCast_pos.mpr h
theorem mk_nn {t : Int} {b : Nat} (h : 0 ≤ t) (hb : 0 < b) : 0 ≤ mkRat t b := by
  rcases Int.lt_or_eq_of_le h with h | h
  · exact Rat.le_of_lt (mk_pos h hb)
  · rw [← h, Rat.zero_mkRat]
    exact Rat.le_refl
theorem mk_lt1 {t : Int} {b : Nat} (h : t < b) (hb : 0 < b) : mkRat t b < 1 := by
  have hb' : (0 : Rat) < (b : Rat) := Rat.natCast_pos.mpr hb
  rw [mk_div, Rat.div_lt_iff hb', Rat.one_mul, ← Rat.intCast_natCast]
  exact Rat.intCast_lt_intCast.mpr h
theorem mk_le1 {t : Int} {b : Nat} (h : t ≤ b) (hb : 0 < b) : mkRat t b ≤ 1 := by
  rcases Int.lt_or_eq_of_le h with h | h
  · exact Rat.le_of_lt (mk_lt1 h hb)
  · rw [h, mk_div, Rat.intCast_natCast]
    have hb' : (b : Rat) ≠ 0 := fun z => by
      have := Rat.natCast_eq_zero_iff.mp z
      omega
    have e : (b : Rat) / (b : Rat) = 1 := by
      rw [Rat.div_def, Rat.mul_inv_cancel _ hb']
    rw [e]
    exact Rat.le_refl
/-- one of two parts -/
structure Part (p : Rat) : Prop where
  p0 : 0 < p
  p1 : p < 1
  pd : p.den ≤ 12
theorem Part.bq {p : Rat} (h : Part p) : Bq 12 p := ⟨Rat.le_of_lt h.p0, Rat.le_of_lt h.p1, h.pd⟩
theorem Part.sm {p : Rat} (h : Part p) : Smq p := h.bq.smq (Nat.lt_of_lt_of_le (by decide : 12 < 2 ^ 4) (Nat.pow_le_pow_right (by decide) (by decide)))
theorem Part.co {p : Rat} (h : Part p) : Part (1 - p) := by
  have a := h.p0
  have b := h.p1
  exact ⟨by grind, by grind, h.bq.one_sub.sd⟩
theorem Parts.of {p q : Rat} (a : Part p) (b : Part q) (h : 1 ≤ p + q) : Parts p q := ⟨a.p0, a.p1, a.pd, b.p0, b.p1, b.pd, h⟩
theorem sm1 : Smq 1 := ⟨by show (1 : Int).natAbs < _; exact Nat.lt_of_lt_of_le (by decide : 1 < 2 ^ 1) (Nat.pow_le_pow_right (by decide) (by decide)), by show 1 < _; exact Nat.lt_of_lt_of_le (by decide : 1 < 2 ^ 1) (Nat.pow_le_pow_right (by decide) (by decide))⟩
end Pb
namespace Pb
open PySem PySem.Spec PyProof.Rows L2 Dn
/-! ### pours told back -/
def backR (p s : Rat) : Option Rat := if s ≤ 1 - p then some (s / (1 - p)) else none
def backL (q s : Rat) : Option Rat := if q ≤ s then some ((s - q) / (1 - q)) else none
abbrev Pr := List Pour × Rat
abbrev prD (x : Pr) : PyData := .tuple [.tuple (x.1.map Pour.d), .tuple [.int x.2.num, .int x.2.den]]
def oneBack (p q : Rat) (x : Pr) : List Pr := ((backR p x.2).map fun y => (Pour.right :: x.1, y)).toList ++ ((backL q x.2).map fun y => (Pour.left :: x.1, y)).toList
def backs (p q s : Rat) : Nat → List Pr
  | 0 => [([], s)]
  | n + 1 => (backs p q s n).flatMap (oneBack p q)
theorem mk_backR {p s : Rat} (h1 : p < 1) : mkRat (s.num * (p.den : Int)) (s.den * ((p.den : Int) - p.num).toNat) = s / (1 - p) := by
  have a := lt_one h1
  have hd : ((((p.den : Int) - p.num).toNat : Nat) : Rat) = (p.den : Rat) * (1 - p) := by
    rw [← Rat.intCast_natCast, Int.toNat_of_nonneg (by omega), Rat.intCast_sub, Rat.intCast_natCast, nd p]
    grind
  rw [mk_div, Rat.intCast_mul, Rat.intCast_natCast, Rat.natCast_mul, hd, nd s]
  have h3 := dn s
  have h4 := dn p
  have h5 : (1 : Rat) - p ≠ 0 := by grind
  grind
theorem mk_backL {q s : Rat} (h1 : q < 1) : mkRat (s.num * (q.den : Int) - (s.den : Int) * q.num) (s.den * ((q.den : Int) - q.num).toNat) = (s - q) / (1 - q) := by
  have a := lt_one h1
  have hd : ((((q.den : Int) - q.num).toNat : Nat) : Rat) = (q.den : Rat) * (1 - q) := by
    rw [← Rat.intCast_natCast, Int.toNat_of_nonneg (by omega), Rat.intCast_sub, Rat.intCast_natCast, nd q]
    grind
  rw [mk_div, Rat.intCast_sub, Rat.intCast_mul, Rat.intCast_mul, Rat.intCast_natCast, Rat.intCast_natCast, Rat.natCast_mul, hd, nd s, nd q]
  have h3 := dn s
  have h4 := dn q
  have h5 : (1 : Rat) - q ≠ 0 := by grind
  grind
theorem le_backR {p s : Rat} : s.num * (p.den : Int) ≤ (s.den : Int) * ((p.den : Int) - p.num) ↔ s ≤ 1 - p := by
  have hs : (0 : Rat) < (s.den : Rat) := Rat.natCast_pos.mpr s.den_pos
  have hp : (0 : Rat) < (p.den : Rat) := Rat.natCast_pos.mpr p.den_pos
  have hsp := Rat.mul_pos hs hp
  rw [← Rat.intCast_le_intCast, Rat.intCast_mul, Rat.intCast_mul, Rat.intCast_sub, Rat.intCast_natCast, Rat.intCast_natCast, nd s, nd p]
  have e1 : s * (s.den : Rat) * (p.den : Rat) = s * ((s.den : Rat) * (p.den : Rat)) := by grind
  have e2 : (s.den : Rat) * ((p.den : Rat) - p * (p.den : Rat)) = (1 - p) * ((s.den : Rat) * (p.den : Rat)) := by grind
  rw [e1, e2]
  exact ⟨fun h => Rat.le_of_mul_le_mul_right h hsp, fun h => Rat.mul_le_mul_of_nonneg_right h (Rat.le_of_lt hsp)⟩
theorem le_backL {q s : Rat} : 0 ≤ s.num * (q.den : Int) - (s.den : Int) * q.num ↔ q ≤ s := by
  rw [Rat.le_iff]
  constructor
  · intro h
    have := Int.mul_comm (s.den : Int) q.num
    omega
  · intro h
    have := Int.mul_comm (s.den : Int) q.num
    omega
theorem Bq.backR {b : Nat} {p s y : Rat} (h : Bq b s) (p0 : 0 < p) (p1 : p < 1) (pd : p.den ≤ 12) (e : Pb.backR p s = some y) : Bq (b * 12) y ∧ y * (1 - p) = s := by
  unfold Pb.backR at e
  split at e
  · rename_i hle
    cases e
    have hp : 0 < 1 - p := by grind
    have e1 : s / (1 - p) * (1 - p) = s := Rat.div_mul_cancel (by grind)
    refine ⟨⟨?_, ?_, ?_⟩, e1⟩
    · refine Rat.le_of_mul_le_mul_right (c := 1 - p) ?_ hp
      rw [e1, Rat.zero_mul]
      exact h.s0
    · refine Rat.le_of_mul_le_mul_right (c := 1 - p) ?_ hp
      rw [e1, Rat.one_mul]
      exact hle
    · rw [← mk_backR p1]
      have a := lt_one p1
      have b' := pp p0
      exact Nat.le_trans (den_mk _ _ (Nat.mul_pos s.den_pos (by omega))) (Nat.mul_le_mul h.sd (by omega))
  · cases e
theorem Bq.backL {b : Nat} {q s y : Rat} (h : Bq b s) (q0 : 0 < q) (q1 : q < 1) (qd : q.den ≤ 12) (e : Pb.backL q s = some y) : Bq (b * 12) y ∧ y + (1 - y) * q = s := by
  unfold Pb.backL at e
  split at e
  · rename_i hle
    cases e
    have hq : 0 < 1 - q := by grind
    have e1 : (s - q) / (1 - q) * (1 - q) = s - q := Rat.div_mul_cancel (by grind)
    have s1 := h.s1
    refine ⟨⟨?_, ?_, ?_⟩, ?_⟩
    · refine Rat.le_of_mul_le_mul_right (c := 1 - q) ?_ hq
      rw [e1, Rat.zero_mul]
      grind
    · refine Rat.le_of_mul_le_mul_right (c := 1 - q) ?_ hq
      rw [e1, Rat.one_mul]
      grind
    · rw [← mk_backL q1]
      have a := lt_one q1
      have b' := pp q0
      exact Nat.le_trans (den_mk _ _ (Nat.mul_pos s.den_pos (by omega))) (Nat.mul_le_mul h.sd (by omega))
    · grind
  · cases e
/-- what holds of pairs told back n pours from s -/
structure Bk (p q s : Rat) (n : Nat) (x : Pr) : Prop where
  l : x.1.length = n
  b : Bq (10 ^ 20 * 12 ^ n) x.2
  e : pours p q x.2 x.1 = s
theorem Bk.one {p q s : Rat} {n : Nat} {x y : Pr} (hp : Parts p q) (h : Bk p q s n x) (hy : y ∈ oneBack p q x) : Bk p q s (n + 1) y := by
  have eb : 10 ^ 20 * 12 ^ (n + 1) = 10 ^ 20 * 12 ^ n * 12 := by rw [show 12 ^ (n + 1) = 12 ^ n * 12 from Nat.pow_succ .., Nat.mul_assoc]
  unfold oneBack at hy
  rcases List.mem_append.mp hy with hy | hy
  · cases e : Pb.backR p x.2 with
    | none =>
      rw [e] at hy
      cases hy
    | some z =>
      rw [e] at hy
      have : y = (Pour.right :: x.1, z) := by simpa using hy
      subst this
      obtain ⟨h1, h2⟩ := h.b.backR hp.p0 hp.p1 hp.pd e
      refine ⟨by rw [List.length_cons, h.l], by rw [eb]; exact h1, ?_⟩
      show pours p q (z * (1 - p)) x.1 = s
      rw [h2]
      exact h.e
  · cases e : Pb.backL q x.2 with
    | none =>
      rw [e] at hy
      cases hy
    | some z =>
      rw [e] at hy
      have : y = (Pour.left :: x.1, z) := by simpa using hy
      subst this
      obtain ⟨h1, h2⟩ := h.b.backL hp.q0 hp.q1 hp.qd e
      refine ⟨by rw [List.length_cons, h.l], by rw [eb]; exact h1, ?_⟩
      show pours p q (z + (1 - z) * q) x.1 = s
      rw [h2]
      exact h.e
theorem backs_bk {p q s : Rat} (hp : Parts p q) (hs : Bq (10 ^ 20) s) : ∀ n, ∀ x ∈ backs p q s n, Bk p q s n x
  | 0, x, hx => by
    have : x = ([], s) := by simpa [backs] using hx
    subst this
    exact ⟨rfl, hs.mono (by decide), rfl⟩
  | n + 1, x, hx => by
    obtain ⟨y, hy, h⟩ := List.mem_flatMap.mp (show x ∈ (backs p q s n).flatMap (oneBack p q) from hx)
    exact (backs_bk hp hs n y hy).one hp h
/-- one pair at most, or a fork from 1 and 0 -/
def Fork (p q : Rat) (l : List Pr) : Prop := l.length ≤ 1 ∨ ∃ a b, l = [(a, 1), (b, 0)] ∧ p + q = 1
theorem oneBack_1 {p q : Rat} (hp : Parts p q) (a : List Pour) : oneBack p q (a, 1) = [(Pour.left :: a, 1)] := by
  have p0 := hp.p0
  have q1 := hp.q1
  have e1 : backR p 1 = none := if_neg (by grind)
  have e2 : backL q 1 = some 1 := by
    unfold backL
    rw [if_pos (Rat.le_of_lt q1)]
    congr 1
    have h5 : (1 : Rat) - q ≠ 0 := by grind
    rw [Rat.div_def, Rat.mul_inv_cancel _ h5]
  unfold oneBack
  rw [e1, e2]
  rfl
theorem oneBack_0 {p q : Rat} (hp : Parts p q) (a : List Pour) : oneBack p q (a, 0) = [(Pour.right :: a, 0)] := by
  have p1 := hp.p1
  have q0 := hp.q0
  have e1 : backR p 0 = some 0 := by
    unfold backR
    rw [if_pos (by grind), Rat.div_def, Rat.zero_mul]
  have e2 : backL q 0 = none := if_neg (by grind)
  unfold oneBack
  rw [e1, e2]
  rfl
theorem oneBack_fork {p q : Rat} (hp : Parts p q) (x : Pr) : Fork p q (oneBack p q x) := by
  by_cases h1 : x.2 ≤ 1 - p
  · by_cases h2 : q ≤ x.2
    · have hg := hp.ge
      have e : p + q = 1 := by grind
      have ex : x.2 = 1 - p := by grind
      have eq' : x.2 = q := by grind
      have p1 := hp.p1
      have e1 : backR p x.2 = some 1 := by
        unfold backR
        rw [if_pos h1, ex]
        have h5 : (1 : Rat) - p ≠ 0 := by grind
        rw [Rat.div_def, Rat.mul_inv_cancel _ h5]
      have e2 : backL q x.2 = some 0 := by
        unfold backL
        rw [if_pos h2, eq', show q - q = 0 by grind, Rat.div_def, Rat.zero_mul]
      refine .inr ⟨Pour.right :: x.1, Pour.left :: x.1, ?_, e⟩
      unfold oneBack
      rw [e1, e2]
      rfl
    · refine .inl ?_
      unfold oneBack
      rw [show backL q x.2 = none from if_neg h2, List.length_append]
      cases backR p x.2 <;> simp
  · refine .inl ?_
    unfold oneBack
    rw [show backR p x.2 = none from if_neg h1, List.length_append]
    cases backL q x.2 <;> simp
theorem backs_fork {p q s : Rat} (hp : Parts p q) : ∀ n, Fork p q (backs p q s n)
  | 0 => .inl (Nat.le_refl _)
  | n + 1 => by
    show Fork p q ((backs p q s n).flatMap (oneBack p q))
    rcases backs_fork (s := s) hp n with h | ⟨a, b, h, e⟩
    · cases hb : backs p q s n with
      | nil => exact .inl (by simp)
      | cons x l =>
        rw [hb] at h
        have hl : l = [] := List.eq_nil_of_length_eq_zero (by rw [List.length_cons] at h; omega)
        subst hl
        rw [List.flatMap_cons, List.flatMap_nil, List.append_nil]
        exact oneBack_fork hp x
    · rw [h, List.flatMap_cons, List.flatMap_cons, List.flatMap_nil, oneBack_1 hp, oneBack_0 hp]
      exact .inr ⟨Pour.left :: a, Pour.right :: b, rfl, e⟩
theorem Fork.len {p q : Rat} {l : List Pr} (h : Fork p q l) : l.length ≤ 2 := by
  rcases h with h | ⟨a, b, h, _⟩
  · omega
  · rw [h]
    exact Nat.le_refl _
theorem oneBack_len {p q : Rat} (x : Pr) : (oneBack p q x).length ≤ 2 := by
  unfold oneBack
  rw [List.length_append]
  cases backR p x.2 <;> cases backL q x.2 <;> simp
/-- the fewest pours from s to t, at most 40 -/
def atN (p q s t : Rat) (n : Nat) : Option (List Pour) := ((backs p q t n).find? fun x => decide (x.2 = s)).map (·.1)
def fewest (p q s t : Rat) : Option (List Pour) := (List.range 41).findSome? (atN p q s t)
abbrev fewD : Option (List Pour) → PyData
  | some r => rowD r
  | none => .none
def unseenD (p q s t : Rat) (r : List Pour) (i : Nat) : PyData := if pours p q s (r.set i .right) = t then .str "right" else if pours p q s (r.set i .left) = t then .str "left" else .none
end Pb
namespace Pb
open PySem PySem.Spec PyProof.Rows L2 Dn
/-! ### rows back: just those that led there -/
theorem oneBack_mem {p q s : Rat} (hp : Parts p q) (s0 : 0 ≤ s) (s1 : s ≤ 1) (x : Pour) (r : List Pour) : (x :: r, s) ∈ oneBack p q (r, pour1 p q s x) := by
  unfold oneBack
  cases x with
  | right =>
    refine List.mem_append.mpr (.inl ?_)
    have p1 := hp.p1
    have h0 : (0 : Rat) ≤ 1 - p := by grind
    have hle : s * (1 - p) ≤ 1 - p := by
      have := Rat.mul_le_mul_of_nonneg_right s1 h0
      rwa [Rat.one_mul] at this
    have e : backR p (s * (1 - p)) = some s := by
      unfold backR
      rw [if_pos hle, Rat.mul_div_cancel (by grind)]
    show (Pour.right :: r, s) ∈ ((backR p (s * (1 - p))).map fun y => (Pour.right :: r, y)).toList
    rw [e]
    simp
  | left =>
    refine List.mem_append.mpr (.inr ?_)
    have q1 := hp.q1
    have h0 : (0 : Rat) ≤ 1 - q := by grind
    have hle : q ≤ s + (1 - s) * q := by
      have := Rat.mul_nonneg s0 h0
      grind
    have e : backL q (s + (1 - s) * q) = some s := by
      unfold backL
      rw [if_pos hle, show s + (1 - s) * q - q = s * (1 - q) by grind, Rat.mul_div_cancel (by grind)]
    show (Pour.left :: r, s) ∈ ((backL q (s + (1 - s) * q)).map fun y => (Pour.left :: r, y)).toList
    rw [e]
    simp
theorem backs_mem {p q : Rat} (hp : Parts p q) : ∀ (r : List Pour) {b : Nat} {s : Rat}, Bq b s → (r, s) ∈ backs p q (pours p q s r) r.length
  | [], b, s, h => by
    show ([], s) ∈ [([], s)]
    simp
  | x :: r, b, s, h => by
    have ih := backs_mem hp r (h.pour hp x)
    exact List.mem_flatMap.mpr ⟨_, ih, oneBack_mem hp h.s0 h.s1 x r⟩
theorem atN_some {p q s t : Rat} {n : Nat} {r : List Pour} (h : atN p q s t n = some r) : (r, s) ∈ backs p q t n := by
  unfold atN at h
  cases e : (backs p q t n).find? fun x => decide (x.2 = s) with
  | none =>
    rw [e] at h
    cases h
  | some x =>
    rw [e] at h
    have h1 := List.mem_of_find?_eq_some e
    have h2 := List.find?_some e
    have h2 : x.2 = s := by simpa using h2
    have h3 : x.1 = r := by simpa using h
    rw [← h2, ← h3]
    exact h1
theorem atN_none {p q s t : Rat} {n : Nat} (h : atN p q s t n = none) : ∀ x ∈ backs p q t n, x.2 ≠ s := by
  unfold atN at h
  have h : (backs p q t n).find? (fun x => decide (x.2 = s)) = none := by simpa using h
  intro x hx
  have := List.find?_eq_none.mp h x hx
  simpa using this
/-- the fewest pours, where a row leads there -/
theorem few_found {p q s : Rat} {n : Nat} (f : Nat → Option (List Pour)) : ∀ n, (∃ m, m ≤ n ∧ f m ≠ none) → ∃ m r, m ≤ n ∧ f m = some r ∧ ∀ k, k < m → f k = none
  | 0, ⟨m, hm, h⟩ => by
    have : m = 0 := by omega
    subst this
    cases e : f 0 with
    | none => exact absurd e h
    | some r => exact ⟨0, r, Nat.le_refl _, e, fun k hk => absurd hk (by omega)⟩
  | n + 1, ⟨m, hm, h⟩ => by
    by_cases z : ∃ m, m ≤ n ∧ f m ≠ none
    · obtain ⟨m', r, h1, h2, h3⟩ := few_found (p := p) (q := q) (s := s) (n := n) f n z
      exact ⟨m', r, by omega, h2, h3⟩
    · have hall : ∀ k, k ≤ n → f k = none := fun k hk => by
        cases e : f k with
        | none => rfl
        | some r => exact absurd ⟨k, hk, by rw [e]; exact fun z => nomatch z⟩ z
      have : m = n + 1 := by
        by_cases hm2 : m ≤ n
        · exact absurd (hall m hm2) h
        · omega
      subst this
      cases e : f (n + 1) with
      | none => exact absurd e h
      | some r => exact ⟨n + 1, r, Nat.le_refl _, e, fun k hk => hall k (by omega)⟩
theorem atN_of_mem {p q s t : Rat} {n : Nat} {r : List Pour} (h : (r, s) ∈ backs p q t n) : atN p q s t n ≠ none := fun z => atN_none z _ h rfl
/-! ### unlike pours, unlike ends -/
theorem pours_lt {p q : Rat} (hp : Parts p q) : ∀ (r : List Pour) {s t : Rat}, s < t → pours p q s r < pours p q t r
  | [], s, t, h => h
  | x :: r, s, t, h => by
    refine pours_lt hp r ?_
    cases x with
    | right =>
      have p1 := hp.p1
      exact Rat.mul_lt_mul_of_pos_right h (by grind)
    | left =>
      have q1 := hp.q1
      have a := Rat.mul_lt_mul_of_pos_right h (show 0 < 1 - q by grind)
      show s + (1 - s) * q < t + (1 - t) * q
      grind
theorem pours_app (p q : Rat) : ∀ (a b : List Pour) (s : Rat), pours p q s (a ++ b) = pours p q (pours p q s a) b
  | [], b, s => rfl
  | x :: a, b, s => pours_app p q a b (pour1 p q s x)
theorem pour_rl {p q s : Rat} (hp : Parts p q) (s0 : 0 ≤ s) (s1 : s ≤ 1) : pour1 p q s .right < pour1 p q s .left := by
  have p0 := hp.p0
  have q0 := hp.q0
  show s * (1 - p) < s + (1 - s) * q
  have a := Rat.mul_nonneg s0 (Rat.le_of_lt p0)
  have b := Rat.mul_nonneg (show 0 ≤ 1 - s by grind) (Rat.le_of_lt q0)
  by_cases h : s = 0
  · subst h
    grind
  · have hs : 0 < s := by grind
    have := Rat.mul_pos hs p0
    grind
theorem set_lt {p q s : Rat} {b : Nat} (hp : Parts p q) (hs : Bq b s) {r : List Pour} {i : Nat} (hi : i < r.length) : pours p q s (r.set i .right) < pours p q s (r.set i .left) := by
  have e : ∀ x, r.set i x = r.take i ++ (x :: r.drop (i + 1)) := fun x => by
    rw [List.set_eq_take_append_cons_drop, if_pos hi]
  rw [e, e, pours_app, pours_app]
  have b1 := hs.pours hp (r.take i)
  exact pours_lt hp _ (pour_rl hp b1.s0 b1.s1)
theorem unseen_is {p q s : Rat} {b : Nat} (hp : Parts p q) (hs : Bq b s) {r : List Pour} {i : Nat} {x : Pour} (h : r[i]? = some x) : unseenD p q s (pours p q s r) r i = x.d := by
  obtain ⟨hi, e⟩ := List.getElem?_eq_some_iff.mp h
  have lt := set_lt hp hs hi
  have es : r.set i x = r := by
    rw [← e]
    exact List.set_getElem_self hi
  unfold unseenD
  cases x with
  | right =>
    rw [es, if_pos rfl]
  | left =>
    rw [es] at lt
    rw [if_neg (Rat.ne_of_lt lt), es, if_pos rfl]
/-! ### what lies between, the fork, the corners -/
theorem between {p q a : Rat} (h1 : 1 - p < a) (h2 : a < q) : ∀ n, backs p q a (n + 1) = []
  | 0 => by
    show [([], a)].flatMap (oneBack p q) = []
    rw [List.flatMap_cons, List.flatMap_nil, List.append_nil]
    unfold oneBack
    rw [show backR p a = none from if_neg (by grind), show backL q a = none from if_neg (by grind)]
    rfl
  | n + 1 => by
    show (backs p q a (n + 1)).flatMap (oneBack p q) = []
    rw [between h1 h2 n]
    rfl
theorem between_few {p q a : Rat} (h1 : 1 - p < a) (h2 : a < q) (h0 : a ≠ 0) : fewest p q 0 a = none := by
  unfold fewest
  refine List.findSome?_eq_none_iff.mpr fun m _ => ?_
  cases m with
  | zero =>
    unfold atN
    show (List.find? (fun x : Pr => decide (x.2 = 0)) [([], a)]).map _ = none
    rw [List.find?_cons, decide_eq_false h0]
    rfl
  | succ m =>
    unfold atN
    rw [between h1 h2 m]
    rfl
theorem forked {p q : Rat} (hp : Parts p q) (h : 1 - p = q) : ∀ n, ∃ a b, backs p q (1 - p) (n + 1) = [(a, 1), (b, 0)]
  | 0 => by
    have p1 := hp.p1
    have e1 : backR p (1 - p) = some 1 := by
      unfold backR
      rw [if_pos Rat.le_refl]
      have h5 : (1 : Rat) - p ≠ 0 := by grind
      rw [Rat.div_def, Rat.mul_inv_cancel _ h5]
    have e2 : backL q (1 - p) = some 0 := by
      unfold backL
      rw [if_pos (by rw [h]; exact Rat.le_refl), h, show q - q = 0 by grind, Rat.div_def, Rat.zero_mul]
    refine ⟨[.right], [.left], ?_⟩
    show [([], 1 - p)].flatMap (oneBack p q) = _
    rw [List.flatMap_cons, List.flatMap_nil, List.append_nil]
    unfold oneBack
    rw [e1, e2]
    rfl
  | n + 1 => by
    obtain ⟨a, b, e⟩ := forked hp h n
    refine ⟨Pour.left :: a, Pour.right :: b, ?_⟩
    show (backs p q (1 - p) (n + 1)).flatMap (oneBack p q) = _
    rw [e, List.flatMap_cons, List.flatMap_cons, List.flatMap_nil, oneBack_1 hp, oneBack_0 hp]
    rfl
theorem corner0 {p q : Rat} (hp : Parts p q) : ∀ n, backs p q 0 n = [(List.replicate n .right, 0)]
  | 0 => rfl
  | n + 1 => by
    show (backs p q 0 n).flatMap (oneBack p q) = _
    rw [corner0 hp n, List.flatMap_cons, List.flatMap_nil, List.append_nil, oneBack_0 hp]
    rfl
theorem corner1 {p q : Rat} (hp : Parts p q) : ∀ n, backs p q 1 n = [(List.replicate n .left, 1)]
  | 0 => rfl
  | n + 1 => by
    show (backs p q 1 n).flatMap (oneBack p q) = _
    rw [corner1 hp n, List.flatMap_cons, List.flatMap_nil, List.append_nil, oneBack_1 hp]
    rfl
theorem mk_mid (l h : Rat) : mkRat (l.num * (h.den : Int) + h.num * (l.den : Int)) (2 * l.den * h.den) = (l + h) / 2 := by
  rw [mk_div, Rat.intCast_add, Rat.intCast_mul, Rat.intCast_mul, Rat.intCast_natCast, Rat.intCast_natCast, Rat.natCast_mul, Rat.natCast_mul, nd l, nd h]
  have h3 := dn l
  have h4 := dn h
  have e : ((2 : Nat) : Rat) = 2 := rfl
  rw [e]
  grind
end Pb
namespace Pb
open PySem PySem.Spec PyProof.Rows L2 Dn
/-! ### rows in the order of their ends -/
theorem pour1_lt {p q s t : Rat} (hp : Parts p q) (h : s < t) (x : Pour) : pour1 p q s x < pour1 p q t x := by
  cases x with
  | right =>
    have p1 := hp.p1
    exact Rat.mul_lt_mul_of_pos_right h (by grind)
  | left =>
    have q1 := hp.q1
    have a := Rat.mul_lt_mul_of_pos_right h (show 0 < 1 - q by grind)
    show s + (1 - s) * q < t + (1 - t) * q
    grind
theorem pour1_le {p q s t : Rat} (hp : Parts p q) (h : s ≤ t) (x : Pour) : pour1 p q s x ≤ pour1 p q t x := by
  by_cases e : s = t
  · rw [e]
    exact Rat.le_refl
  · exact Rat.le_of_lt (pour1_lt hp (Rat.lt_of_le_of_ne h e) x)
theorem pours_le {p q : Rat} (hp : Parts p q) : ∀ (r : List Pour) {s t : Rat}, s ≤ t → pours p q s r ≤ pours p q t r
  | [], s, t, h => h
  | x :: r, s, t, h => pours_le hp r (pour1_le hp h x)
/-- read from the last pour back -/
def pb (p q s : Rat) : List Pour → Rat
  | [] => s
  | x :: R => pour1 p q (pb p q s R) x
theorem pb_rev (p q s : Rat) (r : List Pour) : pours p q s r = pb p q s r.reverse := by
  have h : ∀ R : List Pour, pours p q s R.reverse = pb p q s R := by
    intro R
    induction R with
    | nil => rfl
    | cons x R ih =>
      rw [List.reverse_cons, pours_app, ih]
      rfl
  rw [← h, List.reverse_reverse]
theorem pb_01 {p q s : Rat} (hp : Parts p q) (s0 : 0 ≤ s) (s1 : s ≤ 1) : ∀ R, 0 ≤ pb p q s R ∧ pb p q s R ≤ 1 ∧ (pb p q s R = 1 → s = 1) ∧ (pb p q s R = 0 → s = 0)
  | [] => ⟨s0, s1, fun h => h, fun h => h⟩
  | x :: R => by
    obtain ⟨a, b, c, d⟩ := pb_01 hp s0 s1 R
    have p0 := hp.p0
    have p1 := hp.p1
    have q0 := hp.q0
    have q1 := hp.q1
    cases x with
    | right =>
      show 0 ≤ pb p q s R * (1 - p) ∧ pb p q s R * (1 - p) ≤ 1 ∧ (pb p q s R * (1 - p) = 1 → s = 1) ∧ (pb p q s R * (1 - p) = 0 → s = 0)
      obtain ⟨h1, h2⟩ := m01 a b (b := 1 - p) (by grind) (by grind)
      have h3 : pb p q s R * (1 - p) ≤ 1 - p := by
        have := Rat.mul_le_mul_of_nonneg_right b (show 0 ≤ 1 - p by grind)
        rwa [Rat.one_mul] at this
      refine ⟨h1, by grind, fun h => by grind, fun h => d ?_⟩
      rcases Rat.mul_eq_zero.mp h with z | z
      · exact z
      · grind
    | left =>
      show 0 ≤ pb p q s R + (1 - pb p q s R) * q ∧ pb p q s R + (1 - pb p q s R) * q ≤ 1 ∧ (pb p q s R + (1 - pb p q s R) * q = 1 → s = 1) ∧ (pb p q s R + (1 - pb p q s R) * q = 0 → s = 0)
      obtain ⟨h1, h2⟩ := m01 (a := 1 - pb p q s R) (b := q) (by grind) (by grind) (by grind) (by grind)
      refine ⟨by grind, by grind, fun h => c ?_, fun h => ?_⟩
      · have e : (1 - pb p q s R) * (1 - q) = 0 := by grind
        rcases Rat.mul_eq_zero.mp e with z | z
        · grind
        · grind
      · have e : pb p q s R = 0 := by grind
        exact d e
theorem pb_rl {p q s : Rat} (hp : Parts p q) (s0 : 0 ≤ s) (s1 : s ≤ 1) (R O : List Pour) : pb p q s (.right :: R) < pb p q s (.left :: O) := by
  obtain ⟨a, b, c, d⟩ := pb_01 hp s0 s1 R
  obtain ⟨a', b', c', d'⟩ := pb_01 hp s0 s1 O
  have p0 := hp.p0
  have p1 := hp.p1
  have q0 := hp.q0
  have q1 := hp.q1
  have hg := hp.ge
  show pb p q s R * (1 - p) < pb p q s O + (1 - pb p q s O) * q
  have h1 : pb p q s R * (1 - p) ≤ 1 - p := by
    have := Rat.mul_le_mul_of_nonneg_right b (show 0 ≤ 1 - p by grind)
    rwa [Rat.one_mul] at this
  have h2 : 0 ≤ pb p q s O * (1 - q) := Rat.mul_nonneg a' (by grind)
  by_cases e : pb p q s R = 1
  · have es := c e
    have h3 : pb p q s O ≠ 0 := fun z => by
      have := d' z
      grind
    have h4 : 0 < pb p q s O := Rat.lt_of_le_of_ne a' (Ne.symm h3)
    have := Rat.mul_pos h4 (show 0 < 1 - q by grind)
    grind
  · have h5 : pb p q s R < 1 := Rat.lt_of_le_of_ne b e
    have := Rat.mul_lt_mul_of_pos_right h5 (show 0 < 1 - p by grind)
    grind
def bit : Pour → PyData
  | .right => .bool false
  | .left => .bool true
def ltR (R O : List Pour) : Bool := PySem.W.dataLt (.list (R.map bit)) (.list (O.map bit))
theorem ltR_cons (x y : Pour) (R O : List Pour) : ltR (x :: R) (y :: O) = match x, y with
  | .right, .left => true
  | .left, .right => false
  | _, _ => ltR R O := by
  unfold ltR
  rw [PySem.W.dataLt_list, PySem.W.dataLt_list]
  cases x <;> cases y
  · exact PySem.W.dataLt_all_yes (x := .bool false) (y := .bool false) rfl rfl
  · exact (PySem.W.dataLt_all_no (x := .bool false) (y := .bool true) rfl rfl).trans (by rw [PySem.W.dataLt_bool]; rfl)
  · exact (PySem.W.dataLt_all_no (x := .bool true) (y := .bool false) rfl rfl).trans (by rw [PySem.W.dataLt_bool]; rfl)
  · exact PySem.W.dataLt_all_yes (x := .bool true) (y := .bool true) rfl rfl
theorem in_order {p q s : Rat} (hp : Parts p q) (s0 : 0 ≤ s) (s1 : s ≤ 1) : ∀ R O : List Pour, R.length = O.length → R = O ∨ (R ≠ O ∧ pb p q s R < pb p q s O ∧ ltR R O = true) ∨ (R ≠ O ∧ pb p q s O < pb p q s R ∧ ltR R O = false)
  | [], [], _ => .inl rfl
  | [], _ :: _, h => by cases h
  | _ :: _, [], h => by cases h
  | x :: R, y :: O, h => by
    have ih := in_order hp s0 s1 R O (Nat.succ.inj h)
    have same : ∀ z, (z :: R = z :: O) ∨ (z :: R ≠ z :: O ∧ pb p q s (z :: R) < pb p q s (z :: O) ∧ ltR R O = true) ∨ (z :: R ≠ z :: O ∧ pb p q s (z :: O) < pb p q s (z :: R) ∧ ltR R O = false) := fun z => by
      rcases ih with e | ⟨e, h1, h2⟩ | ⟨e, h1, h2⟩
      · exact .inl (by rw [e])
      · exact .inr (.inl ⟨fun w => e (List.cons.inj w).2, pour1_lt hp h1 z, h2⟩)
      · exact .inr (.inr ⟨fun w => e (List.cons.inj w).2, pour1_lt hp h1 z, h2⟩)
    rw [ltR_cons]
    cases x <;> cases y
    · exact same .right
    · exact .inr (.inl ⟨(fun w => nomatch (List.cons.inj w).1), pb_rl hp s0 s1 R O, rfl⟩)
    · exact .inr (.inr ⟨(fun w => nomatch (List.cons.inj w).1), pb_rl hp s0 s1 O R, rfl⟩)
    · exact same .left
/-! ### what is between two shares -/
def slope (p q : Rat) : List Pour → Rat
  | [] => 1
  | .right :: r => (1 - p) * slope p q r
  | .left :: r => (1 - q) * slope p q r
theorem pours_gap (p q : Rat) : ∀ (r : List Pour) (s t : Rat), pours p q t r - pours p q s r = (t - s) * slope p q r
  | [], s, t => by
    show t - s = (t - s) * 1
    rw [Rat.mul_one]
  | .right :: r, s, t => by
    show pours p q (t * (1 - p)) r - pours p q (s * (1 - p)) r = (t - s) * ((1 - p) * slope p q r)
    rw [pours_gap p q r]
    grind
  | .left :: r, s, t => by
    show pours p q (t + (1 - t) * q) r - pours p q (s + (1 - s) * q) r = (t - s) * ((1 - q) * slope p q r)
    rw [pours_gap p q r]
    grind
def slope1 (p q : Rat) : Pour → Rat
  | .right => 1 - p
  | .left => 1 - q
theorem slope_take {p q : Rat} : ∀ {r : List Pour} {n : Nat} {x : Pour}, r[n]? = some x → slope p q (r.take (n + 1)) = slope p q (r.take n) * slope1 p q x
  | [], n, x, h => by simp at h
  | y :: r, 0, x, h => by
    cases h
    cases y with
    | right =>
      show (1 - p) * 1 = 1 * (1 - p)
      grind
    | left =>
      show (1 - q) * 1 = 1 * (1 - q)
      grind
  | y :: r, n + 1, x, h => by
    have ih := slope_take (p := p) (q := q) (r := r) (n := n) (x := x) h
    cases y with
    | right =>
      show (1 - p) * slope p q (r.take (n + 1)) = (1 - p) * slope p q (r.take n) * slope1 p q x
      rw [ih]
      grind
    | left =>
      show (1 - q) * slope p q (r.take (n + 1)) = (1 - q) * slope p q (r.take n) * slope1 p q x
      rw [ih]
      grind
/-! ### so many to the left -/
theorem swap_le {p q s : Rat} (hp : Parts p q) : pour1 p q (pour1 p q s .left) .right ≤ pour1 p q (pour1 p q s .right) .left := by
  show (s + (1 - s) * q) * (1 - p) ≤ s * (1 - p) + (1 - s * (1 - p)) * q
  have := Rat.mul_nonneg (Rat.le_of_lt hp.p0) (Rat.le_of_lt hp.q0)
  grind
theorem past_lefts {p q : Rat} (hp : Parts p q) : ∀ (k : Nat) (s : Rat) (t : List Pour), pours p q s (List.replicate k .left ++ .right :: t) ≤ pours p q s (.right :: (List.replicate k .left ++ t))
  | 0, s, t => Rat.le_refl
  | k + 1, s, t => by
    show pours p q (pour1 p q s .left) (List.replicate k .left ++ .right :: t) ≤ pours p q (pour1 p q (pour1 p q s .right) .left) (List.replicate k .left ++ t)
    exact Rat.le_trans (past_lefts hp k (pour1 p q s .left) t) (pours_le hp _ (swap_le hp))
theorem past_rights {p q : Rat} (hp : Parts p q) : ∀ (k : Nat) (s : Rat) (t : List Pour), pours p q s (.left :: (List.replicate k .right ++ t)) ≤ pours p q s (List.replicate k .right ++ .left :: t)
  | 0, s, t => Rat.le_refl
  | k + 1, s, t => by
    show pours p q (pour1 p q (pour1 p q s .left) .right) (List.replicate k .right ++ t) ≤ pours p q (pour1 p q s .right) (List.replicate k .right ++ .left :: t)
    exact Rat.le_trans (pours_le hp _ (swap_le hp)) (past_rights hp k (pour1 p q s .right) t)
theorem low_le {p q : Rat} (hp : Parts p q) : ∀ (r : List Pour) (s : Rat), pours p q s (List.replicate (r.count .left) .left ++ List.replicate (r.length - r.count .left) .right) ≤ pours p q s r
  | [], s => Rat.le_refl
  | .left :: r, s => by
    rw [List.count_cons_self, List.length_cons, Nat.add_sub_add_right]
    exact low_le hp r (pour1 p q s .left)
  | .right :: r, s => by
    have hc : r.count Pour.left ≤ r.length := List.count_le_length
    rw [List.count_cons_of_ne (by decide), List.length_cons, show r.length + 1 - r.count Pour.left = (r.length - r.count Pour.left) + 1 by omega, List.replicate_succ]
    exact Rat.le_trans (past_lefts hp _ _ _) (low_le hp r (pour1 p q s .right))
theorem le_high {p q : Rat} (hp : Parts p q) : ∀ (r : List Pour) (s : Rat), pours p q s r ≤ pours p q s (List.replicate (r.length - r.count .left) .right ++ List.replicate (r.count .left) .left)
  | [], s => Rat.le_refl
  | .right :: r, s => by
    have hc : r.count Pour.left ≤ r.length := List.count_le_length
    rw [List.count_cons_of_ne (by decide), List.length_cons, show r.length + 1 - r.count Pour.left = (r.length - r.count Pour.left) + 1 by omega, List.replicate_succ]
    exact le_high hp r (pour1 p q s .right)
  | .left :: r, s => by
    rw [List.count_cons_self, List.length_cons, Nat.add_sub_add_right, List.replicate_succ]
    exact Rat.le_trans (le_high hp r (pour1 p q s .left)) (past_rights hp _ _ _)
end Pb
namespace Pb
open PySem PySem.Spec PyProof.Rows L2 Dn
/-! ### rows in order: how many, which, the so-manieth (rows read from the last pour back) -/
def dcl : Option Int → Option Int
  | none => none
  | some l => some (l - 1)
def cnt : Nat → Option Int → Nat
  | 0, none => 1
  | 0, some l => if l = 0 then 1 else 0
  | n + 1, L => cnt n L + cnt n (dcl L)
def Fit : Option Int → List Pour → Prop
  | none, _ => True
  | some l, R => (R.count .left : Int) = l
theorem fit_right {L : Option Int} {R : List Pour} : Fit L (.right :: R) ↔ Fit L R := by
  cases L with
  | none => exact Iff.rfl
  | some l =>
    show ((List.count Pour.left (Pour.right :: R) : Nat) : Int) = l ↔ _
    rw [List.count_cons_of_ne (by decide)]
    exact Iff.rfl
theorem fit_left {L : Option Int} {R : List Pour} : Fit L (.left :: R) ↔ Fit (dcl L) R := by
  cases L with
  | none => exact Iff.rfl
  | some l =>
    show ((List.count Pour.left (Pour.left :: R) : Nat) : Int) = l ↔ ((List.count Pour.left R : Nat) : Int) = l - 1
    rw [List.count_cons_self]
    omega
def numR : List Pour → Option Int → Nat
  | [], _ => 0
  | .right :: R, L => numR R L
  | .left :: R, L => cnt R.length L + numR R (dcl L)
theorem num_lt : ∀ (R : List Pour) {L : Option Int}, Fit L R → numR R L < cnt R.length L
  | [], L, h => by
    cases L with
    | none => exact Nat.one_pos
    | some l =>
      have e : l = 0 := by
        have : ((0 : Nat) : Int) = l := h
        omega
      subst e
      exact Nat.one_pos
  | .right :: R, L, h => Nat.lt_of_lt_of_le (num_lt R (fit_right.mp h)) (Nat.le_add_right _ _)
  | .left :: R, L, h => Nat.add_lt_add_left (num_lt R (fit_left.mp h)) _
def nthR : Nat → Option Int → Nat → List Pour
  | 0, _, _ => []
  | n + 1, L, k => if k < cnt n L then .right :: nthR n L k else .left :: nthR n (dcl L) (k - cnt n L)
theorem nth_ok : ∀ (n : Nat) {L : Option Int} {k : Nat}, k < cnt n L → (nthR n L k).length = n ∧ Fit L (nthR n L k) ∧ numR (nthR n L k) L = k
  | 0, L, k, h => by
    cases L with
    | none =>
      have : k < 1 := h
      exact ⟨rfl, trivial, by show 0 = k; omega⟩
    | some l =>
      have h : k < if l = 0 then 1 else 0 := h
      by_cases e : l = 0
      · rw [if_pos e] at h
        exact ⟨rfl, by show ((0 : Nat) : Int) = l; omega, by show 0 = k; omega⟩
      · rw [if_neg e] at h
        omega
  | n + 1, L, k, h => by
    unfold nthR
    have h : k < cnt n L + cnt n (dcl L) := h
    by_cases c : k < cnt n L
    · rw [if_pos c]
      obtain ⟨h1, h2, h3⟩ := nth_ok n c
      exact ⟨by rw [List.length_cons, h1], fit_right.mpr h2, h3⟩
    · rw [if_neg c]
      obtain ⟨h1, h2, h3⟩ := nth_ok n (L := dcl L) (k := k - cnt n L) (by omega)
      refine ⟨by rw [List.length_cons, h1], fit_left.mpr h2, ?_⟩
      show cnt (nthR n (dcl L) (k - cnt n L)).length L + numR _ _ = k
      rw [h1, h3]
      omega
theorem nth_num : ∀ (R : List Pour) {L : Option Int}, Fit L R → nthR R.length L (numR R L) = R
  | [], _, _ => rfl
  | .right :: R, L, h => by
    show (if numR R L < cnt R.length L then Pour.right :: nthR R.length L (numR R L) else _) = _
    rw [if_pos (num_lt R (fit_right.mp h)), nth_num R (fit_right.mp h)]
  | .left :: R, L, h => by
    show (if cnt R.length L + numR R (dcl L) < cnt R.length L then _ else Pour.left :: nthR R.length (dcl L) (cnt R.length L + numR R (dcl L) - cnt R.length L)) = _
    rw [if_neg (by omega), Nat.add_sub_cancel_left, nth_num R (fit_left.mp h)]
theorem pb_cons (p q s : Rat) (x : Pour) (R : List Pour) : pb p q s (x :: R) = pour1 p q (pb p q s R) x := rfl
theorem lt_pour1 {p q s t : Rat} (hp : Parts p q) {x : Pour} (h : pour1 p q s x < pour1 p q t x) : s < t := by
  apply Classical.byContradiction
  intro z
  have z : t ≤ s := Rat.not_lt.mp z
  exact absurd h (Rat.not_lt.mpr (pour1_le hp z x))
theorem num_mono {p q s : Rat} (hp : Parts p q) (s0 : 0 ≤ s) (s1 : s ≤ 1) : ∀ (R O : List Pour) {L : Option Int}, R.length = O.length → Fit L R → Fit L O → pb p q s R < pb p q s O → numR R L < numR O L
  | [], [], L, _, _, _, h => absurd h (Rat.lt_irrefl)
  | [], _ :: _, _, e, _, _, _ => by cases e
  | _ :: _, [], _, e, _, _, _ => by cases e
  | .right :: R, .right :: O, L, e, f, g, h => num_mono hp s0 s1 R O (Nat.succ.inj e) (fit_right.mp f) (fit_right.mp g) (lt_pour1 hp h)
  | .right :: R, .left :: O, L, e, f, g, h => by
    have h1 := num_lt R (fit_right.mp f)
    have e : R.length = O.length := Nat.succ.inj e
    show numR R L < cnt O.length L + numR O (dcl L)
    rw [← e]
    omega
  | .left :: R, .right :: O, L, e, f, g, h => absurd h (Rat.not_lt.mpr (Rat.le_of_lt (pb_rl hp s0 s1 O R)))
  | .left :: R, .left :: O, L, e, f, g, h => by
    have h1 := num_mono hp s0 s1 R O (Nat.succ.inj e) (fit_left.mp f) (fit_left.mp g) (lt_pour1 hp h)
    have e : R.length = O.length := Nat.succ.inj e
    show cnt R.length L + numR R (dcl L) < cnt O.length L + numR O (dcl L)
    rw [e]
    omega
theorem num_iff {p q s : Rat} (hp : Parts p q) (s0 : 0 ≤ s) (s1 : s ≤ 1) {R O : List Pour} {L : Option Int} (e : R.length = O.length) (f : Fit L R) (g : Fit L O) : (pb p q s R < pb p q s O ↔ numR R L < numR O L) ∧ (pb p q s R = pb p q s O ↔ numR R L = numR O L) := by
  rcases in_order hp s0 s1 R O e with rfl | ⟨_, h, _⟩ | ⟨_, h, _⟩
  · exact ⟨⟨fun z => absurd z Rat.lt_irrefl, fun z => absurd z (Nat.lt_irrefl _)⟩, ⟨fun _ => rfl, fun _ => rfl⟩⟩
  · have m := num_mono hp s0 s1 R O e f g h
    exact ⟨⟨fun _ => m, fun _ => h⟩, ⟨fun z => absurd h (by rw [z]; exact Rat.lt_irrefl), fun z => by omega⟩⟩
  · have m := num_mono hp s0 s1 O R e.symm g f h
    exact ⟨⟨fun z => absurd (show pb p q s R < pb p q s R by grind) Rat.lt_irrefl, fun z => by omega⟩, ⟨fun z => absurd h (by rw [z]; exact Rat.lt_irrefl), fun z => by omega⟩⟩
theorem Parts.two {p q : Rat} (h : Parts p q) : Part p ∧ Part q := ⟨⟨h.p0, h.p1, h.pd⟩, ⟨h.q0, h.q1, h.qd⟩⟩
theorem le_divk {x a k : Rat} (h : 0 < k) : x ≤ a / k ↔ x * k ≤ a := by
  have e : a / k * k = a := Rat.div_mul_cancel (by grind)
  constructor
  · intro z
    have := Rat.mul_le_mul_of_nonneg_right z (Rat.le_of_lt h)
    grind
  · intro z
    apply Classical.byContradiction
    intro c
    have := Rat.mul_lt_mul_of_pos_right (Rat.not_le.mp c) h
    grind
theorem divk_le {x a k : Rat} (h : 0 < k) : a / k ≤ x ↔ a ≤ x * k := by
  have e : a / k * k = a := Rat.div_mul_cancel (by grind)
  constructor
  · intro z
    have := Rat.mul_le_mul_of_nonneg_right z (Rat.le_of_lt h)
    grind
  · intro z
    apply Classical.byContradiction
    intro c
    have := Rat.mul_lt_mul_of_pos_right (Rat.not_le.mp c) h
    grind
/-! ### how many end at most at a share -/
def upR (p w : Rat) : Rat := match backR p w with
  | none => 1
  | some y => y
def atm (p q s : Rat) : Nat → Option Int → Rat → Nat
  | 0, L, w => if w < s then 0 else cnt 0 L
  | n + 1, L, w => match backL q w with
    | none => atm p q s n L (upR p w)
    | some y => cnt n L + atm p q s n (dcl L) y
theorem atm_none {p q s : Rat} {n : Nat} {L : Option Int} {y : Rat} (e : backL q y = none) : atm p q s (n + 1) L y = atm p q s n L (upR p y) := by
  show (match backL q y with
    | none => atm p q s n L (upR p y)
    | some y => cnt n L + atm p q s n (dcl L) y) = _
  rw [e]
theorem atm_some {p q s : Rat} {n : Nat} {L : Option Int} {y z : Rat} (e : backL q y = some z) : atm p q s (n + 1) L y = cnt n L + atm p q s n (dcl L) z := by
  show (match backL q y with
    | none => atm p q s n L (upR p y)
    | some y => cnt n L + atm p q s n (dcl L) y) = _
  rw [e]
theorem atm_le (p q s : Rat) : ∀ (n : Nat) (L : Option Int) (w : Rat), atm p q s n L w ≤ cnt n L
  | 0, L, w => by
    unfold atm
    split
    · exact Nat.zero_le _
    · exact Nat.le_refl _
  | n + 1, L, w => by
    unfold atm
    split
    · exact Nat.le_trans (atm_le p q s n L _) (Nat.le_add_right _ _)
    · exact Nat.add_le_add_left (atm_le p q s n _ _) _
theorem upR_01 {p w : Rat} (hp : Part p) (w0 : 0 ≤ w) : 0 ≤ upR p w ∧ upR p w ≤ 1 := by
  unfold upR backR
  have p1 := hp.p1
  by_cases h : w ≤ 1 - p
  · rw [if_pos h]
    have k : 0 < 1 - p := by grind
    refine ⟨?_, ?_⟩
    · exact (le_divk k).mpr (by grind)
    · exact (divk_le k).mpr (by grind)
  · rw [if_neg h]
    exact ⟨by decide, by decide⟩
theorem backL_01 {q w y : Rat} (hq : Part q) (w1 : w ≤ 1) (e : backL q w = some y) : 0 ≤ y ∧ y ≤ 1 ∧ q ≤ w ∧ y * (1 - q) = w - q := by
  unfold backL at e
  have q1 := hq.p1
  by_cases h : q ≤ w
  · rw [if_pos h] at e
    have e := Option.some.inj e
    have k : 0 < 1 - q := by grind
    have k' : (1 - q) ≠ 0 := by grind
    refine ⟨?_, ?_, h, ?_⟩
    · rw [← e]
      exact (le_divk k).mpr (by grind)
    · rw [← e]
      exact (divk_le k).mpr (by grind)
    · rw [← e]
      exact Rat.div_mul_cancel k'
  · rw [if_neg h] at e
    cases e
theorem atm_iff {p q s : Rat} (hp : Parts p q) (s0 : 0 ≤ s) (s1 : s ≤ 1) : ∀ (R : List Pour) {L : Option Int} {w : Rat}, 0 ≤ w → w ≤ 1 → Fit L R → (pb p q s R ≤ w ↔ numR R L < atm p q s R.length L w)
  | [], L, w, w0, w1, f => by
    show s ≤ w ↔ 0 < if w < s then 0 else cnt 0 L
    have c := num_lt [] f
    by_cases h : w < s
    · rw [if_pos h]
      exact ⟨fun z => absurd h (Rat.not_lt.mpr z), fun z => by omega⟩
    · rw [if_neg h]
      exact ⟨fun _ => c, fun _ => Rat.not_lt.mp h⟩
  | .right :: R, L, w, w0, w1, f => by
    have f := fit_right.mp f
    obtain ⟨b0, b1, _, _⟩ := pb_01 hp s0 s1 R
    have p1 := hp.p1
    have ge := hp.ge
    show pb p q s R * (1 - p) ≤ w ↔ numR R L < match backL q w with
      | none => atm p q s R.length L (upR p w)
      | some y => cnt R.length L + atm p q s R.length (dcl L) y
    have hle : pb p q s R * (1 - p) ≤ 1 - p := by
      have := Rat.mul_le_mul_of_nonneg_right b1 (show 0 ≤ 1 - p by grind)
      grind
    cases e : backL q w with
    | none =>
      obtain ⟨u0, u1⟩ := upR_01 hp.two.1 w0
      rw [← atm_iff hp s0 s1 R u0 u1 f]
      unfold upR backR
      by_cases h : w ≤ 1 - p
      · rw [if_pos h]
        exact (le_divk (show 0 < 1 - p by grind)).symm
      · rw [if_neg h]
        exact ⟨fun _ => b1, fun _ => by grind⟩
    | some y =>
      obtain ⟨_, _, h, _⟩ := backL_01 hp.two.2 w1 e
      have c := num_lt R f
      exact ⟨fun _ => Nat.lt_of_lt_of_le c (Nat.le_add_right _ _), fun _ => by grind⟩
  | .left :: R, L, w, w0, w1, f => by
    have f := fit_left.mp f
    obtain ⟨b0, b1, _, _⟩ := pb_01 hp s0 s1 R
    have q0 := hp.q0
    have q1 := hp.q1
    show pb p q s R + (1 - pb p q s R) * q ≤ w ↔ cnt R.length L + numR R (dcl L) < match backL q w with
      | none => atm p q s R.length L (upR p w)
      | some y => cnt R.length L + atm p q s R.length (dcl L) y
    cases e : backL q w with
    | none =>
      have hq : ¬ q ≤ w := fun z => by
        unfold backL at e
        rw [if_pos z] at e
        cases e
      have a := atm_le p q s R.length L (upR p w)
      have m : 0 ≤ pb p q s R * (1 - q) := Rat.mul_nonneg b0 (by grind)
      exact ⟨fun z => absurd (show q ≤ w by grind) hq, fun z => by
        have z : cnt R.length L + numR R (dcl L) < atm p q s R.length L (upR p w) := z
        omega⟩
    | some y =>
      obtain ⟨y0, y1, h, hy⟩ := backL_01 hp.two.2 w1 e
      have ih := atm_iff hp s0 s1 R y0 y1 f
      have k : 0 < 1 - q := by grind
      have eq : pb p q s R + (1 - pb p q s R) * q ≤ w ↔ pb p q s R ≤ y := by
        constructor
        · intro z
          apply Classical.byContradiction
          intro c
          have c : y < pb p q s R := Rat.not_le.mp c
          have := Rat.mul_lt_mul_of_pos_right c k
          grind
        · intro z
          have := Rat.mul_le_mul_of_nonneg_right z (Rat.le_of_lt k)
          grind
      rw [eq, ih]
      show _ ↔ cnt R.length L + numR R (dcl L) < cnt R.length L + atm p q s R.length (dcl L) y
      omega
/-! ### the numbers of rows with so many lefts -/
def ch : Nat → Nat → Nat
  | _, 0 => 1
  | 0, _ + 1 => 0
  | n + 1, k + 1 => ch n k + ch n (k + 1)
theorem ch_zero (n : Nat) : ch n 0 = 1 := by cases n <;> rfl
theorem ch_big : ∀ {n k : Nat}, n < k → ch n k = 0
  | 0, k + 1, _ => rfl
  | n + 1, k + 1, h => by
    show ch n k + ch n (k + 1) = 0
    rw [ch_big (by omega), ch_big (by omega)]
theorem ch_mul : ∀ (n k : Nat), k ≤ n → ch n (k + 1) * (k + 1) = ch n k * (n - k)
  | 0, 0, _ => rfl
  | n + 1, 0, _ => by
    have h := ch_mul n 0 (Nat.zero_le _)
    show (ch n 0 + ch n 1) * 1 = 1 * (n + 1)
    rw [ch_zero, Nat.sub_zero] at h
    rw [ch_zero]
    have h : ch n 1 * 1 = 1 * n := h
    omega
  | n + 1, k + 1, hk => by
    show (ch n (k + 1) + ch n (k + 2)) * (k + 2) = (ch n k + ch n (k + 1)) * (n + 1 - (k + 1))
    by_cases h : k + 1 ≤ n
    · have h1 := ch_mul n k (by omega)
      have h2 := ch_mul n (k + 1) h
      obtain ⟨m, hm⟩ : ∃ m, n = k + 1 + m := ⟨n - (k + 1), by omega⟩
      have e1 : n - k = m + 1 := by omega
      have e2 : n - (k + 1) = m := by omega
      have e3 : n + 1 - (k + 1) = m + 1 := by omega
      rw [e1] at h1
      rw [e2] at h2
      rw [e3]
      have h2' : ch n (k + 2) * (k + 2) = ch n (k + 1) * m := h2
      generalize ch n k = A at *
      generalize ch n (k + 1) = B' at *
      generalize ch n (k + 2) = C at *
      grind
    · have e : k = n := by omega
      subst e
      rw [ch_big (show k < k + 1 by omega), ch_big (show k < k + 2 by omega), Nat.sub_self, Nat.mul_zero, Nat.zero_add, Nat.zero_mul]
theorem cnt_neg : ∀ (n : Nat) {l : Int}, l < 0 → cnt n (some l) = 0
  | 0, l, h => if_neg (by omega)
  | n + 1, l, h => by
    show cnt n (some l) + cnt n (some (l - 1)) = 0
    rw [cnt_neg n h, cnt_neg n (by omega)]
theorem cnt_ch : ∀ (n k : Nat), cnt n (some (k : Int)) = ch n k
  | 0, 0 => rfl
  | 0, k + 1 => if_neg (by omega)
  | n + 1, 0 => by
    show cnt n (some ((0 : Nat) : Int)) + cnt n (some (((0 : Nat) : Int) - 1)) = 1
    rw [cnt_ch n 0, ch_zero, cnt_neg n (by omega)]
  | n + 1, k + 1 => by
    show cnt n (some ((k + 1 : Nat) : Int)) + cnt n (some (((k + 1 : Nat) : Int) - 1)) = ch n k + ch n (k + 1)
    rw [cnt_ch n (k + 1), show ((k + 1 : Nat) : Int) - 1 = ((k : Nat) : Int) by omega, cnt_ch n k, Nat.add_comm]
theorem cnt_none : ∀ n : Nat, cnt n none = 2 ^ n
  | 0 => rfl
  | n + 1 => by
    show cnt n none + cnt n none = 2 ^ (n + 1)
    rw [cnt_none n, Nat.pow_succ]
    omega
theorem cnt_le : ∀ (n : Nat) (L : Option Int), cnt n L ≤ 2 ^ n
  | 0, none => Nat.le_refl _
  | 0, some l => by
    show (if l = 0 then 1 else 0) ≤ 1
    split <;> omega
  | n + 1, L => by
    show cnt n L + cnt n (dcl L) ≤ 2 ^ (n + 1)
    have := cnt_le n L
    have := cnt_le n (dcl L)
    rw [Nat.pow_succ]
    omega
theorem ch_pos : ∀ {n k : Nat}, k ≤ n → 0 < ch n k
  | n, 0, _ => by rw [ch_zero]; exact Nat.one_pos
  | n + 1, k + 1, h => Nat.lt_of_lt_of_le (ch_pos (n := n) (k := k) (by omega)) (Nat.le_add_right _ _)
theorem ch_step {n k : Nat} (h : k ≤ n) : ch n k * (n - k) / (k + 1) = ch n (k + 1) := by
  rw [← ch_mul n k h, Nat.mul_div_cancel _ (Nat.succ_pos _)]
/-! ### how far -/
def far (x y : Rat) : Rat := if x ≤ y then y - x else x - y
theorem mk_far (x y : Rat) : mkRat ((x.num * (y.den : Int) - y.num * (x.den : Int)).natAbs : Int) (x.den * y.den) = far x y := by
  unfold far
  by_cases h : x ≤ y
  · rw [if_pos h]
    have z : x.num * (y.den : Int) ≤ y.num * (x.den : Int) := (Rat.le_iff x y).mp h
    rw [show ((x.num * (y.den : Int) - y.num * (x.den : Int)).natAbs : Int) = y.num * (x.den : Int) - x.num * (y.den : Int) by omega, Nat.mul_comm]
    exact mk_sub y x
  · rw [if_neg h]
    have z : y.num * (x.den : Int) ≤ x.num * (y.den : Int) := (Rat.le_iff y x).mp (by grind)
    rw [show ((x.num * (y.den : Int) - y.num * (x.den : Int)).natAbs : Int) = x.num * (y.den : Int) - y.num * (x.den : Int) by omega]
    exact mk_sub x y
theorem far_rt (x y : Rat) : rt (far x y) = .tuple [.int ((x - y).num.natAbs : Nat), .int (x - y).den] := by
  unfold far
  by_cases h : x ≤ y
  · rw [if_pos h, show y - x = -(x - y) by grind]
    have z : (x - y).num ≤ 0 := by
      have : 0 ≤ (-(x - y)).num := Rat.num_nonneg.mpr (by grind)
      rw [Rat.neg_num] at this
      omega
    show PyData.tuple [.int (-(x - y)).num, .int (-(x - y)).den] = _
    rw [Rat.neg_num, Rat.neg_den, show ((x - y).num.natAbs : Int) = -(x - y).num by omega]
  · rw [if_neg h]
    have z : 0 ≤ (x - y).num := Rat.num_nonneg.mpr (by grind)
    show PyData.tuple [.int (x - y).num, .int (x - y).den] = _
    rw [show ((x - y).num.natAbs : Int) = (x - y).num by omega]
theorem far_nn (x y : Rat) : 0 ≤ far x y := by
  unfold far
  split
  · grind
  · grind
/-! ### which ends nearest -/
def endK (p q s : Rat) (n : Nat) (L : Option Int) (k : Nat) : Rat := pb p q s (nthR n L k)
def pick (fr : Nat → Rat) (c : Nat) (b : Option Nat) (z : Int) : Option Nat := if 0 ≤ z ∧ z < c then (match b with
  | none => some z.toNat
  | some k => if fr z.toNat < fr k then some z.toNat else some k) else b
def pick1 (fr : Nat → Rat) (k : Nat) : Option Nat → Option Nat
  | none => some k
  | some j => if fr k < fr j then some k else some j
theorem pick_in {fr : Nat → Rat} {c k : Nat} {b : Option Nat} (h : k < c) : pick fr c b (k : Int) = pick1 fr k b := by
  unfold pick
  rw [if_pos (by omega)]
  cases b <;> rfl
def nearK (p q s : Rat) (n : Nat) (L : Option Int) (w : Rat) : Option Nat :=
  pick (fun k => far (endK p q s n L k) w) (cnt n L) (pick (fun k => far (endK p q s n L k) w) (cnt n L) none ((atm p q s n L w : Nat) - 1 : Int)) (atm p q s n L w : Nat)
theorem cnt_pos {n : Nat} {L : Option Int} (h : ∀ l, L = some l → 0 ≤ l ∧ l ≤ (n : Int)) : 0 < cnt n L := by
  cases L with
  | none =>
    rw [cnt_none]
    exact Nat.pow_pos (by decide)
  | some l =>
    obtain ⟨h0, h1⟩ := h l rfl
    obtain ⟨k, rfl⟩ : ∃ k : Nat, l = k := ⟨l.toNat, by omega⟩
    rw [cnt_ch]
    exact ch_pos (by omega)
/-- the ends of two numbers -/
theorem endK_lt {p q s : Rat} (hp : Parts p q) (s0 : 0 ≤ s) (s1 : s ≤ 1) {n : Nat} {L : Option Int} {i j : Nat} (hi : i < cnt n L) (hj : j < cnt n L) (h : i < j) : endK p q s n L i < endK p q s n L j := by
  obtain ⟨a1, a2, a3⟩ := nth_ok n hi
  obtain ⟨b1, b2, b3⟩ := nth_ok n hj
  have := (num_iff hp s0 s1 (a1.trans b1.symm) a2 b2).1
  rw [a3, b3] at this
  exact this.mpr h
theorem endK_le {p q s : Rat} (hp : Parts p q) (s0 : 0 ≤ s) (s1 : s ≤ 1) {n : Nat} {L : Option Int} {i j : Nat} (hi : i < cnt n L) (hj : j < cnt n L) (h : i ≤ j) : endK p q s n L i ≤ endK p q s n L j := by
  by_cases e : i = j
  · rw [e]
    exact Rat.le_refl
  · exact Rat.le_of_lt (endK_lt hp s0 s1 hi hj (by omega))
/-- at most at w: those below atm -/
theorem endK_atm {p q s : Rat} (hp : Parts p q) (s0 : 0 ≤ s) (s1 : s ≤ 1) {n : Nat} {L : Option Int} {k : Nat} {w : Rat} (w0 : 0 ≤ w) (w1 : w ≤ 1) (hk : k < cnt n L) : endK p q s n L k ≤ w ↔ k < atm p q s n L w := by
  obtain ⟨a1, a2, a3⟩ := nth_ok n hk
  have := atm_iff hp s0 s1 (nthR n L k) w0 w1 a2
  rw [a1, a3] at this
  exact this
theorem atm_self {p q s : Rat} (hp : Parts p q) (s0 : 0 ≤ s) (s1 : s ≤ 1) {n : Nat} {L : Option Int} {k : Nat} (hk : k < cnt n L) : atm p q s n L (endK p q s n L k) = k + 1 := by
  obtain ⟨w0, w1, _, _⟩ := pb_01 hp s0 s1 (nthR n L k)
  have w0 : 0 ≤ endK p q s n L k := w0
  have w1 : endK p q s n L k ≤ 1 := w1
  have a := (endK_atm hp s0 s1 w0 w1 hk).mp Rat.le_refl
  have c := atm_le p q s n L (endK p q s n L k)
  by_cases h : k + 1 < cnt n L
  · have b := endK_lt hp s0 s1 hk h (Nat.lt_succ_self k)
    have d : ¬ k + 1 < atm p q s n L (endK p q s n L k) := fun z => by
      have := (endK_atm hp s0 s1 w0 w1 h).mpr z
      grind
    omega
  · omega
theorem rowK_num {r : List Pour} {L : Option Int} (f : Fit L r.reverse) : (nthR r.length L (numR r.reverse L)).reverse = r := by
  have := nth_num r.reverse f
  rw [List.length_reverse] at this
  rw [this, List.reverse_reverse]
theorem num_lt' {r : List Pour} {L : Option Int} (f : Fit L r.reverse) : numR r.reverse L < cnt r.length L := by
  have := num_lt r.reverse f
  rw [List.length_reverse] at this
  exact this
theorem fit_rev {L : Option Int} {r : List Pour} (h : Fit L r) : Fit L r.reverse := by
  cases L with
  | none => trivial
  | some l =>
    show ((r.reverse.count .left : Nat) : Int) = l
    rw [List.count_reverse]
    exact h
/-- the told one: none ends nearer, of two as near the lesser -/
structure Near (p q s : Rat) (n : Nat) (L : Option Int) (w : Rat) (k : Nat) : Prop where
  lt : k < cnt n L
  f : atm p q s n L w = k ∨ atm p q s n L w = k + 1
  le : ∀ j, j < cnt n L → far (endK p q s n L k) w ≤ far (endK p q s n L j) w
  st : ∀ j, j < k → far (endK p q s n L k) w < far (endK p q s n L j) w
theorem near_is {p q s : Rat} (hp : Parts p q) (s0 : 0 ≤ s) (s1 : s ≤ 1) {n : Nat} {L : Option Int} {w : Rat} (w0 : 0 ≤ w) (w1 : w ≤ 1) (hc : 0 < cnt n L) : ∃ k, nearK p q s n L w = some k ∧ Near p q s n L w k := by
  have hf := atm_le p q s n L w
  have at_ := fun {k : Nat} (hk : k < cnt n L) => endK_atm hp s0 s1 (n := n) (L := L) w0 w1 hk
  have lt_ := fun {i j : Nat} (hi : i < cnt n L) (hj : j < cnt n L) (h : i < j) => endK_lt hp s0 s1 (n := n) (L := L) hi hj h
  have le_ := fun {i j : Nat} (hi : i < cnt n L) (hj : j < cnt n L) (h : i ≤ j) => endK_le hp s0 s1 (n := n) (L := L) hi hj h
  unfold nearK
  generalize hfe : atm p q s n L w = f at *
  generalize he : endK p q s n L = e at *
  generalize hce : cnt n L = c at *
  -- below f the nearest is f - 1, from f on it is f
  have low : ∀ j, j < f → ∀ i, j ≤ i → i < f → far (e i) w ≤ far (e j) w ∧ (j < i → far (e i) w < far (e j) w) := fun j hj i hji hi => by
    have a := (at_ (show i < c by omega)).mpr hi
    have b := (at_ (show j < c by omega)).mpr hj
    have d := le_ (show j < c by omega) (show i < c by omega) hji
    unfold far
    rw [if_pos a, if_pos b]
    refine ⟨by grind, fun z => ?_⟩
    have d' := lt_ (show j < c by omega) (show i < c by omega) z
    grind
  have high : ∀ j, f ≤ j → j < c → far (e f) w ≤ far (e j) w := fun j hj hc' => by
    have a : ¬ e f ≤ w := fun z => by have := (at_ (show f < c by omega)).mp z; omega
    have b : ¬ e j ≤ w := fun z => by have := (at_ hc').mp z; omega
    have d := le_ (show f < c by omega) hc' hj
    unfold far
    rw [if_neg a, if_neg b]
    grind
  by_cases f0 : f = 0
  · subst f0
    have h1 : pick (fun k => far (e k) w) c none (((0 : Nat) : Int) - 1) = none := if_neg (by omega)
    rw [h1]
    have h2 : pick (fun k => far (e k) w) c none ((0 : Nat) : Int) = some 0 := if_pos (by omega)
    refine ⟨0, h2, ⟨by omega, .inl (by omega), fun j hj => ?_, fun j hj => by omega⟩⟩
    rw [he]
    exact high j (by omega) (by omega)
  · have h1 : pick (fun k => far (e k) w) c none ((f : Int) - 1) = some (f - 1) := by
      unfold pick
      rw [if_pos (by omega)]
      show some ((f : Int) - 1).toNat = _
      congr 1
      omega
    rw [h1]
    by_cases fc : f < c
    · have h2 : pick (fun k => far (e k) w) c (some (f - 1)) (f : Int) = if far (e f) w < far (e (f - 1)) w then some f else some (f - 1) := if_pos (by omega)
      rw [h2]
      by_cases h : far (e f) w < far (e (f - 1)) w
      · rw [if_pos h]
        refine ⟨f, rfl, ⟨by omega, .inl (by omega), fun j hj => ?_, fun j hj => ?_⟩⟩
        · rw [he]
          by_cases z : f ≤ j
          · exact high j z (by omega)
          · have := (low j (by omega) (f - 1) (by omega) (by omega)).1
            grind
        · rw [he]
          have := (low j (by omega) (f - 1) (by omega) (by omega)).1
          grind
      · rw [if_neg h]
        refine ⟨f - 1, rfl, ⟨by omega, .inr (by omega), fun j hj => ?_, fun j hj => ?_⟩⟩
        · rw [he]
          by_cases z : f ≤ j
          · have := high j z (by omega)
            grind
          · exact (low j (by omega) (f - 1) (by omega) (by omega)).1
        · rw [he]
          exact (low j (by omega) (f - 1) (by omega) (by omega)).2 (by omega)
    · have h2 : pick (fun k => far (e k) w) c (some (f - 1)) (f : Int) = some (f - 1) := if_neg (by omega)
      rw [h2]
      refine ⟨f - 1, rfl, ⟨by omega, .inr (by omega), fun j hj => ?_, fun j hj => ?_⟩⟩
      · rw [he]
        exact (low j (by omega) (f - 1) (by omega) (by omega)).1
      · rw [he]
        exact (low j (by omega) (f - 1) (by omega) (by omega)).2 (by omega)
end Pb
namespace Pb
open PySem PySem.Spec PyProof.Rows L2 Dn
theorem t0 : (0 : Rat) < 11 / 12 := by decide +kernel
theorem t1 : (11 / 12 : Rat) ≤ 1 := by decide +kernel
/-! ### rows poured again and again -/
theorem slope_pos {p q : Rat} (hp : Parts p q) : ∀ r : List Pour, 0 < slope p q r
  | [] => by show (0 : Rat) < 1; decide
  | .right :: r => by
    show 0 < (1 - p) * slope p q r
    have p1 := hp.p1
    exact Rat.mul_pos (by grind) (slope_pos hp r)
  | .left :: r => by
    show 0 < (1 - q) * slope p q r
    have q1 := hp.q1
    exact Rat.mul_pos (by grind) (slope_pos hp r)
theorem slope_bq {p q : Rat} (hp : Parts p q) : ∀ r : List Pour, Bq (12 ^ r.length) (slope p q r)
  | [] => ⟨by show (0 : Rat) ≤ 1; decide, by show (1 : Rat) ≤ 1; decide, by show (1 : Rat).den ≤ 1; decide⟩
  | .right :: r => by
    have h := hp.bp.one_sub.times (slope_bq hp r)
    rw [List.length_cons, Nat.pow_succ, Nat.mul_comm]
    exact h
  | .left :: r => by
    have h := hp.bq.one_sub.times (slope_bq hp r)
    rw [List.length_cons, Nat.pow_succ, Nat.mul_comm]
    exact h
theorem pours_aff (p q x : Rat) (r : List Pour) : pours p q x r = pours p q 0 r + x * slope p q r := by
  have := pours_gap p q r 0 x
  grind
def pwr (x : Rat) : Nat → Rat
  | 0 => 1
  | n + 1 => pwr x n * x
theorem pw_pos {x : Rat} (h : 0 < x) : ∀ n, 0 < pwr x n
  | 0 => by show (0 : Rat) < 1; decide
  | n + 1 => Rat.mul_pos (pw_pos h n) h
theorem mul_le {a b c d : Rat} (h1 : a ≤ b) (h2 : c ≤ d) (a0 : 0 ≤ a) (d0 : 0 ≤ d) : a * c ≤ b * d := by
  have x := Rat.mul_le_mul_of_nonneg_left h2 a0
  have y := Rat.mul_le_mul_of_nonneg_right h1 d0
  grind
theorem pw_le {x y : Rat} (h : 0 < x) (hy : x ≤ y) : ∀ n, pwr x n ≤ pwr y n
  | 0 => Rat.le_refl
  | n + 1 => mul_le (pw_le h hy n) hy (Rat.le_of_lt (pw_pos h n)) (by grind)
theorem pw_add (x : Rat) (m : Nat) : ∀ n, pwr x (m + n) = pwr x m * pwr x n
  | 0 => by show pwr x m = pwr x m * 1; grind
  | n + 1 => by
    show pwr x (m + n) * x = pwr x m * (pwr x n * x)
    rw [pw_add x m n]
    grind
theorem pw_mul (x : Rat) (m : Nat) : ∀ n, pwr x (m * n) = pwr (pwr x m) n
  | 0 => rfl
  | n + 1 => by
    show pwr x (m * n + m) = pwr (pwr x m) n * pwr x m
    rw [pw_add, pw_mul x m n]
theorem pw_mono {x : Rat} (h : 0 < x) (h1 : x ≤ 1) {m n : Nat} (hm : m ≤ n) : pwr x n ≤ pwr x m := by
  obtain ⟨k, rfl⟩ : ∃ k, n = m + k := ⟨n - m, by omega⟩
  rw [pw_add]
  have a := pw_pos h m
  have one : ∀ k, pwr x k ≤ 1 := fun k => by
    induction k with
    | zero => exact Rat.le_refl
    | succ k ih =>
      have b := pw_pos h k
      have := mul_le ih h1 (Rat.le_of_lt b) (by decide)
      show pwr x k * x ≤ 1
      grind
  have := Rat.mul_le_mul_of_nonneg_left (one k) (Rat.le_of_lt a)
  grind
theorem part_ge {p : Rat} (h : Part p) : 1 - p ≤ 11 / 12 := by
  have n1 := pp h.p0
  have d12 := h.pd
  have e := nd p
  have dp : (0 : Rat) < (p.den : Rat) := Rat.natCast_pos.mpr p.den_pos
  have n2 : (1 : Rat) ≤ (p.num : Rat) := by
    have z : ((1 : Int) : Rat) ≤ ((p.num : Int) : Rat) := Rat.intCast_le_intCast.mpr (by omega)
    simpa using z
  have d2 : (p.den : Rat) ≤ ((12 : Nat) : Rat) := Rat.natCast_le_natCast.mpr d12
  have d3 : ((12 : Nat) : Rat) = 12 := rfl
  have p0 := h.p0
  have k := Rat.mul_le_mul_of_nonneg_left d2 (Rat.le_of_lt p0)
  grind
theorem slope_le {p q : Rat} (hp : Parts p q) : ∀ r : List Pour, slope p q r ≤ pwr (11 / 12) r.length
  | [] => Rat.le_refl
  | .right :: r => by
    show (1 - p) * slope p q r ≤ pwr (11 / 12) r.length * (11 / 12)
    have p1 := hp.p1
    have := mul_le (part_ge hp.two.1) (slope_le hp r) (by grind) (Rat.le_of_lt (pw_pos t0 _))
    grind
  | .left :: r => by
    show (1 - q) * slope p q r ≤ pwr (11 / 12) r.length * (11 / 12)
    have q1 := hp.q1
    have := mul_le (part_ge hp.two.2) (slope_le hp r) (by grind) (Rat.le_of_lt (pw_pos t0 _))
    grind
theorem slope_lt1 {p q : Rat} (hp : Parts p q) {r : List Pour} (h : r ≠ []) : slope p q r < 1 := by
  obtain ⟨x, t, rfl⟩ := List.exists_cons_of_ne_nil h
  have a := slope_le hp (x :: t)
  have b : pwr (11 / 12) (t.length + 1) ≤ pwr (11 / 12) 1 := pw_mono t0 t1 (by omega)
  have c : pwr (11 / 12 : Rat) 1 < 1 := by decide +kernel
  have a : slope p q (x :: t) ≤ pwr (11 / 12) (t.length + 1) := a
  grind
/-- the share to which a row goes -/
def fixp (p q : Rat) (r : List Pour) : Rat := pours p q 0 r / (pours p q 0 r + 1 - pours p q 1 r)
theorem fix_den {p q : Rat} (hp : Parts p q) {r : List Pour} (h : r ≠ []) : pours p q 0 r + 1 - pours p q 1 r = 1 - slope p q r ∧ 0 < 1 - slope p q r := by
  have := pours_aff p q 1 r
  have s1 := slope_lt1 hp h
  exact ⟨by grind, by grind⟩
theorem fix_is {p q : Rat} (hp : Parts p q) {r : List Pour} (h : r ≠ []) : fixp p q r * (1 - slope p q r) = pours p q 0 r ∧ pours p q (fixp p q r) r = fixp p q r ∧ 0 ≤ fixp p q r ∧ fixp p q r ≤ 1 := by
  obtain ⟨e, k⟩ := fix_den hp h
  have z : fixp p q r * (1 - slope p q r) = pours p q 0 r := by
    unfold fixp
    rw [e]
    exact Rat.div_mul_cancel (by grind)
  have b0 : Bq 1 (0 : Rat) := ⟨by decide, by decide, by decide⟩
  have b1 : Bq 1 (1 : Rat) := ⟨by decide, by decide, by decide⟩
  have h0 := (b0.pours hp r).s0
  have h1 := (b1.pours hp r).s1
  refine ⟨z, ?_, ?_, ?_⟩
  · rw [pours_aff]
    grind
  · unfold fixp
    rw [e]
    exact (le_divk k).mpr (by grind)
  · unfold fixp
    rw [e]
    refine (divk_le k).mpr ?_
    have := pours_aff p q 1 r
    grind
theorem mk_fix {a b : Rat} (a0 : 0 ≤ a) (ab : a ≤ b) (h : 0 < a + 1 - b) (b1 : b ≤ 1) : mkRat (a.num * (b.den : Int)) ((a.num * (b.den : Int) + ((b.den : Int) - b.num) * (a.den : Int)).toNat) = a / (a + 1 - b) ∧ 0 < a.num * (b.den : Int) + ((b.den : Int) - b.num) * (a.den : Int) ∧ a.num * (b.den : Int) + ((b.den : Int) - b.num) * (a.den : Int) ≤ (a.den * b.den : Nat) := by
  have ea := nd a
  have eb := nd b
  have da := dn a
  have db := dn b
  have pa : (0 : Rat) < (a.den : Rat) := Rat.natCast_pos.mpr a.den_pos
  have pb' : (0 : Rat) < (b.den : Rat) := Rat.natCast_pos.mpr b.den_pos
  -- the bottom as a fraction
  have eD : ((a.num * (b.den : Int) + ((b.den : Int) - b.num) * (a.den : Int) : Int) : Rat) = (a + 1 - b) * ((a.den : Rat) * (b.den : Rat)) := by
    rw [Rat.intCast_add, Rat.intCast_mul, Rat.intCast_mul, Rat.intCast_sub]
    simp only [Rat.intCast_natCast]
    rw [ea, eb]
    grind
  have hab : (0 : Rat) < (a.den : Rat) * (b.den : Rat) := Rat.mul_pos pa pb'
  have pD : 0 < a.num * (b.den : Int) + ((b.den : Int) - b.num) * (a.den : Int) := by
    apply Rat.intCast_lt_intCast.mp
    rw [eD]
    simpa using Rat.mul_pos h hab
  refine ⟨?_, pD, ?_⟩
  · rw [mk_div]
    have eN : ((a.num * (b.den : Int) : Int) : Rat) = a * ((a.den : Rat) * (b.den : Rat)) := by
      rw [Rat.intCast_mul]
      simp only [Rat.intCast_natCast]
      rw [ea]
      grind
    have eDn : (((a.num * (b.den : Int) + ((b.den : Int) - b.num) * (a.den : Int)).toNat : Nat) : Rat) = (a + 1 - b) * ((a.den : Rat) * (b.den : Rat)) := by
      rw [← eD, ← Rat.intCast_natCast, Int.toNat_of_nonneg (by omega)]
    rw [eN, eDn]
    have n1 : a + 1 - b ≠ 0 := by grind
    have n2 : (a.den : Rat) * (b.den : Rat) ≠ 0 := by grind
    generalize a + 1 - b = x at *
    generalize (a.den : Rat) * (b.den : Rat) = y at *
    have e1 : a / x * x = a := Rat.div_mul_cancel n1
    have e2 : a * y / (x * y) * (x * y) = a * y := Rat.div_mul_cancel (by
      intro z
      rcases Rat.mul_eq_zero.mp z with z | z
      · exact n1 z
      · exact n2 z)
    generalize a * y / (x * y) = u at *
    generalize a / x = v at *
    have : (u - v) * (x * y) = 0 := by grind
    rcases Rat.mul_eq_zero.mp this with z | z
    · grind
    · rcases Rat.mul_eq_zero.mp z with z | z
      · exact absurd z n1
      · exact absurd z n2
  · apply Rat.intCast_le_intCast.mp
    rw [eD]
    have : a + 1 - b ≤ 1 := by grind
    have m := Rat.mul_le_mul_of_nonneg_right this (Rat.le_of_lt hab)
    rw [Int.natCast_mul, Rat.intCast_mul]
    simp only [Rat.intCast_natCast]
    grind
/-- how far, poured once more -/
theorem far_pours {p q : Rat} (hp : Parts p q) {r : List Pour} (h : r ≠ []) (x : Rat) : far (pours p q x r) (fixp p q r) = far x (fixp p q r) * slope p q r := by
  obtain ⟨e, k⟩ := fix_den hp h
  obtain ⟨_, ef, _, _⟩ := fix_is hp h
  have sp := slope_pos hp r
  have g := pours_gap p q r x (fixp p q r)
  rw [ef] at g
  unfold far
  by_cases c : x ≤ fixp p q r
  · rw [if_pos c]
    have c2 : pours p q x r ≤ fixp p q r := by
      have := Rat.mul_nonneg (show 0 ≤ fixp p q r - x by grind) (Rat.le_of_lt sp)
      grind
    rw [if_pos c2]
    grind
  · rw [if_neg c]
    have c2 : ¬ pours p q x r ≤ fixp p q r := by
      have := Rat.mul_pos (show 0 < x - fixp p q r by grind) sp
      grind
    rw [if_neg c2]
    grind
def itr (p q : Rat) (r : List Pour) (s : Rat) : Nat → Rat
  | 0 => s
  | n + 1 => pours p q (itr p q r s n) r
theorem far_itr {p q : Rat} (hp : Parts p q) {r : List Pour} (h : r ≠ []) (s : Rat) : ∀ n, far (itr p q r s n) (fixp p q r) = far s (fixp p q r) * pwr (slope p q r) n
  | 0 => by show far s (fixp p q r) = far s (fixp p q r) * 1; grind
  | n + 1 => by
    show far (pours p q (itr p q r s n) r) (fixp p q r) = far s (fixp p q r) * (pwr (slope p q r) n * slope p q r)
    rw [far_pours hp h, far_itr hp h s n]
    grind
theorem itr_bq {p q s : Rat} {b : Nat} (hp : Parts p q) (hs : Bq b s) (r : List Pour) : ∀ n, Bq (b * 12 ^ (r.length * n)) (itr p q r s n)
  | 0 => by
    show Bq (b * 12 ^ (r.length * 0)) s
    rw [Nat.mul_zero, Nat.pow_zero, Nat.mul_one]
    exact hs
  | n + 1 => by
    have := (itr_bq hp hs r n).pours hp r
    rw [Nat.mul_succ, Nat.pow_add, ← Nat.mul_assoc]
    exact this
/-- the least number of times -/
structure Till (F sl dd : Rat) (t : Nat) : Prop where
  le : F * pwr sl t ≤ dd
  lt : ∀ j, j < t → dd < F * pwr sl j
theorem till_ex {p q dd : Rat} (hp : Parts p q) {r : List Pour} (h : r ≠ []) {M : Nat} (hM : pwr (11 / 12) M ≤ dd) : ∃ T, r.length * T ≤ M + r.length ∧ ∀ F : Rat, 0 ≤ F → F ≤ 1 → F * pwr (slope p q r) T ≤ dd := by
  have hl : 0 < r.length := List.length_pos_iff.mpr h
  refine ⟨(M + (r.length - 1)) / r.length, ?_, fun F f0 f1 => ?_⟩
  · have := Nat.mul_div_le (M + (r.length - 1)) r.length
    omega
  · have hT : M ≤ r.length * ((M + (r.length - 1)) / r.length) := by
      have a := Nat.div_add_mod (M + (r.length - 1)) r.length
      have b := Nat.mod_lt (M + (r.length - 1)) hl
      omega
    generalize (M + (r.length - 1)) / r.length = T at *
    have a := pw_le (slope_pos hp r) (slope_le hp r) T
    rw [← pw_mul] at a
    have b : pwr (11 / 12) (r.length * T) ≤ pwr (11 / 12) M := pw_mono t0 t1 hT
    have c := pw_pos (slope_pos hp r) T
    have d := mul_le f1 (show pwr (slope p q r) T ≤ dd by grind) f0 (by have := pw_pos t0 M; grind)
    grind
theorem pw_num (n : Nat) : pwr (11 / 12) n * ((12 ^ n : Nat) : Rat) = ((11 ^ n : Nat) : Rat) := by
  induction n with
  | zero => exact Rat.one_mul _
  | succ n ih =>
    show pwr (11 / 12) n * (11 / 12) * ((12 ^ n * 12 : Nat) : Rat) = ((11 ^ n * 11 : Nat) : Rat)
    rw [Rat.natCast_mul, Rat.natCast_mul, ← ih]
    have : ((12 : Nat) : Rat) = 12 := rfl
    have : ((11 : Nat) : Rat) = 11 := rfl
    grind
theorem pw_small {n N : Nat} (hN : 0 < N) (h : 11 ^ n * N ≤ 12 ^ n) {dd : Rat} (hd : 1 ≤ dd * (N : Rat)) : pwr (11 / 12) n ≤ dd := by
  have e := pw_num n
  have p12 : (0 : Rat) < ((12 ^ n : Nat) : Rat) := Rat.natCast_pos.mpr (Nat.pow_pos (by decide))
  have pN : (0 : Rat) < (N : Rat) := Rat.natCast_pos.mpr hN
  have hc : ((11 ^ n : Nat) : Rat) * (N : Rat) ≤ ((12 ^ n : Nat) : Rat) := by
    rw [← Rat.natCast_mul]
    exact Rat.natCast_le_natCast.mpr h
  apply Classical.byContradiction
  intro c
  have c : dd < pwr (11 / 12) n := Rat.not_le.mp c
  rw [← e] at hc
  have m := Rat.mul_lt_mul_of_pos_right c (Rat.mul_pos p12 pN)
  have m2 := Rat.mul_le_mul_of_nonneg_right hd (Rat.le_of_lt p12)
  grind
/-! ### near enough -/
def farN (p q s w : Rat) (m : Nat) : Option (List Pour × Rat) := (nearK p q s m none w).map fun k => ((nthR m none k).reverse, far (endK p q s m none k) w)
def nearE (p q s w dd : Rat) : Option (List Pour) := (List.range 21).findSome? fun m => match farN p q s w m with
  | none => none
  | some x => if dd < x.2 then none else some x.1
end Pb
namespace Pb
open PySem PySem.Spec PyProof.Rows L2 Dn
theorem lt_frac {dd x : Rat} {N D : Int} (hD : 0 < D) (e : x * (D : Rat) = (N : Rat)) : dd.num * D < N * (dd.den : Int) ↔ dd < x := by
  have ed := nd dd
  have pd : (0 : Rat) < (dd.den : Rat) := Rat.natCast_pos.mpr dd.den_pos
  have pD : (0 : Rat) < (D : Rat) := by
    have z : ((0 : Int) : Rat) < (D : Rat) := Rat.intCast_lt_intCast.mpr hD
    simpa using z
  have k : (0 : Rat) < (dd.den : Rat) * (D : Rat) := Rat.mul_pos pd pD
  rw [← Rat.intCast_lt_intCast, Rat.intCast_mul, Rat.intCast_mul, ← e, ed]
  simp only [Rat.intCast_natCast]
  constructor
  · intro h
    apply Classical.byContradiction
    intro c
    have := Rat.mul_le_mul_of_nonneg_right (Rat.not_lt.mp c) (Rat.le_of_lt k)
    grind
  · intro h
    have := Rat.mul_lt_mul_of_pos_right h k
    grind
theorem pw_den (x : Rat) : ∀ m : Nat, pwr x m * (((x.den : Int) ^ m : Int) : Rat) = ((x.num ^ m : Int) : Rat)
  | 0 => by
    rw [Int.pow_zero, Int.pow_zero]
    exact Rat.one_mul _
  | m + 1 => by
    have ih := pw_den x m
    have e := nd x
    rw [Int.pow_succ, Int.pow_succ]
    show pwr x m * x * (((x.den : Int) ^ m * (x.den : Int) : Int) : Rat) = ((x.num ^ m * x.num : Int) : Rat)
    rw [Rat.intCast_mul, Rat.intCast_mul, ← ih, e]
    simp only [Rat.intCast_natCast]
    grind
theorem pw_frac (F x : Rat) (m : Nat) : F * pwr x m * (((F.den : Int) * (x.den : Int) ^ m : Int) : Rat) = ((F.num * x.num ^ m : Int) : Rat) := by
  have ih := pw_den x m
  have e := nd F
  rw [Rat.intCast_mul, Rat.intCast_mul, ← ih, e]
  simp only [Rat.intCast_natCast]
  grind
theorem pow_le_den {x : Rat} {c : Nat} (h : Bq c x) (m : Nat) : (x.num ^ m).natAbs ≤ c ^ m ∧ ((x.den : Int) ^ m).natAbs ≤ c ^ m := by
  have a := nn h.s0
  have b := le_one h.s1
  have d := h.sd
  rw [Int.natAbs_pow, Int.natAbs_pow]
  exact ⟨Nat.pow_le_pow_left (by omega) m, Nat.pow_le_pow_left (by omega) m⟩
theorem far_bq {x y : Rat} {a b : Nat} (hx : Bq a x) (hy : Bq b y) : Bq (a * b) (far x y) := by
  have x0 := hx.s0
  have x1 := hx.s1
  have y0 := hy.s0
  have y1 := hy.s1
  refine ⟨far_nn x y, ?_, ?_⟩
  · unfold far
    split <;> grind
  · rw [← mk_far]
    exact Nat.le_trans (den_mk _ _ (Nat.mul_pos x.den_pos y.den_pos)) (Nat.mul_le_mul hx.sd hy.sd)
theorem fix_bq {p q : Rat} (hp : Parts p q) {r : List Pour} (h : r ≠ []) : Bq (12 ^ r.length * 12 ^ r.length) (fixp p q r) := by
  obtain ⟨_, _, f0, f1⟩ := fix_is hp h
  obtain ⟨e, k⟩ := fix_den hp h
  have b0 : Bq (12 ^ r.length) (pours p q 0 r) := by
    have := (show Bq 1 (0 : Rat) from ⟨by decide, by decide, by decide⟩).pours hp r
    rw [Nat.one_mul] at this
    exact this
  have b1 : Bq (12 ^ r.length) (pours p q 1 r) := by
    have := (show Bq 1 (1 : Rat) from ⟨by decide, by decide, by decide⟩).pours hp r
    rw [Nat.one_mul] at this
    exact this
  have ab : pours p q 0 r ≤ pours p q 1 r := pours_le hp r (by decide)
  obtain ⟨m1, m2, m3⟩ := mk_fix b0.s0 ab (by rw [e]; exact k) b1.s1
  refine ⟨f0, f1, ?_⟩
  unfold fixp
  rw [← m1]
  refine Nat.le_trans (den_mk _ _ (by omega)) (Nat.le_trans ?_ (Nat.mul_le_mul b0.sd b1.sd))
  omega
end Pb
namespace Pb
/-! ## over one denominator -/
theorem mul_dn (x : Rat) : x * (x.den : Rat) = (x.num : Rat) := by
  have h : (x.den : Rat) ≠ 0 := fun z => by
    have := Rat.natCast_pos.mpr x.den_pos
    rw [z] at this
    exact absurd this (by decide)
  have e : x = (x.num : Rat) / (x.den : Rat) := by rw [← Rat.mkRat_eq_div, Rat.mkRat_self]
  calc x * (x.den : Rat) = (x.num : Rat) / (x.den : Rat) * (x.den : Rat) := by rw [← e]
    _ = _ := Rat.div_mul_cancel h
def Ov (D : Nat) (x : Rat) : Prop := ∃ k : Int, x * (D : Rat) = (k : Rat)
theorem Ov.add {D : Nat} {x y : Rat} (a : Ov D x) (b : Ov D y) : Ov D (x + y) := by
  obtain ⟨k, hk⟩ := a
  obtain ⟨j, hj⟩ := b
  exact ⟨k + j, by rw [Rat.intCast_add, ← hk, ← hj]; grind⟩
theorem Ov.sub {D : Nat} {x y : Rat} (a : Ov D x) (b : Ov D y) : Ov D (x - y) := by
  obtain ⟨k, hk⟩ := a
  obtain ⟨j, hj⟩ := b
  exact ⟨k - j, by rw [Rat.intCast_sub, ← hk, ← hj]; grind⟩
theorem Ov.far {D : Nat} {x y : Rat} (a : Ov D x) (b : Ov D y) : Ov D (far x y) := by
  unfold Pb.far
  split
  · exact b.sub a
  · exact a.sub b
theorem Ov.zero (D : Nat) : Ov D 0 := ⟨0, by grind⟩
theorem ov_self (x : Rat) : Ov x.den x := ⟨x.num, mul_dn x⟩
theorem Ov.mul {D E : Nat} {x : Rat} (a : Ov D x) : Ov (D * E) x := by
  obtain ⟨k, hk⟩ := a
  exact ⟨k * E, by rw [Rat.intCast_mul, ← hk, Rat.natCast_mul]; simp only [Rat.intCast_natCast]; grind⟩
theorem Ov.pour {D : Nat} {p q s : Rat} (a : Ov D s) (x : Pour) : Ov (D * (p.den * q.den)) (pour1 p q s x) := by
  obtain ⟨k, hk⟩ := a
  have hp := mul_dn p
  have hq := mul_dn q
  cases x with
  | right =>
    refine ⟨k * ((p.den : Int) - p.num) * q.den, ?_⟩
    show s * (1 - p) * _ = _
    rw [Rat.intCast_mul, Rat.intCast_mul, Rat.intCast_sub, ← hk, ← hp, Rat.natCast_mul, Rat.natCast_mul]
    simp only [Rat.intCast_natCast]
    grind
  | left =>
    refine ⟨k * p.den * q.den + ((D : Int) - k) * p.den * q.num, ?_⟩
    show (s + (1 - s) * q) * _ = _
    rw [Rat.intCast_add, Rat.intCast_mul, Rat.intCast_mul, Rat.intCast_mul, Rat.intCast_mul, Rat.intCast_sub, ← hk, ← hq, Rat.natCast_mul, Rat.natCast_mul]
    simp only [Rat.intCast_natCast]
    grind
theorem Ov.pours {p q : Rat} : ∀ {r : List Pour} {D : Nat} {s : Rat}, Ov D s → Ov (D * (p.den * q.den) ^ r.length) (Pb.pours p q s r)
  | [], D, s, a => by
    rw [List.length_nil, Nat.pow_zero, Nat.mul_one]
    exact a
  | x :: r, D, s, a => by
    have h := Ov.pours (p := p) (q := q) (r := r) (a.pour (p := p) (q := q) x)
    rw [List.length_cons, Nat.pow_succ, Nat.mul_comm ((p.den * q.den) ^ r.length), ← Nat.mul_assoc]
    exact h
theorem Ov.den {D : Nat} {x : Rat} (a : Ov D x) (hD : 0 < D) : x.den ≤ D := by
  obtain ⟨k, hk⟩ := a
  have hx := mul_dn x
  have e : ((x.num * (D : Int) : Int) : Rat) = ((k * (x.den : Int) : Int) : Rat) := by
    rw [Rat.intCast_mul, Rat.intCast_mul, ← hx, ← hk]
    simp only [Rat.intCast_natCast]
    grind
  have e2 : x.num * (D : Int) = k * (x.den : Int) := Rat.intCast_inj.mp e
  have e3 : x.num.natAbs * D = k.natAbs * x.den := by
    have := congrArg Int.natAbs e2
    rw [Int.natAbs_mul, Int.natAbs_mul, Int.natAbs_natCast, Int.natAbs_natCast] at this
    exact this
  have hc : Nat.Coprime x.den x.num.natAbs := x.reduced.symm
  have hd : x.den ∣ x.num.natAbs * D := ⟨k.natAbs, by rw [e3, Nat.mul_comm]⟩
  exact Nat.le_of_dvd hD (hc.dvd_of_dvd_mul_left hd)
theorem Ov.smq {D M : Nat} {x : Rat} (a : Ov D x) (hD : 0 < D) (h0 : 0 ≤ x) (h1 : x ≤ (M : Rat)) (hb : D * (M + 1) < 2 ^ 4000) : Smq x := by
  have hd := a.den hD
  have hn := nn h0
  have hle : x.num ≤ (M : Int) * (x.den : Int) := by
    have z : x * (x.den : Rat) ≤ (M : Rat) * (x.den : Rat) := Rat.mul_le_mul_of_nonneg_right h1 (by
      have := x.den_pos
      exact Rat.le_of_lt (Rat.natCast_pos.mpr this))
    rw [mul_dn] at z
    have e : ((x.num : Int) : Rat) ≤ (((M : Int) * (x.den : Int) : Int) : Rat) := by
      rw [Rat.intCast_mul]
      simp only [Rat.intCast_natCast]
      exact z
    exact Rat.intCast_le_intCast.mp e
  have m1 : M * x.den ≤ M * D := Nat.mul_le_mul_left _ hd
  have m2 : D * (M + 1) = M * D + D := by rw [Nat.mul_add, Nat.mul_one, Nat.mul_comm]
  have m3 : x.num.natAbs ≤ M * x.den := by
    have : (x.num.natAbs : Int) ≤ ((M * x.den : Nat) : Int) := by
      rw [Int.natCast_mul]
      omega
    omega
  exact ⟨by omega, by omega⟩
end Pb
namespace Pb
open PySem PySem.Spec PyProof.Rows L2 Dn
section
variable {P : Program} {w : World} {K : PySem.W.Frag} {mg : Str → Option Value} {base : Heap} {f : Addr} {fd : FuncData}
abbrev sp_is_whole : KSp := spF (fun as => as.length = 1) (hd1 fun x => .bool (isWholeD x))
theorem ok_is_whole (F : FnP K "is_whole" s_is_whole f fd) (B : Bi mg) : FnO P w K mg base 1 f fd ["thing"] sp_is_whole := by
  refine fn_P F sc_is_whole (fun as h => h) fun cdv A outer s H E G as hr sm hp => ?_
  obtain ⟨x, rfl⟩ := len1 hp
  refine bm_ret (em_andB (em_isi (em_var 0 rfl) B.isi B.int boot_int (kit_int x)) fun _ => em_one (em_not (em_isi (em_var 0 rfl) B.isi B.bool boot_bool (kit_bool x)))) fun v d G H hd e => ⟨d, hd, ?_⟩
  rw [e]
  cases x <;> rfl
abbrev sp_gcd : KSp := spF (fun as => ∃ m n : Nat, as = [.int m, .int n]) fun as => match as with | [.int m, .int n] => .int (Int.gcd m n) | _ => .none
theorem ok_common_divisor (F : FnP K "common_divisor" s_common_divisor f fd) : FnO P w K mg base 1 f fd ["one", "other"] sp_gcd := by
  refine fn_P F sc_common_divisor (fun as ⟨m, n, e⟩ => by rw [e]; rfl) fun cdv A outer s H E G as hr sm ⟨m, n, e⟩ => ?_
  subst e
  refine bm_while (N1 := fun ds' => ds' = [.dat (.int (Nat.gcd m n : Nat)), .dat (.int 0)]) (fun k ds' => ∃ p q : Nat, ds' = [.dat (.int p), .dat (.int q)] ∧ k = q ∧ Nat.gcd p q = Nat.gcd m n) n ⟨m, n, rfl, rfl, rfl⟩ PassesOwn.never (fun k ds' ⟨p, q, e, ek, eg⟩ => ?_) (fun ds' e => ?_)
  · subst e
    refine ⟨_, tm_gt (em_var 1 rfl) em_int, fun hx => ?_, fun hx => ?_⟩
    · have hq : 0 < (q : Int) := of_decide_eq_true hx
      refine bm_par 0 1 (am_cons (em_var 1 rfl) (am_cons (em_mod hq (em_var 0 rfl) (em_var 1 rfl)) am_nil)) (fun as e => ⟨_, _, e, bm_nil ⟨p % q, by rw [ek]; exact Nat.mod_lt _ (by omega), q, p % q, rfl, rfl, ?_⟩⟩) rfl sc_common_divisor.nd
      rw [Nat.gcd_comm, ← Nat.gcd_rec, Nat.gcd_comm]
      exact eg
    · have hq : ¬ 0 < (q : Int) := of_decide_eq_false hx
      have : q = 0 := by omega
      subst this
      rw [Nat.gcd_zero_right] at eg
      rw [eg]
      rfl
  · subst e
    exact bm_ret (em_var 0 rfl) fun v d G H hd e => ⟨d, hd, e⟩
abbrev sp_lowest : KSp := spF (fun as => ∃ m n : Nat, as = [.int m, .int n] ∧ 0 < n ∧ n < 2 ^ 8010) fun as => match as with | [.int m, .int n] => rt (mkRat m n.toNat) | _ => .none
theorem ok_lowest (F : FnP K "lowest" s_lowest f fd) (Fg : Fk P w K mg base "common_divisor" 1 ["one", "other"] sp_gcd) : FnO P w K mg base 2 f fd ["top", "bottom"] sp_lowest := by
  refine fn_P F sc_lowest (fun as ⟨m, n, e, _⟩ => by rw [e]; rfl) fun cdv A outer s H E G as hr sm ⟨m, n, e, hn, hb⟩ => ?_
  subst e
  refine bm_set (d := .int (Nat.gcd m n : Nat)) 2 (em_callF Fg hr (am_cons (em_var 0 rfl) (am_cons (em_var 1 rfl) am_nil)) ⟨m, n, rfl⟩) ?_ sc_lowest.nd
  have hg : 0 < Nat.gcd m n := Nat.gcd_pos_of_pos_right _ hn
  have hl : Nat.gcd m n < 2 ^ 8010 := Nat.lt_of_le_of_lt (Nat.gcd_le_right _ hn) hb
  have hd : ∀ i : Int, CDivW i (Nat.gcd m n : Nat) := fun i => wide_div (b := 8010) (Int.natCast_pos.mpr hg) hl (by decide) (by decide)
  refine bm_ret (em_tup (am_cons (em_fdiv (hd _) (em_var 0 rfl) (em_var 2 rfl)) (am_cons (em_fdiv (hd _) (em_var 1 rfl) (em_var 2 rfl)) am_nil))) fun v d G H hd e => ⟨d, hd, ?_⟩
  rw [e]
  exact (mkRat_rt m n hn).symm
abbrev sp_is_pair : KSp := spF (fun as => as.length = 1) (hd1 fun x => .bool (isPairD x))
theorem ok_is_pair (F : FnP K "is_pair" s_is_pair f fd) (B : Bi mg) : FnO P w K mg base 1 f fd ["thing"] sp_is_pair := by
  refine fn_P F sc_is_pair (fun as h => h) fun cdv A outer s H E G as hr sm hp => ?_
  obtain ⟨x, rfl⟩ := len1 hp
  cases x with
  | tuple xs =>
    refine bm_ret (em_andB (em_isi (em_var 0 rfl) B.isi B.tuple boot_tuple (kit_tuple _)) fun _ => em_one (em_eqI (em_len (as := xs) (em_mono (em_var 0 rfl) fun _ e => .inr e) B.len) em_int)) fun v d G H hd e => ⟨d, hd, ?_⟩
    rw [e]
    show PyData.bool (true && decide ((xs.length : Int) = 2)) = .bool (isPairD (.tuple xs))
    match xs with
    | [] => rfl
    | [_] => rfl
    | [_, _] => rfl
    | a :: b :: c :: r =>
      show PyData.bool (true && decide (((a :: b :: c :: r).length : Int) = 2)) = .bool false
      rw [decide_eq_false (by simp only [List.length_cons]; omega)]
      rfl
  | _ =>
    refine bm_ret (em_andB (y := false) (em_isi (em_var 0 rfl) B.isi B.tuple boot_tuple (kit_tuple _)) fun h => nomatch h) fun v d G H hd e => ⟨d, hd, ?_⟩
    rw [e]
    rfl
abbrev sp_is_fraction : KSp := spF (fun as => as.length = 1) (hd1 fun x => .bool (isFracD x))
theorem ok_is_fraction (F : FnP K "is_fraction" s_is_fraction f fd) (B : Bi mg) (Fp : Fk P w K mg base "is_pair" 1 ["thing"] sp_is_pair) (Fw : Fk P w K mg base "is_whole" 1 ["thing"] sp_is_whole) (Fg : Fk P w K mg base "common_divisor" 1 ["one", "other"] sp_gcd) :
    FnO P w K mg base 2 f fd ["thing"] sp_is_fraction := by
  refine fn_P F sc_is_fraction (fun as h => h) fun cdv A outer s H E G as hr sm hp => ?_
  obtain ⟨x, rfl⟩ := len1 hp
  refine bm_ifR (tm_notB (tm_val (em_callF (d := .bool (isPairD x)) Fp hr (am_cons (em_var 0 rfl) am_nil) rfl))) (fun h => bm_ret em_bl fun v d G H hd e => ⟨d, hd, ?_⟩) fun h => ?_
  · rw [e]
    show PyData.bool false = .bool (isFracD x)
    have h : isPairD x = false := by simpa using h
    unfold isFracD
    split
    · cases h
    · rfl
  have h : isPairD x = true := by simpa using h
  obtain ⟨t, b, rfl⟩ : ∃ t b, x = .tuple [t, b] := by
    unfold isPairD at h
    split at h
    · exact ⟨_, _, rfl⟩
    · cases h
  refine bm_tup2 1 2 (em_var 0 rfl) ?_ rfl sc_is_fraction.nd (ht := fun h => ps_asg pe_u (pg_tup rfl h))
  by_cases ht : isWholeD t = true
  · by_cases hb : isWholeD b = true
    · obtain ⟨t, rfl⟩ : ∃ i, t = .int i := by cases t <;> first | exact ⟨_, rfl⟩ | cases ht
      obtain ⟨b, rfl⟩ : ∃ i, b = .int i := by cases b <;> first | exact ⟨_, rfl⟩ | cases hb
      refine bm_ifR (tm_w (wm_orB (tm_notB (tm_val (em_callF (d := .bool true) Fw hr (am_cons (em_var 1 rfl) am_nil) rfl))) fun _ => wm_orB (tm_notB (tm_val (em_callF (d := .bool true) Fw hr (am_cons (em_var 2 rfl) am_nil) rfl))) fun _ => wm_or1 (tm_lt (em_var 2 rfl) em_int))) (fun h => bm_ret em_bl fun v d G H hd e => ⟨d, hd, ?_⟩) fun h => ?_
      · rw [e]
        have h : b < 1 := by simpa using h
        show PyData.bool false = .bool (decide (1 ≤ b) && _)
        rw [decide_eq_false (by omega)]
        rfl
      · have h : ¬ b < 1 := by simpa using h
        refine bm_ret (em_eqI (em_callF (d := .int (Int.gcd t b)) Fg hr (am_cons (em_abs (em_var 1 rfl) B.abs) (am_cons (em_var 2 rfl) am_nil)) ⟨t.natAbs, b.toNat, ?_⟩ ?_) em_int) fun v d G H hd e => ⟨d, hd, ?_⟩
        · rw [Int.toNat_of_nonneg (by omega)]
        · show PyData.int (Int.gcd (t.natAbs : Int) b) = _
          unfold Int.gcd
          rw [Int.natAbs_natCast]
        · rw [e]
          show _ = PyData.bool (decide (1 ≤ b) && _)
          rw [decide_eq_true (by omega : 1 ≤ b)]
          rfl
    · have hb : isWholeD b = false := by simpa using hb
      obtain ⟨t, rfl⟩ : ∃ i, t = .int i := by cases t <;> first | exact ⟨_, rfl⟩ | cases ht
      refine bm_ifR (x := true) (tm_mono (tm_w (wm_orB (y := true) (tm_notB (tm_val (em_callF (d := .bool true) Fw hr (am_cons (em_var 1 rfl) am_nil) rfl))) fun _ => wm_or (x := true) (tm_mono (tm_notB (tm_val (em_callF (d := .bool false) Fw hr (am_cons (em_var 2 rfl) am_nil) rfl (congrArg PyData.bool hb)))) fun _ e => e) (fun _ => rfl) fun h => nomatch h)) fun _ e => e) (fun _ => bm_ret em_bl fun v d G H hd e => ⟨d, hd, ?_⟩) fun h => nomatch h
      rw [e]
      show PyData.bool false = .bool (isFracD _)
      cases b <;> first | rfl | cases hb
  · have ht : isWholeD t = false := by simpa using ht
    refine bm_ifR (x := true) (tm_mono (tm_w (wm_or (x := true) (P := (· = true)) (tm_mono (tm_notB (tm_val (em_callF (d := .bool false) Fw hr (am_cons (em_var 1 rfl) am_nil) rfl (congrArg PyData.bool ht)))) fun _ e => e) (fun _ => rfl) fun h => nomatch h)) fun _ e => e) (fun _ => bm_ret em_bl fun v d G H hd e => ⟨d, hd, ?_⟩) fun h => nomatch h
    rw [e]
    show PyData.bool false = .bool (isFracD _)
    cases t <;> first | rfl | cases ht
theorem frac_of {x : PyData} (h : isFracD x = true) : ∃ t b, x = .tuple [.int t, .int b] := by
  unfold isFracD at h
  split at h
  · exact ⟨_, _, rfl⟩
  · cases h
abbrev sp_is_part : KSp := spF (fun as => as.length = 1) (hd1 fun x => .bool (isPartD x))
theorem ok_is_part (F : FnP K "is_part" s_is_part f fd) (C : Cn mg) (Fp : Fk P w K mg base "is_fraction" 2 ["thing"] sp_is_fraction) : FnO P w K mg base 3 f fd ["thing"] sp_is_part := by
  refine fn_P F sc_is_part (fun as h => h) fun cdv A outer s H E G as hr sm hp => ?_
  obtain ⟨x, rfl⟩ := len1 hp
  obtain ⟨tk, hk⟩ := C.p
  refine bm_ifR (tm_notB (tm_val (em_callF (d := .bool (isFracD x)) Fp hr (am_cons (em_var 0 rfl) am_nil) rfl))) (fun h => bm_ret em_bl fun v d G H hd e => ⟨d, hd, ?_⟩) fun h => ?_
  · rw [e]
    have h : isFracD x = false := by simpa using h
    show PyData.bool false = .bool (isPartD x)
    unfold isPartD
    split
    · rw [h]
      rfl
    · rfl
  · have h : isFracD x = true := by simpa using h
    obtain ⟨t, b, rfl⟩ := frac_of h
    refine bm_tup2 1 2 (em_var 0 rfl) ?_ rfl sc_is_part.nd (ht := fun h => ps_asg pe_u (pg_tup rfl h))
    refine bm_ret (em_chain3 op_lt op_lt op_le em_int (em_var 1 rfl) (em_var 2 rfl) (em_gint hk)) fun v d G H hd e => ⟨d, hd, ?_⟩
    rw [e]
    show _ = PyData.bool (isFracD _ && _)
    rw [h]
    rfl
abbrev sp_is_share : KSp := spF (fun as => as.length = 1) (hd1 fun x => .bool (isShareD x))
theorem ok_is_share (F : FnP K "is_share" s_is_share f fd) (C : Cn mg) (Fp : Fk P w K mg base "is_fraction" 2 ["thing"] sp_is_fraction) : FnO P w K mg base 3 f fd ["thing"] sp_is_share := by
  refine fn_P F sc_is_share (fun as h => h) fun cdv A outer s H E G as hr sm hp => ?_
  obtain ⟨x, rfl⟩ := len1 hp
  obtain ⟨tk, hk⟩ := C.s
  refine bm_ifR (tm_notB (tm_val (em_callF (d := .bool (isFracD x)) Fp hr (am_cons (em_var 0 rfl) am_nil) rfl))) (fun h => bm_ret em_bl fun v d G H hd e => ⟨d, hd, ?_⟩) fun h => ?_
  · rw [e]
    have h : isFracD x = false := by simpa using h
    show PyData.bool false = .bool (isShareD x)
    unfold isShareD
    split
    · rw [h]
      rfl
    · rfl
  · have h : isFracD x = true := by simpa using h
    obtain ⟨t, b, rfl⟩ := frac_of h
    refine bm_tup2 1 2 (em_var 0 rfl) ?_ rfl sc_is_share.nd (ht := fun h => ps_asg pe_u (pg_tup rfl h))
    refine bm_ret (em_chain3 op_le op_le op_le em_int (em_var 1 rfl) (em_var 2 rfl) (em_gint hk)) fun v d G H hd e => ⟨d, hd, ?_⟩
    rw [e]
    show _ = PyData.bool (isFracD _ && _)
    rw [h]
    rfl
theorem pair_of {x : PyData} (h : isPairD x = true) : ∃ t b, x = .tuple [t, b] := by
  unfold isPairD at h
  split at h
  · exact ⟨_, _, rfl⟩
  · cases h
theorem part_of {x : PyData} (h : isPartD x = true) : ∃ t b : Int, x = .tuple [.int t, .int b] ∧ 0 < t ∧ t < b ∧ b ≤ 12 := by
  unfold isPartD at h
  split at h
  · rename_i t b
    rw [Bool.and_eq_true, Bool.and_eq_true, Bool.and_eq_true] at h
    exact ⟨t, b, rfl, of_decide_eq_true h.2.1, of_decide_eq_true h.2.2.1, of_decide_eq_true h.2.2.2⟩
  · cases h
abbrev sp_are_parts : KSp := spF (fun as => as.length = 1) (hd1 fun x => .bool (arePartsD x))
theorem are_no {a b : PyData} (h : isPartD a = false ∨ isPartD b = false) : arePartsD (.tuple [a, b]) = false := by
  unfold arePartsD
  split
  · rename_i z
    injection z with z
    injection z with z1 z2
    injection z2 with z2 _
    subst z1
    subst z2
    rcases h with h | h
    · rw [h]
      rfl
    · rw [h, Bool.false_and, Bool.and_false]
  · rfl
theorem ok_are_parts (F : FnP K "are_parts" s_are_parts f fd) (Fp : Fk P w K mg base "is_pair" 1 ["thing"] sp_is_pair) (Fq : Fk P w K mg base "is_part" 3 ["thing"] sp_is_part) : FnO P w K mg base 4 f fd ["thing"] sp_are_parts := by
  refine fn_P F sc_are_parts (fun as h => h) fun cdv A outer s H E G as hr sm hp => ?_
  obtain ⟨x, rfl⟩ := len1 hp
  refine bm_ifR (tm_notB (tm_val (em_callF (d := .bool (isPairD x)) Fp (hr.mono (by decide)) (am_cons (em_var 0 rfl) am_nil) rfl))) (fun h => bm_ret em_bl fun v d G H hd e => ⟨d, hd, ?_⟩) fun h => ?_
  · rw [e]
    have h : isPairD x = false := by simpa using h
    show PyData.bool false = .bool (arePartsD x)
    unfold arePartsD
    split
    · cases h
    · rfl
  have h : isPairD x = true := by simpa using h
  obtain ⟨a, b, rfl⟩ := pair_of h
  refine bm_tup2 1 2 (em_var 0 rfl) ?_ rfl sc_are_parts.nd (ht := fun h => ps_asg pe_u (pg_tup rfl h))
  by_cases ha : isPartD a = true
  · by_cases hb : isPartD b = true
    · obtain ⟨t, u, rfl, h1, h2, h3⟩ := part_of ha
      obtain ⟨t', u', rfl, h4, h5, h6⟩ := part_of hb
      refine bm_ifR (tm_w (wm_orB (tm_notB (tm_val (em_callF (d := .bool true) Fq hr (am_cons (em_var 1 rfl) am_nil) rfl (congrArg PyData.bool ha)))) fun _ => wm_or1 (tm_notB (tm_val (em_callF (d := .bool true) Fq hr (am_cons (em_var 2 rfl) am_nil) rfl (congrArg PyData.bool hb)))))) (fun h => nomatch h) fun _ => ?_
      refine bm_tup2 3 4 (em_var 1 rfl) ?_ rfl sc_are_parts.nd (ht := fun h => ps_asg pe_u (pg_tup rfl h))
      refine bm_tup2 5 6 (em_var 2 rfl) ?_ rfl sc_are_parts.nd (ht := fun h => ps_asg pe_u (pg_tup rfl h))
      refine bm_ret (em_ge (em_add (em_mulS (.inl (by omega)) (em_var 3 rfl) (em_var 6 rfl)) (em_mulS (.inl (by omega)) (em_var 5 rfl) (em_var 4 rfl))) (em_mulS (.inl (by omega)) (em_var 4 rfl) (em_var 6 rfl))) fun v d G H hd e => ⟨d, hd, ?_⟩
      rw [e]
      show _ = PyData.bool (isPartD _ && (isPartD _ && _))
      rw [ha, hb]
      rfl
    · have hb : isPartD b = false := by simpa using hb
      refine bm_ifR (tm_w (wm_orB (tm_notB (tm_val (em_callF (d := .bool true) Fq hr (am_cons (em_var 1 rfl) am_nil) rfl (congrArg PyData.bool ha)))) fun _ => wm_or1 (tm_notB (tm_val (em_callF (d := .bool false) Fq hr (am_cons (em_var 2 rfl) am_nil) rfl (congrArg PyData.bool hb)))))) (fun _ => bm_ret em_bl fun v d G H hd e => ⟨d, hd, ?_⟩) fun h => nomatch h
      rw [e]
      exact congrArg PyData.bool (are_no (.inr hb)).symm
  · have ha : isPartD a = false := by simpa using ha
    refine bm_ifR (x := true) (tm_mono (tm_w (wm_or (x := true) (P := (· = true)) (tm_mono (tm_notB (tm_val (em_callF (d := .bool false) Fq hr (am_cons (em_var 1 rfl) am_nil) rfl (congrArg PyData.bool ha)))) fun _ e => e) (fun _ => rfl) fun h => nomatch h)) fun _ e => e) (fun _ => bm_ret em_bl fun v d G H hd e => ⟨d, hd, ?_⟩) fun h => nomatch h
    rw [e]
    exact congrArg PyData.bool (are_no (.inl ha)).symm
abbrev sp_is_pour : KSp := spF (fun as => ∃ x, as = [x] ∧ SeqAt.shaped x = true) (hd1 fun x => .bool (isPourD x))
theorem shaped_r : SeqAt.shaped (.str "right") = true := by decide +kernel
theorem shaped_l : SeqAt.shaped (.str "left") = true := by decide +kernel
theorem ok_is_pour (F : FnP K "is_pour" s_is_pour f fd) (C : Cn mg) : FnO P w K mg base 1 f fd ["thing"] sp_is_pour := by
  refine fn_P F sc_is_pour (fun as ⟨x, e, _⟩ => by rw [e]; rfl) fun cdv A outer s H E G as hr sm ⟨x, e, hx⟩ => ?_
  subst e
  obtain ⟨tk, hk⟩ := C.r
  obtain ⟨tl, hl⟩ := C.l
  exact bm_ret (em_orB (em_eqD hr hx shaped_r (em_var 0 rfl) (em_gstr hk)) fun _ => em_one (em_eqD hr hx shaped_l (em_var 0 rfl) (em_gstr hl))) fun v d G H hd e => ⟨d, hd, e⟩
end
end Pb
namespace Pb
open PySem PySem.Spec PyProof.Rows L2 Dn
section
variable {P : Program} {w : World} {K : PySem.W.Frag} {mg : Str → Option Value} {base : Heap} {f : Addr} {fd : FuncData}
abbrev sp_is_row : KSp := spF (fun as => ∃ x, as = [x] ∧ ∀ xs, x = .tuple xs → ∀ y ∈ xs, SeqAt.shaped y = true) (hd1 fun x => .bool (isRowD x))
abbrev spN (pre : List PyData → Prop) : KSp := spF pre fun _ => .none
abbrev sp_need_parts : KSp := spN fun as => ∃ x, as = [x] ∧ arePartsD x = true
theorem ok_need_parts (F : FnP K "need_parts" s_need_parts f fd) (Fp : Fk P w K mg base "are_parts" 4 ["thing"] sp_are_parts) : FnO P w K mg base 5 f fd ["parts"] sp_need_parts := by
  refine fn_P F sc_need_parts (fun as ⟨x, e, _⟩ => by rw [e]; rfl) fun cdv A outer s H E G as hr sm ⟨x, e, hx⟩ => ?_
  subst e
  exact bm_ifR (tm_notB (tm_val (em_callF (d := .bool true) Fp hr (am_cons (em_var 0 rfl) am_nil) rfl (congrArg PyData.bool hx)))) (fun h => nomatch h) fun _ => bm_nil rfl
abbrev sp_need_share : KSp := spN fun as => ∃ x, as = [x] ∧ isShareD x = true
theorem ok_need_share (F : FnP K "need_share" s_need_share f fd) (Fp : Fk P w K mg base "is_share" 3 ["thing"] sp_is_share) : FnO P w K mg base 4 f fd ["share"] sp_need_share := by
  refine fn_P F sc_need_share (fun as ⟨x, e, _⟩ => by rw [e]; rfl) fun cdv A outer s H E G as hr sm ⟨x, e, hx⟩ => ?_
  subst e
  exact bm_ifR (tm_notB (tm_val (em_callF (d := .bool true) Fp hr (am_cons (em_var 0 rfl) am_nil) rfl (congrArg PyData.bool hx)))) (fun h => nomatch h) fun _ => bm_nil rfl
abbrev sp_need_row : KSp := spN fun as => ∃ r : List Pour, as = [rowD r] ∧ r.length ≤ 40
theorem low_pre {a b : Int} {m n : Nat} (ha : 0 ≤ a) (hb : 0 < b) (hl : b.natAbs < 2 ^ 8010) : ∃ m n : Nat, [PyData.int a, .int b] = [.int m, .int n] ∧ 0 < n ∧ n < 2 ^ 8010 :=
  ⟨a.toNat, b.toNat, by rw [Int.toNat_of_nonneg ha, Int.toNat_of_nonneg (by omega)], by omega, by omega⟩
theorem mul_small {a b : Nat} (ha : a < 2 ^ 4000) (hb : b < 2 ^ 4000) : a * b < 2 ^ 8010 :=
  Nat.lt_of_lt_of_le (Nat.mul_lt_mul'' ha hb) (by rw [← Nat.pow_add]; exact Nat.pow_le_pow_right (by decide) (by decide))
abbrev sp_behind_right : KSp := spP (fun as => ∃ p s, as = [rt p, rt s] ∧ Smq p ∧ Smq s ∧ 0 ≤ s ∧ p ≤ 1 ∧ 0 ≤ p) fun as d => ∀ p s, as = [rt p, rt s] → d = rt (s * (1 - p))
theorem rts {a b c d : Rat} (h : [rt a, rt b] = [rt c, rt d]) : a = c ∧ b = d := by
  injection h with h1 h2
  injection h2 with h2 _
  exact ⟨rt_inj h1, rt_inj h2⟩
theorem sub_sm {p : Rat} (h : Smq p) (h0 : 0 ≤ p) (h1 : p ≤ 1) : Sm ((p.den : Int) - p.num) := by
  have a := nn h0
  have b := le_one h1
  have c := h.d
  unfold Sm
  omega
theorem ok_behind_right (F : FnP K "behind_right" s_behind_right f fd) (Fl : Fk P w K mg base "lowest" 2 ["top", "bottom"] sp_lowest) : FnO P w K mg base 3 f fd ["p", "share"] sp_behind_right := by
  refine fn_P F sc_behind_right (fun as ⟨p, s, e, _⟩ => by rw [e]; rfl) fun cdv A outer sh H E G as hr sm ⟨p, s, e, hp, hs, s0, p1, p0⟩ => ?_
  subst e
  refine bm_tup2 2 3 (em_var 0 rfl) ?_ rfl sc_behind_right.nd (ht := fun h => ps_asg pe_u (pg_tup rfl h))
  refine bm_tup2 4 5 (em_var 1 rfl) ?_ rfl sc_behind_right.nd (ht := fun h => ps_asg pe_u (pg_tup rfl h))
  have h1 := nn s0
  have h2 := le_one p1
  refine bm_ret (em_callF (d := rt (s * (1 - p))) Fl hr (am_cons (em_mul (cm hs.n (sub_sm hp p0 p1)) (em_var 4 rfl) (em_sub (em_var 3 rfl) (em_var 2 rfl))) (am_cons (em_mul (cm hs.d' hp.d') (em_var 5 rfl) (em_var 3 rfl)) am_nil)) ?_ ?_) fun v d G H hd e => ⟨d, hd, fun p' s' e' => ?_⟩
  · refine low_pre (m := 0) (n := 0) (Int.mul_nonneg h1 (by omega)) (Int.mul_pos (dpos s) (dpos p)) ?_
    rw [Int.natAbs_mul]
    exact mul_small hs.d' hp.d'
  · rw [← mk_right s p]
    rfl
  · obtain ⟨rfl, rfl⟩ := rts e'
    exact e
abbrev sp_behind_left : KSp := spP (fun as => ∃ p s, as = [rt p, rt s] ∧ Smq p ∧ Smq s ∧ 0 ≤ s ∧ s ≤ 1 ∧ 0 ≤ p) fun as d => ∀ p s, as = [rt p, rt s] → d = rt (s + (1 - s) * p)
theorem ok_behind_left (F : FnP K "behind_left" s_behind_left f fd) (Fl : Fk P w K mg base "lowest" 2 ["top", "bottom"] sp_lowest) : FnO P w K mg base 3 f fd ["q", "share"] sp_behind_left := by
  refine fn_P F sc_behind_left (fun as ⟨p, s, e, _⟩ => by rw [e]; rfl) fun cdv A outer sh H E G as hr sm ⟨p, s, e, hp, hs, s0, s1, p0⟩ => ?_
  subst e
  refine bm_tup2 2 3 (em_var 0 rfl) ?_ rfl sc_behind_left.nd (ht := fun h => ps_asg pe_u (pg_tup rfl h))
  refine bm_tup2 4 5 (em_var 1 rfl) ?_ rfl sc_behind_left.nd (ht := fun h => ps_asg pe_u (pg_tup rfl h))
  have h1 := nn s0
  have h2 := le_one s1
  have h3 := nn p0
  refine bm_ret (em_callF (d := rt (s + (1 - s) * p)) Fl hr (am_cons (em_add (em_mul (cm hs.n hp.d') (em_var 4 rfl) (em_var 3 rfl)) (em_mul (cm (sub_sm hs s0 s1) hp.n) (em_sub (em_var 5 rfl) (em_var 4 rfl)) (em_var 2 rfl))) (am_cons (em_mul (cm hs.d' hp.d') (em_var 5 rfl) (em_var 3 rfl)) am_nil)) ?_ ?_) fun v d G H hd e => ⟨d, hd, fun p' s' e' => ?_⟩
  · refine low_pre (m := 0) (n := 0) (Int.add_nonneg (Int.mul_nonneg h1 (by omega)) (Int.mul_nonneg (by omega) h3)) (Int.mul_pos (dpos s) (dpos p)) ?_
    rw [Int.natAbs_mul]
    exact mul_small hs.d' hp.d'
  · rw [← mk_left s p]
    rfl
  · obtain ⟨rfl, rfl⟩ := rts e'
    exact e
abbrev ptD (p q : Rat) : PyData := .tuple [rt p, rt q]
abbrev sp_behind_pour : KSp := spP (fun as => ∃ p q s x, as = [ptD p q, rt s, Pour.d x] ∧ Parts p q ∧ Smq s ∧ 0 ≤ s ∧ s ≤ 1) fun as d => ∀ p q s x, as = [ptD p q, rt s, Pour.d x] → d = rt (pour1 p q s x)
theorem pt_inj {p q p' q' : Rat} (h : ptD p q = ptD p' q') : p = p' ∧ q = q' := by
  injection h with h
  exact rts h
theorem pour_inj {x y : Pour} (h : x.d = y.d) : x = y := by
  have e := pour_eqv_r x
  rw [h, pour_eqv_r] at e
  cases x <;> cases y <;> first | rfl | cases e
theorem ok_behind_pour (F : FnP K "behind_pour" s_behind_pour f fd) (C : Cn mg) (Fr : Fk P w K mg base "behind_right" 3 ["p", "share"] sp_behind_right) (Fl : Fk P w K mg base "behind_left" 3 ["q", "share"] sp_behind_left) : FnO P w K mg base 4 f fd ["parts", "share", "pour"] sp_behind_pour := by
  refine fn_P F sc_behind_pour (fun as ⟨p, q, s, x, e, _⟩ => by rw [e]; rfl) fun cdv A outer sh H E G as hr sm ⟨p, q, s, x, e, hp, hs, s0, s1⟩ => ?_
  subst e
  obtain ⟨tk, hk⟩ := C.r
  refine bm_tup2 3 4 (em_var 0 rfl) ?_ rfl sc_behind_pour.nd (ht := fun h => ps_asg pe_u (pg_tup rfl h))
  have fin : ∀ d, d = rt (pour1 p q s x) → ∀ p' q' s' x', [ptD p q, rt s, x.d] = [ptD p' q', rt s', x'.d] → d = rt (pour1 p' q' s' x') := fun d e p' q' s' x' h => by
    injection h with h1 h2
    injection h2 with h2 h3
    injection h3 with h3 _
    obtain ⟨rfl, rfl⟩ := pt_inj h1
    rw [← rt_inj h2, ← pour_inj h3]
    exact e
  cases x with
  | right => exact bm_ifR (tm_eqS (em_var 2 rfl) (em_gstr hk)) (fun _ => bm_ret (em_call Fr hr (am_cons (em_var 3 rfl) (am_cons (em_var 1 rfl) am_nil)) ⟨p, s, rfl, hp.sp, hs, s0, Rat.le_of_lt hp.p1, Rat.le_of_lt hp.p0⟩) fun v d G H hd e => ⟨d, hd, fin d (e p s rfl)⟩) fun h => absurd h (by decide +kernel)
  | left => exact bm_ifR (tm_eqS (em_var 2 rfl) (em_gstr hk)) (fun h => absurd h (by decide +kernel)) fun _ => bm_ret (em_call Fl hr (am_cons (em_var 4 rfl) (am_cons (em_var 1 rfl) am_nil)) ⟨q, s, rfl, hp.sq, hs, s0, s1, Rat.le_of_lt hp.q0⟩) fun v d G H hd e => ⟨d, hd, fin d (e q s rfl)⟩
abbrev pre_behind (as : List PyData) : Prop := ∃ p q s r, as = [ptD p q, rt s, rowD r] ∧ Parts p q ∧ Share s ∧ r.length ≤ 40
abbrev sp_behind : KSp := spP pre_behind fun as d => ∀ p q s r, as = [ptD p q, rt s, rowD r] → d = rt (pours p q s r)
theorem row_inj {r r' : List Pour} (h : rowD r = rowD r') : r = r' := by
  injection h with h
  induction r generalizing r' with
  | nil => cases r' with
    | nil => rfl
    | cons => cases h
  | cons x r ih => cases r' with
    | nil => cases h
    | cons y r' =>
      injection h with h1 h2
      rw [pour_inj h1, ih h2]
theorem psr_inj {p q s p' q' s' : Rat} {r r' : List Pour} (h : [ptD p q, rt s, rowD r] = [ptD p' q', rt s', rowD r']) : p = p' ∧ q = q' ∧ s = s' ∧ r = r' := by
  injection h with h1 h2
  injection h2 with h2 h3
  injection h3 with h3 _
  obtain ⟨a, b⟩ := pt_inj h1
  exact ⟨a, b, rt_inj h2, row_inj h3⟩
def allPours (p q s : Rat) (r : List Pour) : List PyData := (List.range r.length).map fun n => rt (pours p q s (r.take (n + 1)))
abbrev sp_all_behind : KSp := spL pre_behind fun as xs => ∀ p q s r, as = [ptD p q, rt s, rowD r] → xs = allPours p q s r
end
end Pb
namespace Pb
open PySem PySem.Spec PyProof.Rows L2 Dn
structure Bj (mg : Str → Option Value) : Prop where
  range : mg "range" = none
  max : mg "max" = none
  min : mg "min" = none
section
variable {P : Program} {w : World} {K : PySem.W.Frag} {mg : Str → Option Value} {base : Heap} {f : Addr} {fd : FuncData}
abbrev isI (d : PyData) : Prop := ∃ x : Int, d = .int x
abbrev isIn (m : Int) (d : PyData) : Prop := ∃ x : Int, d = .int x ∧ 0 ≤ x ∧ x < m
abbrev sp_cell : KSp := spS (fun ns as => ∃ k : Nat, as = [.int k]) fun _ _ d => isI d
theorem ok__law_cell_at (F : FnP K "_law_cell_at" s__law_cell_at f fd) (B : Bi mg) : FnO P w K mg base 1 f fd ["script", "k"] sp_cell := by
  refine fn_S F sc__law_cell_at (fun ns as ⟨k, e⟩ => by rw [e]; rfl) fun cdv A outer s H E G b ns as hr ⟨k, e⟩ => ?_
  subst e
  refine bm_ifR (tm_lt (em_var 1 rfl) (em_slen 0 rfl B.len)) (fun h => ?_) fun _ => bm_ret em_int fun v d G H hd e => ⟨d, hd, _, e⟩
  have h : k < ns.length := by
    have := of_decide_eq_true h
    omega
  exact bm_ret (em_six 0 rfl (em_var 1 rfl) (List.getElem?_eq_getElem h)) fun v d G H hd e => ⟨d, hd, _, e⟩
abbrev sp_draws : KSp := spL (fun as => ∃ c : Int, as = [.int c, .int 400, .int 1000]) fun _ xs => ∃ ns : List Int, xs = ns.map .int ∧ ns.length = 400
theorem ok__law_draws (F : FnP K "_law_draws" s__law_draws f fd) (B : Bi mg) (J : Bj mg) : FnO P w K mg base 1 f fd ["cell", "many", "size"] sp_draws := by
  refine fn_L F sc__law_draws (fun as ⟨c, e⟩ => by rw [e]; rfl) fun cdv A outer s H E G as hr sm ⟨c, e⟩ => ?_
  subst e
  refine bm_new 3 (fun a ha _ _ => ?_) sc__law_draws.nd
  refine bm_set 4 (em_mulS (.inr ?_) (em_var 0 rfl) (em_intB (em_ge (em_var 0 rfl) (em_pow ⟨by decide, by decide, by decide⟩ em_int em_int)) B.int)) ?_ sc__law_draws.nd
  · split <;> decide
  refine bm_set 5 (em_mod (by decide) (em_var 0 rfl) em_int) ?_ sc__law_draws.nd
  refine bm_forR (N1 := fun ds' => ∃ (fs : List Int) (x y z : Sl), ds' = [.dat (.int c), .dat (.int 400), .dat (.int 1000), .own a (fs.map .int), x, y, z] ∧ fs.length = 400) 6 (em_add (em_var 1 rfl) em_int) (by decide)
    (fun n ds' => ∃ (fs : List Int) (x y : Int) (z : Sl), ds' = [.dat (.int c), .dat (.int 400), .dat (.int 1000), .own a (fs.map .int), .dat (.int x), .dat (.int y), z] ∧ fs.length = n - 3 ∧ 0 ≤ y ∧ y < 2305843009213693951)
    ⟨[], _, _, .un, rfl, rfl, Int.emod_nonneg _ (by decide), Int.emod_lt_of_pos _ (by decide)⟩ PassesOwn.never rfl (fun n ds' hn ⟨fs, x, y, z, e, hl, h0, h1⟩ => ?_) (fun ds' ⟨fs, x, y, z, e, hl, _⟩ => ?_) (fun ds' ⟨fs, x, y, z, e, hl⟩ => ?_) J.range sc__law_draws.nd
  · subst e
    have hn : n < 403 := hn
    refine bm_set 5 (em_mod (by decide) (em_add (em_add (em_add (em_mulS (.inl ⟨by omega, by omega⟩) (em_var 5 rfl) (em_var 5 rfl)) (em_mulS (.inl ⟨by decide, by decide⟩) em_int (em_var 5 rfl))) (em_var 6 rfl)) em_int) em_int) ?_ sc__law_draws.nd
    have g0 : 0 ≤ (y * y + 48271 * y + (n : Int) + 1) % 2305843009213693951 := Int.emod_nonneg _ (by decide)
    have g1 : (y * y + 48271 * y + (n : Int) + 1) % 2305843009213693951 < 2305843009213693951 := Int.emod_lt_of_pos _ (by decide)
    generalize (y * y + 48271 * y + (n : Int) + 1) % 2305843009213693951 = y' at g0 g1
    have own : ∀ (j : Nat) zs, [Sl.dat (.int c), .dat (.int 400), .dat (.int 1000), .own a (fs.map .int), .dat (.int x), .dat (.int y'), .dat (.int n)][j]? = some (.own a zs) → j = 3 := by
      intro j zs h
      match j with
      | 0 => cases h
      | 1 => cases h
      | 2 => cases h
      | 3 => rfl
      | 4 => cases h
      | 5 => cases h
      | 6 => cases h
    have hz : (fs.map PyData.int).length < 100000 := by
      rw [List.length_map]
      omega
    have app : ∀ v : Int, fs.map PyData.int ++ [.int v] = (fs ++ [v]).map .int := fun v => by
      rw [List.map_append]
      rfl
    refine bm_if' (N1 := fun ds' => ∃ (fs : List Int) (x y : Int) (z : Sl), ds' = [.dat (.int c), .dat (.int 400), .dat (.int 1000), .own a (fs.map .int), .dat (.int x), .dat (.int y), z] ∧ fs.length = n + 1 - 3 ∧ 0 ≤ y ∧ y < 2305843009213693951) (Pc := fun b => b = true → 2 < n) (tm_w (wm_and (tm_gt (em_var 6 rfl) em_int) (fun _ h => nomatch h) fun h => wm_and1 (tm_mono (tm_gt (em_var 4 rfl) em_int) fun _ _ _ => by have := of_decide_eq_true h; omega))) (fun h => ?_) (fun _ => ?_) fun ds' h => bm_nil h
    · refine bm_app 3 rfl (em_mod (by decide) (em_var 4 rfl) (em_var 2 rfl)) ha hz own (fun d e => ?_) (ht := ps_expr (pe_bm PySem.F.plainAttrs_list PySem.F.slot_list_append PySem.F.type_list_append mt_append (pv 3) (pa_cons pe_u pa_nil)))
      refine bm_set 4 (em_fdiv ⟨by decide, by decide +kernel⟩ (em_var 4 rfl) (em_var 2 rfl)) (bm_nil ⟨fs ++ [x % 1000], x / 1000, y', .dat (.int n), ?_, ?_, g0, g1⟩) sc__law_draws.nd
      · rw [e, ← app]
        rfl
      · have := h rfl
        rw [List.length_append, List.length_singleton]
        omega
    · refine bm_if' (N1 := fun ds' => ∃ (fs : List Int) (x y : Int) (z : Sl), ds' = [.dat (.int c), .dat (.int 400), .dat (.int 1000), .own a (fs.map .int), .dat (.int x), .dat (.int y), z] ∧ fs.length = n + 1 - 3 ∧ 0 ≤ y ∧ y < 2305843009213693951) (tm_gt (em_var 6 rfl) em_int) (fun h => ?_) (fun h => bm_nil ⟨fs, x, y', .dat (.int n), rfl, ?_, g0, g1⟩) fun ds' h => bm_nil h
      · refine bm_app 3 rfl (em_mod (by decide) (em_fdiv ⟨by decide, by decide +kernel⟩ (em_var 5 rfl) em_int) (em_var 2 rfl)) ha hz own (fun d e => bm_nil ⟨fs ++ [y' / 4096 % 1000], x, y', .dat (.int n), ?_, ?_, g0, g1⟩) (ht := ps_expr (pe_bm PySem.F.plainAttrs_list PySem.F.slot_list_append PySem.F.type_list_append mt_append (pv 3) (pa_cons pe_u pa_nil)))
        · rw [e, ← app]
          rfl
        · have h : (2 : Int) < n := of_decide_eq_true h.symm
          rw [List.length_append, List.length_singleton]
          omega
      · have h : ¬ (2 : Int) < n := of_decide_eq_false h.symm
        omega
  · exact ⟨fs, _, _, z, e, hl⟩
  · subst e
    exact bm_retL 3 rfl ha ⟨fs, rfl, hl⟩
abbrev sp_bag : KSp := spSL (fun ns as => ∃ k : Nat, as = [.int k]) fun _ _ xs => ∃ ns : List Int, xs = [.list (ns.map .int), .int 0] ∧ ns.length = 400
theorem ok__law_bag (F : FnP K "_law_bag" s__law_bag f fd) (F1 : Fk P w K mg base "_law_cell_at" 1 ["script", "k"] sp_cell) (F2 : Fk P w K mg base "_law_draws" 1 ["cell", "many", "size"] sp_draws) : FnO P w K mg base 2 f fd ["script", "k"] sp_bag := by
  refine fn_SL F sc__law_bag (fun ns as ⟨k, e⟩ => by rw [e]; rfl) fun cdv A outer s H E G b ns as hr ⟨k, e⟩ => ?_
  subst e
  refine bm_retNew (Pa := fun as => ∃ ns : List Int, as = [.list (ns.map .int), .int 0] ∧ ns.length = 400) (am_cons' (Pa := fun d => ∃ ns : List Int, d = .list (ns.map .int) ∧ ns.length = 400) (em_callL F2 hr (Pa := fun as => ∃ c : Int, as = [.int c, .int 400, .int 1000]) (am_cons' (em_callS (n := 0) F1 hr rfl (am_cons (em_var 1 rfl) am_nil) fun as e => ⟨⟨k, e⟩, fun d h => h⟩) (am_cons em_int (am_cons em_int am_nil)) fun x xs ⟨c, h1⟩ h2 => ⟨c, by rw [h1, h2]⟩) fun as h => ⟨h, fun xs ⟨ns, e, hl⟩ => ⟨ns, by rw [e], hl⟩⟩) (am_cons em_int am_nil) fun x xs ⟨ns, h1, hl⟩ h2 => ⟨ns, by rw [h1, h2], hl⟩) fun as ⟨ns, e, hl⟩ => ⟨by rw [e]; exact Nat.le_of_ble_eq_true rfl, ns, e, hl⟩
theorem ok__law_bags (F : FnP K "_law_bags" s__law_bags f fd) (B : Bi mg) (J : Bj mg) (F1 : Fk P w K mg base "_law_bag" 2 ["script", "k"] sp_bag) : FnO P w K mg base 3 f fd ["script", "limit"] spBags := by
  refine F.ok sc__law_bags (fun vs H Q E ⟨a, G, ns, z, e, _⟩ => by rw [e]; rfl) fun cdv A outer s H vs Q E hr ⟨a, G, ns, z, e, h1, h2, sm, hS, q⟩ => ?_
  subst e
  obtain ⟨fb, fdb, Gb, hmb, hkb, hbb⟩ := F1.ex
  have main : ∃ t, PSs (Cx0 P w K mg base ["script", "limit", "k"] "_law_bags" (defScope s__law_bags) f cdv A outer s H E) (defBody s__law_bags) t ∧ t { nx := fun _ H' => Q .non H', rt := Q } (L2.start ["script", "limit", "k"] [.ref a, .int z]) H := by
    refine ⟨_, pss_one (ps_ret (pe_lc (own := [("k", 2)]) (g := gName 2) rfl sc__law_bags.nd (pi_range1 rfl J.range (pa_cons pe_u pa_nil)) (blkOk_by (N := ["script", "limit", "k"]) (sc := defScope s__law_bags) (by decide +kernel)) (fun _ _ _ _ _ => pg_name (i := 2) sc__law_bags.nd rfl (Or.inl rfl)) (fun _ _ _ _ _ => pts_nil)
      (fun _ _ _ _ _ => pe_call Gb hr rfl hmb hkb hbb .nil pass0 (pa_cons (pv 0) (pa_cons (pv 2) pa_nil))))), ?_⟩
    refine (em_max (W := pw) (ds := slS ["script", "limit", "k"] K a ns [.int z]) rfl em_int (em_min rfl (em_var 1 rfl) (em_slen 0 rfl B.len) J.min) J.max) _ G H sm (envS hS (.cons (.int z) .nil)) _ fun v d G1 H1 r1 hd e => ?_
    subst e
    cases hd
    refine ⟨_, rfl, by omega, by omega, fun D hD => lc_range (fun i H' => ∃ (G' : Hp) (bs : List Addr), Stp G H G' H' ∧ G' D = none ∧ H' D = some (.lst (bs.map V.ref)) ∧ bs.length = i ∧ bs.Nodup ∧ ∀ b ∈ bs, BagAt b G' H' ∧ b ≠ D) ⟨G1, [], ?_, (Same.free r1.i hD), upd_same, rfl, .nil, fun b hb => nomatch hb⟩ (fun i H' hi ⟨G', bs, r, gD, hv, hl, nd, hb⟩ => ?_) fun H' ⟨G', bs, r, gD, hv, hl, nd, hb⟩ => ?_⟩
    · exact r1.trans ⟨.refl _, same_upd2 r1.i (Same.free r1.i hD), same_upd hD, fun _ _ h => h⟩
    · refine ⟨rfl, ?_⟩
      have e0 : (0 : Int) + (i : Int) = (i : Int) := Int.zero_add _
      refine ⟨.ref a, rfl, .int ((0 : Int) + i), rfl, a, [.int ((0 : Int) + i)], G', ns, [.int i], rfl, r.i, r.g.seq hS, ?_, ⟨i, rfl⟩, fun p us xs G2 H2 st hp g2 hp2 hd hx => ?_⟩
      · rw [e0]
        exact .cons (.int _) .nil
      obtain ⟨ms, ex, hm⟩ := hx
      subst ex
      cases hd with
      | cons d1 d2 => cases d2 with
        | cons d2 d3 =>
          cases d3
          cases d2
          cases d1 with
          | @lst l us' _ hl2 hu =>
            have eu := hu.intsV
            subst eu
            have hD2 : H2 D = some (.lst (bs.map V.ref)) := st.h _ _ hv
            have gD2 : G2 D = none := st.k D (by rw [hv]; exact fun z => nomatch z) gD
            have pD : p ≠ D := fun z => by
              rw [z, hv] at hp
              cases hp
            have hDn : H D = none := r1.h.free hD
            refine ⟨bs.map V.ref, hD2, ?_, G2, bs ++ [p], pw.chg (pw.trans r st) trivial hDn gD2 hD2, gD2, ?_, by rw [List.length_append, hl]; rfl, ?_, fun b hb' => ?_⟩
            · rw [List.length_map, hl]
              exact small1000 (by omega)
            · rw [upd_same, List.map_append]
              rfl
            · refine List.nodup_append.mpr ⟨nd, by simp, fun b hb' c hc => ?_⟩
              have : c = p := by simpa using hc
              subst this
              intro z
              obtain ⟨⟨_, _, _, _, q1, _⟩, _⟩ := hb b hb'
              rw [z, hp] at q1
              cases q1
            · rcases List.mem_append.mp hb' with h | h
              · obtain ⟨⟨g, l', k', ns', q1, q2, q3⟩, ne⟩ := hb b h
                exact ⟨⟨st.k b (by rw [q1]; exact fun z => nomatch z) g, l', k', ns', by rw [upd_ne ne]; exact st.h _ _ q1, st.g _ _ q2, q3⟩, ne⟩
              · have : b = p := by simpa using h
                subst this
                exact ⟨⟨g2, l, 0, ms, by rw [upd_ne pD]; exact hp2, hl2, hm⟩, pD⟩
    · have hDn : H D = none := r1.h.free hD
      refine q D bs _ H' (r.freeze hDn gD hv) upd_same nd fun b hb' => ?_
      obtain ⟨⟨g, l', k', ns', q1, q2, q3⟩, ne⟩ := hb b hb'
      exact ⟨by rw [upd_ne ne]; exact g, l', k', ns', q1, same_upd gD _ _ q2, q3⟩
  obtain ⟨t, ht, h⟩ := main
  exact ⟨t, ht.nox, h⟩
abbrev sp_take : KSp := spB (fun as => ∃ m : Int, as = [.int m] ∧ 0 < m) fun as d => ∀ m : Int, as = [.int m] → isIn m d
theorem int_inj {m m' : Int} (h : [PyData.int m] = [.int m']) : m = m' := by
  injection h with h _
  injection h
theorem ok__law_take (F : FnP K "_law_take" s__law_take f fd) (B : Bi mg) : FnO P w K mg base 1 f fd ["bag", "many"] sp_take := by
  refine fn_B F sc__law_take (fun as ⟨m, e, _⟩ => by rw [e]; rfl) fun cdv A outer s H E G b as hr ok ⟨m, e, hm⟩ => ?_
  subst e
  refine bm_bag1 0 rfl (em_add' (em_bag1 0 rfl) em_int fun x y ⟨k, hx⟩ hy => ⟨k, 1, hx, hy, _, rfl⟩) ?_ (ps_asg pe_u (pg_sub (pv 0) pe_int set_list))
  refine bm_ret (P := isIn m) (em_mod' (Pa := isI) (em_ixL' (em_bag0 0 rfl) (em_mod' (P := isIn 400) (em_bag1 0 rfl) (em_lenP (Pa := isDraws) (em_mono (em_bag0 0 rfl) fun d ⟨ns, e, h⟩ => ⟨_, e, ns, rfl, h⟩) B.len) fun x y ⟨k, hx⟩ hy => ?_) fun x y ⟨ns, hx, hl⟩ ⟨i, hy, h0, h1⟩ => ?_) (em_var 1 rfl) fun x y ⟨k, hx⟩ hy => ⟨k, m, hx, hy, hm, _, rfl, Int.emod_nonneg _ (by omega), Int.emod_lt_of_pos _ hm⟩) fun v d G H hd e => ⟨d, hd, fun m' h => by rw [← int_inj h]; exact e⟩
  · obtain ⟨as, h1, h2⟩ := hy
    obtain ⟨ns, h3, h4⟩ := h1
    injection h3 with h3
    rw [h3, List.length_map, h4] at h2
    exact ⟨k, 400, hx, h2, by decide, _, rfl, Int.emod_nonneg _ (by decide), Int.emod_lt_of_pos _ (by decide)⟩
  · obtain ⟨j, rfl⟩ : ∃ j : Nat, i = j := ⟨i.toNat, by omega⟩
    have hj : j < ns.length := by omega
    refine ⟨_, _, .int ns[j], hx, hy, atI_nat ?_, _, rfl⟩
    rw [List.getElem?_map, List.getElem?_eq_getElem hj]
    rfl
end
end Pb
namespace Pb
open PySem PySem.Spec PyProof.Rows L2 Dn
section
variable {P : Program} {w : World} {K : PySem.W.Frag} {mg : Str → Option Value} {base : Heap} {f : Addr} {fd : FuncData}
abbrev sp_far : KSp := spB (fun as => ∃ m : Int, as = [.int m] ∧ 0 < m) fun as d => ∀ m : Int, as = [.int m] → isIn m d
theorem ok__law_far_draw (F : FnP K "_law_far_draw" s__law_far_draw f fd) (Ft : Fk P w K mg base "_law_take" 1 ["bag", "many"] sp_take) : FnO P w K mg base 2 f fd ["bag", "many"] sp_far := by
  refine fn_B F sc__law_far_draw (fun as ⟨m, e, _⟩ => by rw [e]; rfl) fun cdv A outer s H E G b as hr ok ⟨m, e, hm⟩ => ?_
  subst e
  refine bm_par 2 3 (am_cons em_int (am_cons (em_var 1 rfl) am_nil)) (fun as e => ⟨_, _, e, ?_⟩) rfl sc__law_far_draw.nd
  refine bm_while (N1 := fun ds' => ∃ x y : Int, ds' = [.raw (.ref b), .dat (.int m), .dat (.int x), .dat (.int y)]) (fun k ds' => ∃ x y : Int, ds' = [.raw (.ref b), .dat (.int m), .dat (.int x), .dat (.int y)] ∧ k = y.toNat) m.toNat ⟨0, m, rfl, rfl⟩ PassesOwn.never (fun k ds' ⟨x, y, e, ek⟩ => ?_) (fun ds' ⟨x, y, e⟩ => ?_)
  · subst e
    refine ⟨_, tm_gt (em_var 3 rfl) em_int, fun h => ?_, fun _ => ⟨x, y, rfl⟩⟩
    have h : 0 < y := of_decide_eq_true h
    refine bm_par (Pa := fun as => ∃ t : Int, as = [.int (1000 * x + t), .int (y / 1000)]) 2 3 (am_cons' (Pa := fun d => ∃ t : Int, d = .int (1000 * x + t)) (em_add' (em_mulS (.inl ⟨by decide, by decide⟩) em_int (em_var 2 rfl)) (em_callB (n := 0) Ft hr rfl (am_cons em_int am_nil) fun as e => ⟨⟨1000, e, by decide⟩, fun d hd => hd 1000 e⟩) fun u v hu ⟨t, hv, _⟩ => ⟨_, t, hu, hv, t, rfl⟩) (am_cons (em_fdiv ⟨by decide, by decide +kernel⟩ (em_var 3 rfl) em_int) am_nil) fun u us ⟨t, hu⟩ hus => ⟨t, by rw [hu, hus]⟩) (fun as ⟨t, e⟩ => ⟨_, _, e, bm_nil ⟨(y / 1000).toNat, ?_, 1000 * x + t, y / 1000, rfl, rfl⟩⟩) rfl sc__law_far_draw.nd
    rw [ek]
    omega
  · subst e
    refine bm_ret (P := isIn m) (em_ixL' (em_lst (am_cons (em_mod hm (em_var 2 rfl) (em_var 1 rfl)) (am_cons em_int (am_cons (em_sub (em_var 1 rfl) em_int) (am_cons (em_mod hm (em_var 2 rfl) (em_var 1 rfl)) am_nil))))) (em_callB (n := 0) (P := isIn 4) Ft hr rfl (am_cons em_int am_nil) fun as e => ⟨⟨4, e, by decide⟩, fun d hd => hd 4 e⟩) fun u v hu ⟨t, hv, h0, h1⟩ => ?_) fun v d G H hd e => ⟨d, hd, fun m' h => by rw [← int_inj h]; exact e⟩
    have a0 : 0 ≤ x % m := Int.emod_nonneg _ (by omega)
    have a1 : x % m < m := Int.emod_lt_of_pos _ hm
    have ht : t = 0 ∨ t = 1 ∨ t = 2 ∨ t = 3 := by omega
    rcases ht with rfl | rfl | rfl | rfl
    · exact ⟨_, _, _, hu, hv, rfl, _, rfl, a0, a1⟩
    · exact ⟨_, _, _, hu, hv, rfl, _, rfl, by omega, by omega⟩
    · exact ⟨_, _, _, hu, hv, rfl, _, rfl, by omega, by omega⟩
    · exact ⟨_, _, _, hu, hv, rfl, _, rfl, a0, a1⟩
theorem ok__law_common (F : FnP K "_law_common" s__law_common f fd) : FnO P w K mg base 1 f fd ["one", "other"] sp_gcd := by
  refine fn_P F sc__law_common (fun as ⟨m, n, e⟩ => by rw [e]; rfl) fun cdv A outer s H E G as hr sm ⟨m, n, e⟩ => ?_
  subst e
  refine bm_while (N1 := fun ds' => ds' = [.dat (.int (Nat.gcd m n : Nat)), .dat (.int 0)]) (fun k ds' => ∃ p q : Nat, ds' = [.dat (.int p), .dat (.int q)] ∧ k = q ∧ Nat.gcd p q = Nat.gcd m n) n ⟨m, n, rfl, rfl, rfl⟩ PassesOwn.never (fun k ds' ⟨p, q, e, ek, eg⟩ => ?_) (fun ds' e => ?_)
  · subst e
    refine ⟨_, tm_neI (em_var 1 rfl) em_int, fun hx => ?_, fun hx => ?_⟩
    · have hq : 0 < (q : Int) := by
        have : ¬ (q : Int) = 0 := by simpa using hx
        omega
      refine bm_par 0 1 (am_cons (em_var 1 rfl) (am_cons (em_mod hq (em_var 0 rfl) (em_var 1 rfl)) am_nil)) (fun as e => ⟨_, _, e, bm_nil ⟨p % q, by rw [ek]; exact Nat.mod_lt _ (by omega), q, p % q, rfl, rfl, ?_⟩⟩) rfl sc__law_common.nd
      rw [Nat.gcd_comm, ← Nat.gcd_rec, Nat.gcd_comm]
      exact eg
    · have : (q : Int) = 0 := by simpa using hx
      have : q = 0 := by omega
      subst this
      rw [Nat.gcd_zero_right] at eg
      rw [eg]
      rfl
  · subst e
    exact bm_ret (em_var 0 rfl) fun v d G H hd e => ⟨d, hd, e⟩
abbrev sp_made : KSp := spF (fun as => ∃ (m : Int) (n : Nat), as = [.int m, .int n] ∧ 0 < n ∧ n < 2 ^ 8010) fun as => match as with | [.int m, .int n] => rt (mkRat m n.toNat) | _ => .none
theorem ok__law_made (F : FnP K "_law_made" s__law_made f fd) (B : Bi mg) (Fg : Fk P w K mg base "_law_common" 1 ["one", "other"] sp_gcd) : FnO P w K mg base 2 f fd ["top", "bottom"] sp_made := by
  refine fn_P F sc__law_made (fun as ⟨m, n, e, _⟩ => by rw [e]; rfl) fun cdv A outer s H E G as hr sm ⟨m, n, e, hn, hb⟩ => ?_
  subst e
  refine bm_set (d := .int (Nat.gcd m.natAbs n : Nat)) 2 (em_callF Fg hr (am_cons (em_abs (em_var 0 rfl) B.abs) (am_cons (em_var 1 rfl) am_nil)) ⟨m.natAbs, n, rfl⟩) ?_ sc__law_made.nd
  have hg : 0 < Nat.gcd m.natAbs n := Nat.gcd_pos_of_pos_right _ hn
  have hl : Nat.gcd m.natAbs n < 2 ^ 8010 := Nat.lt_of_le_of_lt (Nat.gcd_le_right _ hn) hb
  have hd : ∀ i : Int, CDivW i (Nat.gcd m.natAbs n : Nat) := fun i => wide_div (b := 8010) (Int.natCast_pos.mpr hg) hl (by decide) (by decide)
  refine bm_ret (em_tup (am_cons (em_fdiv (hd _) (em_var 0 rfl) (em_var 2 rfl)) (am_cons (em_fdiv (hd _) (em_var 1 rfl) (em_var 2 rfl)) am_nil))) fun v d G H hd e => ⟨d, hd, ?_⟩
  rw [e]
  exact (mkRat_rt m n hn).symm
abbrev pre2 (as : List PyData) : Prop := ∃ x y : Rat, as = [rt x, rt y] ∧ Smq x ∧ Smq y
abbrev sp2 (g : Rat → Rat → PyData) : KSp := spP pre2 fun as d => ∀ x y : Rat, as = [rt x, rt y] → d = g x y
theorem made_pre {t : Int} {x y : Rat} (hx : Smq x) (hy : Smq y) : ∃ (m : Int) (n : Nat), [PyData.int t, .int ((x.den : Int) * (y.den : Int))] = [.int m, .int n] ∧ 0 < n ∧ n < 2 ^ 8010 :=
  ⟨t, x.den * y.den, by rw [Int.natCast_mul], Nat.mul_pos x.den_pos y.den_pos, mul_small hx.d hy.d⟩
theorem made_is (t : Int) (x y : Rat) : rt (mkRat t ((x.den : Int) * (y.den : Int)).toNat) = rt (mkRat t (x.den * y.den)) := rfl
theorem ok__law_plus (F : FnP K "_law_plus" s__law_plus f fd) (Fm : Fk P w K mg base "_law_made" 2 ["top", "bottom"] sp_made) : FnO P w K mg base 3 f fd ["one", "other"] (sp2 fun x y => rt (x + y)) := by
  refine fn_P F sc__law_plus (fun as ⟨x, y, e, _⟩ => by rw [e]; rfl) fun cdv A outer s H E G as hr sm ⟨x, y, e, hx, hy⟩ => ?_
  subst e
  refine bm_ret (em_callF (d := rt (x + y)) Fm hr (am_cons (em_add (em_mul (cm hx.n hy.d') (em_ixT (by rfl) (em_var 0 rfl) em_int) (em_ixT (by rfl) (em_var 1 rfl) em_int)) (em_mul (cm hy.n hx.d') (em_ixT (by rfl) (em_var 1 rfl) em_int) (em_ixT (by rfl) (em_var 0 rfl) em_int))) (am_cons (em_mul (cm hx.d' hy.d') (em_ixT (by rfl) (em_var 0 rfl) em_int) (em_ixT (by rfl) (em_var 1 rfl) em_int)) am_nil)) (made_pre hx hy) ((made_is _ x y).trans (congrArg rt (mk_add x y)))) fun v d G H hd e => ⟨d, hd, fun x' y' h => ?_⟩
  obtain ⟨rfl, rfl⟩ := rts h
  exact e
theorem ok__law_minus (F : FnP K "_law_minus" s__law_minus f fd) (Fm : Fk P w K mg base "_law_made" 2 ["top", "bottom"] sp_made) : FnO P w K mg base 3 f fd ["one", "other"] (sp2 fun x y => rt (x - y)) := by
  refine fn_P F sc__law_minus (fun as ⟨x, y, e, _⟩ => by rw [e]; rfl) fun cdv A outer s H E G as hr sm ⟨x, y, e, hx, hy⟩ => ?_
  subst e
  refine bm_ret (em_callF (d := rt (x - y)) Fm hr (am_cons (em_sub (em_mul (cm hx.n hy.d') (em_ixT (by rfl) (em_var 0 rfl) em_int) (em_ixT (by rfl) (em_var 1 rfl) em_int)) (em_mul (cm hy.n hx.d') (em_ixT (by rfl) (em_var 1 rfl) em_int) (em_ixT (by rfl) (em_var 0 rfl) em_int))) (am_cons (em_mul (cm hx.d' hy.d') (em_ixT (by rfl) (em_var 0 rfl) em_int) (em_ixT (by rfl) (em_var 1 rfl) em_int)) am_nil)) (made_pre hx hy) ((made_is _ x y).trans (congrArg rt (mk_sub x y)))) fun v d G H hd e => ⟨d, hd, fun x' y' h => ?_⟩
  obtain ⟨rfl, rfl⟩ := rts h
  exact e
theorem ok__law_times (F : FnP K "_law_times" s__law_times f fd) (Fm : Fk P w K mg base "_law_made" 2 ["top", "bottom"] sp_made) : FnO P w K mg base 3 f fd ["one", "other"] (sp2 fun x y => rt (x * y)) := by
  refine fn_P F sc__law_times (fun as ⟨x, y, e, _⟩ => by rw [e]; rfl) fun cdv A outer s H E G as hr sm ⟨x, y, e, hx, hy⟩ => ?_
  subst e
  refine bm_ret (em_callF (d := rt (x * y)) Fm hr (am_cons (em_mul (cm hx.n hy.n) (em_ixT (by rfl) (em_var 0 rfl) em_int) (em_ixT (by rfl) (em_var 1 rfl) em_int)) (am_cons (em_mul (cm hx.d' hy.d') (em_ixT (by rfl) (em_var 0 rfl) em_int) (em_ixT (by rfl) (em_var 1 rfl) em_int)) am_nil)) (made_pre hx hy) ((made_is _ x y).trans (congrArg rt (mk_mul x y)))) fun v d G H hd e => ⟨d, hd, fun x' y' h => ?_⟩
  obtain ⟨rfl, rfl⟩ := rts h
  exact e
theorem ok__law_below (F : FnP K "_law_below" s__law_below f fd) : FnO P w K mg base 1 f fd ["one", "other"] (sp2 fun x y => .bool (decide (x < y))) := by
  refine fn_P F sc__law_below (fun as ⟨x, y, e, _⟩ => by rw [e]; rfl) fun cdv A outer s H E G as hr sm ⟨x, y, e, hx, hy⟩ => ?_
  subst e
  refine bm_ret (em_lt (em_mul (cm hx.n hy.d') (em_ixT (by rfl) (em_var 0 rfl) em_int) (em_ixT (by rfl) (em_var 1 rfl) em_int)) (em_mul (cm hy.n hx.d') (em_ixT (by rfl) (em_var 1 rfl) em_int) (em_ixT (by rfl) (em_var 0 rfl) em_int))) fun v d G H hd e => ⟨d, hd, fun x' y' h => ?_⟩
  obtain ⟨rfl, rfl⟩ := rts h
  rw [e]
  congr 1
  exact decide_eq_decide.mpr (Rat.lt_iff x y).symm
end
end Pb
namespace Pb
open PySem PySem.Spec PyProof.Rows L2 Dn
/-! ### data that may be compared -/
structure Shp (n : Nat) (d : PyData) : Prop where
  c : d.canLay0 = true
  k : d.depth ≤ n
theorem Shp.shaped {n : Nat} {d : PyData} (h : Shp n d) (hn : n ≤ 64) : SeqAt.shaped d = true := by
  show (d.canLay0 && decide (d.depth ≤ 64)) = true
  rw [h.c, decide_eq_true (Nat.le_trans h.k hn)]
  rfl
theorem Shp.int (i : Int) : Shp 0 (.int i) := ⟨by simp only [PyData.canLay0], by simp only [PyData.depth, Nat.le_refl]⟩
theorem Shp.pour (x : Pour) : Shp 0 x.d := by
  have h := shaped_pour x
  have a : x.d.canLay0 = true := (Bool.and_eq_true_iff.mp h).1
  refine ⟨a, ?_⟩
  cases x <;> simp [PyData.depth]
theorem Shp.all {n : Nat} : ∀ {xs : List PyData}, (∀ x ∈ xs, Shp n x) → PyData.canLayAll0 xs = true ∧ PyData.depthAll xs ≤ n
  | [], _ => ⟨by simp only [PyData.canLayAll0], by simp only [PyData.depthAll, Nat.zero_le]⟩
  | x :: xs, h => by
    obtain ⟨a, b⟩ := Shp.all (xs := xs) fun y hy => h y (List.mem_cons_of_mem _ hy)
    have c := h x (List.mem_cons_self ..)
    exact ⟨by simp only [PyData.canLayAll0, c.c, a, Bool.and_self], by simp only [PyData.depthAll]; exact Nat.max_le.mpr ⟨c.k, b⟩⟩
theorem Shp.tup {n : Nat} {xs : List PyData} (h : ∀ x ∈ xs, Shp n x) : Shp (n + 1) (.tuple xs) := by
  obtain ⟨a, b⟩ := Shp.all h
  exact ⟨by simp only [PyData.canLay0, a], by simp only [PyData.depth]; omega⟩
theorem Shp.lst {n : Nat} {xs : List PyData} (h : ∀ x ∈ xs, Shp n x) : Shp (n + 1) (.list xs) := by
  obtain ⟨a, b⟩ := Shp.all h
  exact ⟨by simp only [PyData.canLay0, a], by simp only [PyData.depth]; omega⟩
theorem Shp.mono {n m : Nat} {d : PyData} (h : Shp n d) (hm : n ≤ m) : Shp m d := ⟨h.c, Nat.le_trans h.k hm⟩
theorem Shp.rt (q : Rat) : Shp 1 (Pb.rt q) := .tup fun x hx => by
  rcases List.mem_cons.mp hx with e | hx
  · rw [e]
    exact .int _
  · have e : x = .int q.den := by simpa using hx
    rw [e]
    exact .int _
theorem Shp.row (r : List Pour) : Shp 1 (rowD r) := .tup fun x hx => by
  obtain ⟨p, _, rfl⟩ := List.mem_map.mp hx
  exact .pour p
theorem eqv_same {n : Nat} {d : PyData} (h : Shp n d) : PyData.eqv d d = true := SeqAt.eqv_refl d h.c
section
variable {X : Cx} {W : Wr} {ds : List Sl} {e : Expr} {es : List Expr} {pos p2 : Pos}
theorem em_call2 {x : Str} {k : Nat} {ps : List Str} {g : Rat → Rat → PyData} {u v : Rat} {d : PyData} (F : Fk X.prog X.w X.K X.mg X.base x k ps (sp2 g)) (hr : Room k X.A) (ha : Am X W ds (e :: es) (· = [rt u, rt v])) (hu : Smq u) (hv : Smq v) (hd : g u v = d := by rfl) (hg : Gl X x := by rfl)
    (hdb : (x == ("__debug__" : Str)) = false := by decide) (he : starEach (e :: es) X.env = (false, eval e X.env) :: starEach es X.env := by rfl) (hpl : (backTo pos (starEach es X.env)).any (·.1) = false := by rfl) : Em X W ds (.Call (.Name x p2) (e :: es) [] pos) (· = d) :=
  em_call' F hr ha (fun _ e => by rw [e]; exact ⟨⟨u, v, rfl, hu, hv⟩, fun d' h => (h u v rfl).trans hd⟩) hg hdb he hpl
end
theorem rt1 : rt 1 = .tuple [.int 1, .int 1] := rfl
section
variable {P : Program} {w : World} {K : PySem.W.Frag} {mg : Str → Option Value} {base : Heap} {f : Addr} {fd : FuncData}
abbrev sp_a_part : KSp := spB (fun as => as = []) fun _ d => ∃ p, d = rt p ∧ Part p
theorem ok__law_a_part (F : FnP K "_law_a_part" s__law_a_part f fd) (Ft : Fk P w K mg base "_law_take" 1 ["bag", "many"] sp_take) (Fm : Fk P w K mg base "_law_made" 2 ["top", "bottom"] sp_made) : FnO P w K mg base 3 f fd ["bag"] sp_a_part := by
  refine fn_B F sc__law_a_part (fun as e => by rw [e]; rfl) fun cdv A outer s H E G b as hr ok e => ?_
  subst e
  refine bm_set' (P := fun d => ∃ t : Int, d = .int (2 + t) ∧ 0 ≤ t ∧ t < 11) 1 (em_add' em_int (em_callB (n := 0) (P := isIn 11) Ft (hr.mono (by decide)) rfl (am_cons em_int am_nil) fun as e => ⟨⟨11, e, by decide⟩, fun d hd => hd 11 e⟩) fun u v hu ⟨t, hv, h0, h1⟩ => ⟨2, t, hu, hv, t, rfl, h0, h1⟩) (fun d ⟨t, e, h0, h1⟩ => ?_) sc__law_a_part.nd
  subst e
  refine bm_ret (P := fun d => ∃ p, d = rt p ∧ Part p) (em_call' Fm hr (Pa := fun as => ∃ u : Int, as = [.int (1 + u), .int (2 + t)] ∧ 0 ≤ u ∧ u < 1 + t) (am_cons' (Pa := fun d => ∃ u : Int, d = .int (1 + u) ∧ 0 ≤ u ∧ u < 1 + t) (em_add' em_int (em_callB (n := 0) (P := isIn (1 + t)) Ft (hr.mono (by decide)) rfl (am_cons (em_sub (em_var 1 rfl) em_int) am_nil) fun as e => ⟨⟨2 + t - 1, e, by omega⟩, fun d hd => ?_⟩) fun u v hu ⟨t', hv, h0, h1⟩ => ⟨1, t', hu, hv, t', rfl, h0, h1⟩) (am_cons (em_var 1 rfl) am_nil) fun u us ⟨t', hu, h0, h1⟩ hus => ⟨t', by rw [hu, hus], h0, h1⟩) fun as ⟨u, e, h2, h3⟩ => ?_) fun v d G H hd e => ⟨d, hd, e⟩
  · obtain ⟨x, e1, e2, e3⟩ := hd (2 + t - 1) e
    exact ⟨x, e1, e2, by omega⟩
  · obtain ⟨n, hn⟩ : ∃ n : Nat, 2 + t = n := ⟨(2 + t).toNat, by omega⟩
    rw [hn] at e
    have hn2 : 0 < n := by omega
    refine ⟨⟨1 + u, n, e, hn2, Nat.lt_of_le_of_lt (by omega : n ≤ 12) (Nat.lt_of_lt_of_le (by decide : 12 < 2 ^ 4) (Nat.pow_le_pow_right (by decide) (by decide)))⟩, fun d hd => ⟨mkRat (1 + u) n, ?_, mk_pos (by omega) hn2, mk_lt1 (by omega) hn2, Nat.le_trans (den_mk _ _ hn2) (by omega)⟩⟩
    rw [hd, e]
    rfl
abbrev sp_two_parts : KSp := spB (fun as => as = []) fun _ d => ∃ p q, d = ptD p q ∧ Parts p q
theorem ok__law_two_parts (F : FnP K "_law_two_parts" s__law_two_parts f fd) (Ft : Fk P w K mg base "_law_take" 1 ["bag", "many"] sp_take) (Fa : Fk P w K mg base "_law_a_part" 3 ["bag"] sp_a_part) (Fm : Fk P w K mg base "_law_minus" 3 ["one", "other"] (sp2 fun x y => rt (x - y))) (Fp : Fk P w K mg base "_law_plus" 3 ["one", "other"] (sp2 fun x y => rt (x + y))) (Fb : Fk P w K mg base "_law_below" 1 ["one", "other"] (sp2 fun x y => .bool (decide (x < y)))) : FnO P w K mg base 4 f fd ["bag"] sp_two_parts := by
  refine fn_B F sc__law_two_parts (fun as e => by rw [e]; rfl) fun cdv A outer s H E G b as hr ok e => ?_
  subst e
  refine bm_par (Pa := fun as => ∃ p q, as = [rt p, rt q] ∧ Part p ∧ Part q) 1 2 (am_cons' (Pa := fun d => ∃ p, d = rt p ∧ Part p) (em_callB (n := 0) Fa hr rfl am_nil fun as e => ⟨e, fun d h => h⟩) (am_cons' (Pa := fun d => ∃ p, d = rt p ∧ Part p) (P := fun us => ∃ q, us = [rt q] ∧ Part q) (em_callB (n := 0) Fa hr rfl am_nil fun as e => ⟨e, fun d h => h⟩) am_nil fun u us ⟨p, hu, hp⟩ hus => ⟨p, by rw [hu, hus], hp⟩) fun u us ⟨p, hu, hp⟩ ⟨q, hus, hq⟩ => ⟨p, q, by rw [hu, hus], hp, hq⟩) (fun as ⟨p, q, e, hp, hq⟩ => ⟨_, _, e, ?_⟩) rfl sc__law_two_parts.nd
  refine bm_if' (N1 := fun ds' => ∃ p q, ds' = [.raw (.ref b), .dat (rt p), .dat (rt q)] ∧ Part p ∧ Part q) (Pc := fun _ => True) (tm_eqI' (em_callB (n := 0) (P := isIn 4) Ft (hr.mono (by decide)) rfl (am_cons em_int am_nil) fun as e => ⟨⟨4, e, by decide⟩, fun d hd => hd 4 e⟩) em_int fun u v ⟨t, hu, _⟩ hv => ⟨t, 0, hu, hv, trivial⟩) (fun _ => ?_) (fun _ => bm_nil ⟨p, q, rfl, hp, hq⟩) fun ds' ⟨p, q, e, hp, hq⟩ => ?_
  · exact bm_set 2 (em_call2 (u := 1) (v := p) (d := rt (1 - p)) Fm hr (am_cons (em_is (em_tup (am_cons em_int (am_cons em_int am_nil))) rt1.symm) (am_cons (em_var 1 rfl) am_nil)) sm1 hp.sm) (bm_nil ⟨p, 1 - p, rfl, hp, hp.co⟩) sc__law_two_parts.nd
  subst e
  have sm2 : Smq (p + q) := by
    have a0 := hp.p0
    have a1 := hp.p1
    have b0 := hq.p0
    have b1 := hq.p1
    have hd : (p + q).den ≤ 144 := by
      rw [← mk_add]
      exact Nat.le_trans (den_mk _ _ (Nat.mul_pos p.den_pos q.den_pos)) (Nat.mul_le_mul hp.pd hq.pd)
    have h0 : 0 ≤ (p + q).num := nn (by grind)
    have h2 : (p + q).num ≤ 2 * (p + q).den := by
      have h : p + q ≤ 2 := by grind
      have := (Rat.le_iff (p + q) 2).mp h
      simpa using this
    have z : (512 : Nat) < 2 ^ 4000 := Nat.lt_of_lt_of_le (by decide : 512 < 2 ^ 10) (Nat.pow_le_pow_right (by decide) (by decide))
    exact ⟨by omega, by omega⟩
  refine bm_if' (N1 := fun ds' => ∃ p q, ds' = [.raw (.ref b), .dat (rt p), .dat (rt q)] ∧ Parts p q) (tm_val (em_call2 (u := p + q) (v := 1) (d := .bool (decide (p + q < 1))) Fb (hr.mono (by decide)) (am_cons (em_call2 (u := p) (v := q) (d := rt (p + q)) Fp hr (am_cons (em_var 1 rfl) (am_cons (em_var 2 rfl) am_nil)) hp.sm hq.sm) (am_cons (em_is (em_tup (am_cons em_int (am_cons em_int am_nil))) rt1.symm) am_nil)) sm2 sm1)) (fun h => ?_) (fun h => bm_nil ⟨p, q, rfl, .of hp hq ?_⟩) fun ds' ⟨p, q, e, hpq⟩ => ?_
  · have h : p + q < 1 := of_decide_eq_true h.symm
    refine bm_par 1 2 (am_cons (em_call2 (u := 1) (v := p) (d := rt (1 - p)) Fm hr (am_cons (em_is (em_tup (am_cons em_int (am_cons em_int am_nil))) rt1.symm) (am_cons (em_var 1 rfl) am_nil)) sm1 hp.sm) (am_cons (em_call2 (u := 1) (v := q) (d := rt (1 - q)) Fm hr (am_cons (em_is (em_tup (am_cons em_int (am_cons em_int am_nil))) rt1.symm) (am_cons (em_var 2 rfl) am_nil)) sm1 hq.sm) am_nil)) (fun as e => ⟨_, _, e, bm_nil ⟨1 - p, 1 - q, rfl, .of hp.co hq.co ?_⟩⟩) rfl sc__law_two_parts.nd
    grind
  · have h : ¬ p + q < 1 := of_decide_eq_false h.symm
    exact Rat.not_lt.mp h
  · subst e
    exact bm_ret (em_tup (am_cons (em_var 1 rfl) (am_cons (em_var 2 rfl) am_nil))) fun v d G H hd e => ⟨d, hd, p, q, e, hpq⟩
end
end Pb
namespace Pb
open PySem PySem.Spec PyProof.Rows L2 Dn
section
variable {P : Program} {w : World} {K : PySem.W.Frag} {mg : Str → Option Value} {base : Heap} {f : Addr} {fd : FuncData}
/-- shares as the law draws them -/
structure Drawn (s : Rat) : Prop where
  s0 : 0 ≤ s
  s1 : s ≤ 1
  sd : s.den ≤ 10 ^ 17
theorem Drawn.share {s : Rat} (h : Drawn s) : Share s := ⟨h.s0, h.s1, Nat.le_trans h.sd (by decide)⟩
abbrev sp_a_share : KSp := spB (fun as => as = []) fun _ d => ∃ s, d = rt s ∧ Drawn s
theorem ok__law_a_share (F : FnP K "_law_a_share" s__law_a_share f fd) (Ft : Fk P w K mg base "_law_take" 1 ["bag", "many"] sp_take) (Ff : Fk P w K mg base "_law_far_draw" 2 ["bag", "many"] sp_far) (Fm : Fk P w K mg base "_law_made" 2 ["top", "bottom"] sp_made) : FnO P w K mg base 3 f fd ["bag"] sp_a_share := by
  refine fn_B F sc__law_a_share (fun as e => by rw [e]; rfl) fun cdv A outer s H E G b as hr ok e => ?_
  subst e
  refine bm_set' (P := fun d => ∃ t : Int, d = .int (1 + t) ∧ 0 ≤ t ∧ t < 10 ^ 17) 1 (em_add' em_int (em_ixL' (P := isIn (10 ^ 17)) (em_lst' (P := fun d => ∃ t u : Int, d = .list [.int 0, .int t, .int u] ∧ (0 ≤ t ∧ t < 12) ∧ 0 ≤ u ∧ u < 10 ^ 17) (am_cons' (P := fun as => ∃ t u : Int, as = [.int 0, .int t, .int u] ∧ (0 ≤ t ∧ t < 12) ∧ 0 ≤ u ∧ u < 10 ^ 17) em_int (am_cons' (P := fun as => ∃ t u : Int, as = [.int t, .int u] ∧ (0 ≤ t ∧ t < 12) ∧ 0 ≤ u ∧ u < 10 ^ 17) (em_callB (n := 0) (P := isIn 12) Ft (hr.mono (by decide)) rfl (am_cons em_int am_nil) fun as e => ⟨⟨12, e, by decide⟩, fun d hd => hd 12 e⟩)
      (am_cons' (P := fun as => ∃ u : Int, as = [.int u] ∧ 0 ≤ u ∧ u < 10 ^ 17) (em_callB (n := 0) (P := isIn (10 ^ 17)) Ff hr rfl (am_cons (em_pow ⟨by decide, by decide, by decide⟩ em_int em_int) am_nil) fun as e => ⟨⟨10 ^ 17, e, by decide⟩, fun d hd => hd (10 ^ 17) e⟩) am_nil fun u us ⟨t, hu, h⟩ hus => ⟨t, by rw [hu, hus], h⟩)
      fun u us ⟨t, hu, h⟩ ⟨t', hus, h'⟩ => ⟨t, t', by rw [hu, hus], h, h'⟩) fun u us hu ⟨t, t', hus, h⟩ => ⟨t, t', by rw [hu, hus], h⟩) fun as ⟨t, u, e, h⟩ => ⟨by rw [e]; exact Nat.le_of_ble_eq_true rfl, t, u, by rw [e], h⟩)
      (em_callB (n := 0) (P := isIn 3) Ft (hr.mono (by decide)) rfl (am_cons em_int am_nil) fun as e => ⟨⟨3, e, by decide⟩, fun d hd => hd 3 e⟩) fun x y ⟨t, u, hx, h1, h2⟩ ⟨i, hy, h3, h4⟩ => ?_) fun u v hu ⟨t, hv, h0, h1⟩ => ⟨1, t, hu, hv, t, rfl, h0, h1⟩) (fun d ⟨t, e, h0, h1⟩ => ?_) sc__law_a_share.nd
  · have hi : i = 0 ∨ i = 1 ∨ i = 2 := by omega
    rcases hi with rfl | rfl | rfl
    · exact ⟨_, _, _, hx, hy, rfl, _, rfl, by omega, by decide⟩
    · exact ⟨_, _, _, hx, hy, rfl, _, rfl, by omega, by omega⟩
    · exact ⟨_, _, _, hx, hy, rfl, _, rfl, h2.1, h2.2⟩
  · subst e
    refine bm_ret (P := fun d => ∃ s, d = rt s ∧ Drawn s) (em_call' Fm hr (Pa := fun as => ∃ u : Int, as = [.int u, .int (1 + t)] ∧ 0 ≤ u ∧ u ≤ 1 + t) (am_cons' (em_callB (n := 0) (P := isIn (2 + t)) Ff hr rfl (am_cons (em_add (em_var 1 rfl) em_int) am_nil) fun as e => ⟨⟨1 + t + 1, e, by omega⟩, fun d hd => ?_⟩) (am_cons (em_var 1 rfl) am_nil) fun u us ⟨t', hu, h0, h1⟩ hus => ⟨t', by rw [hu, hus], h0, by omega⟩) fun as ⟨u, e, h2, h3⟩ => ?_) fun v d G H hd e => ⟨d, hd, e⟩
    · obtain ⟨x, e1, e2, e3⟩ := hd (1 + t + 1) e
      exact ⟨x, e1, e2, by omega⟩
    · obtain ⟨n, hn⟩ : ∃ n : Nat, 1 + t = n := ⟨(1 + t).toNat, by omega⟩
      rw [hn] at e
      have hn2 : 0 < n := by omega
      refine ⟨⟨u, n, e, hn2, Nat.lt_of_le_of_lt (by omega : n ≤ 10 ^ 17) (Nat.lt_of_lt_of_le (by decide : 10 ^ 17 < 2 ^ 60) (Nat.pow_le_pow_right (by decide) (by decide)))⟩, fun d hd => ⟨mkRat u n, ?_, mk_nn h2 hn2, mk_le1 (by omega) hn2, Nat.le_trans (den_mk _ _ hn2) (by omega)⟩⟩
      rw [hd, e]
      rfl
abbrev sp_a_row : KSp := spB (fun as => ∃ m : Int, as = [.int m] ∧ 0 ≤ m ∧ m ≤ 1000) fun as d => ∀ m : Int, as = [.int m] → ∃ r : List Pour, d = rowD r ∧ (r.length : Int) ≤ m
theorem all_pours : ∀ (ys : List PyData), (∀ (n : Nat) y, ys[n]? = some y → ∃ x : Pour, y = x.d) → ∃ r : List Pour, ys = r.map Pour.d
  | [], _ => ⟨[], rfl⟩
  | y :: ys, h => by
    obtain ⟨x, rfl⟩ := h 0 y rfl
    obtain ⟨r, rfl⟩ := all_pours ys fun n y e => h (n + 1) y e
    exact ⟨x :: r, rfl⟩
abbrev bE : Nat := 10 ^ 20 * 12 ^ 50
abbrev pre_end (as : List PyData) : Prop := ∃ p q s r, as = [ptD p q, rt s, rowD r] ∧ Parts p q ∧ Bq bE s ∧ r.length ≤ 40
abbrev sp_end : KSp := spP pre_end fun as d => ∀ p q s r, as = [ptD p q, rt s, rowD r] → d = rt (pours p q s r)
theorem end_tk {p q s : Rat} (hp : Parts p q) (hs : Bq bE s) {r : List Pour} (hr : r.length ≤ 40) (n : Nat) : Bq (10 ^ 20 * 12 ^ 90) (pours p q s (r.take n)) := by
  have h := hs.pours hp (r.take n)
  refine h.mono ?_
  rw [Nat.mul_assoc, ← Nat.pow_add]
  refine Nat.mul_le_mul_left _ (Nat.pow_le_pow_right (by decide) ?_)
  rw [List.length_take]
  omega
theorem big2 : 10 ^ 20 * 12 ^ 90 * 12 < 2 ^ 4000 := by
  rw [Nat.mul_assoc, ← Nat.pow_succ]
  exact big (by decide)
theorem ok__law_end (F : FnP K "_law_end" s__law_end f fd) (Fm : Fk P w K mg base "_law_minus" 3 ["one", "other"] (sp2 fun x y => rt (x - y))) (Fp : Fk P w K mg base "_law_plus" 3 ["one", "other"] (sp2 fun x y => rt (x + y))) (Ft : Fk P w K mg base "_law_times" 3 ["one", "other"] (sp2 fun x y => rt (x * y))) : FnO P w K mg base 4 f fd ["parts", "share", "row"] sp_end := by
  refine fn_P F sc__law_end (fun as ⟨p, q, s, x, e, _⟩ => by rw [e]; rfl) fun cdv A outer sh H E G as hr sm ⟨p, q, s, r, e, hp, hs, hl⟩ => ?_
  subst e
  have hss : Smq s := hs.smq (big (by decide))
  refine bm_par 3 4 (am_cons (em_var 1 rfl) (am_cons (em_call2 (u := 1) (v := s) (d := rt (1 - s)) Fm hr (am_cons (em_is (em_tup (am_cons em_int (am_cons em_int am_nil))) rt1.symm) (am_cons (em_var 1 rfl) am_nil)) sm1 hss) am_nil)) (fun as e => ⟨_, _, e, ?_⟩) rfl sc__law_end.nd
  refine bm_forT (N1 := fun ds' => ∃ x y z, ds' = [.dat (ptD p q), .dat (rt s), .dat (rowD r), .dat (rt (pours p q s r)), x, y, z]) 5 (em_var 2 rfl) (fun n ds' => ∃ y z, ds' = [.dat (ptD p q), .dat (rt s), .dat (rowD r), .dat (rt (pours p q s (r.take n))), .dat (rt (1 - pours p q s (r.take n))), y, z]) ⟨.un, .un, rfl⟩ PassesOwn.never rfl (fun n d ds' hd ⟨y, z, e⟩ => ?_) (fun ds' ⟨y, z, e⟩ => ?_) (fun ds' ⟨x, y, z, e⟩ => ?_) sc__law_end.nd
  · subst e
    obtain ⟨x, hx, rfl⟩ := row_at hd
    have b := end_tk hp hs hl n
    have b1 := b.one_sub
    have e1 := pours_take (p := p) (q := q) (s := s) hx
    have sL : Smq (pours p q s (r.take n)) := b.smq (big (by decide))
    have sR : Smq (1 - pours p q s (r.take n)) := b1.smq (big (by decide))
    generalize pours p q s (r.take n) = L at *
    have sA : Smq (L * p) := (b.times hp.bp).smq big2
    have sB : Smq ((1 - L) * q) := (b1.times hp.bq).smq big2
    cases x with
    | right =>
      refine bm_if' (N1 := fun ds' => ∃ y z, ds' = [.dat (ptD p q), .dat (rt s), .dat (rowD r), .dat (rt (pours p q s (r.take (n + 1)))), .dat (rt (1 - pours p q s (r.take (n + 1)))), y, z]) (tm_eqS (em_var 5 rfl) em_str) (fun _ => ?_) (fun h => absurd h (by decide +kernel)) fun ds' h => bm_nil h
      refine bm_set (d := rt (L * p)) 6 (em_call2 Ft hr (am_cons (em_var 3 rfl) (am_cons (em_ixT (by rfl) (em_var 0 rfl) em_int) am_nil)) sL hp.sp) ?_ sc__law_end.nd
      refine bm_par 3 4 (am_cons (em_call2 (d := rt (L - L * p)) Fm hr (am_cons (em_var 3 rfl) (am_cons (em_var 6 rfl) am_nil)) sL sA) (am_cons (em_call2 (d := rt (1 - L + L * p)) Fp hr (am_cons (em_var 4 rfl) (am_cons (em_var 6 rfl) am_nil)) sR sA) am_nil)) (fun as e => ⟨_, _, e, bm_nil ⟨.dat (Pour.d .right), .dat (rt (L * p)), ?_⟩⟩) rfl sc__law_end.nd
      rw [e1]
      show _ = [_, _, _, Sl.dat (rt (L * (1 - p))), .dat (rt (1 - L * (1 - p))), _, _]
      rw [show L * (1 - p) = L - L * p by grind, show 1 - (L - L * p) = 1 - L + L * p by grind]
      rfl
    | left =>
      refine bm_if' (N1 := fun ds' => ∃ y z, ds' = [.dat (ptD p q), .dat (rt s), .dat (rowD r), .dat (rt (pours p q s (r.take (n + 1)))), .dat (rt (1 - pours p q s (r.take (n + 1)))), y, z]) (tm_eqS (em_var 5 rfl) em_str) (fun h => absurd h (by decide +kernel)) (fun _ => ?_) fun ds' h => bm_nil h
      refine bm_set (d := rt ((1 - L) * q)) 6 (em_call2 Ft hr (am_cons (em_var 4 rfl) (am_cons (em_ixT (by rfl) (em_var 0 rfl) em_int) am_nil)) sR hp.sq) ?_ sc__law_end.nd
      refine bm_par 3 4 (am_cons (em_call2 (d := rt (L + (1 - L) * q)) Fp hr (am_cons (em_var 3 rfl) (am_cons (em_var 6 rfl) am_nil)) sL sB) (am_cons (em_call2 (d := rt (1 - L - (1 - L) * q)) Fm hr (am_cons (em_var 4 rfl) (am_cons (em_var 6 rfl) am_nil)) sR sB) am_nil)) (fun as e => ⟨_, _, e, bm_nil ⟨.dat (Pour.d .left), .dat (rt ((1 - L) * q)), ?_⟩⟩) rfl sc__law_end.nd
      rw [e1]
      show _ = [_, _, _, Sl.dat (rt (L + (1 - L) * q)), .dat (rt (1 - (L + (1 - L) * q))), _, _]
      rw [show 1 - (L + (1 - L) * q) = 1 - L - (1 - L) * q by grind]
      rfl
  · refine ⟨.dat (rt (1 - pours p q s r)), y, z, ?_⟩
    rw [e, List.length_map, List.take_length]
  · subst e
    exact bm_ret (em_var 3 rfl) fun v d G H hd e => ⟨d, hd, fun p' q' s' r' h => by
      obtain ⟨rfl, rfl, rfl, rfl⟩ := psr_inj h
      exact e⟩
abbrev sp_drawn : KSp := spB (fun as => ∃ m : Int, as = [.int m] ∧ 0 ≤ m ∧ m ≤ 1000) fun as d => ∀ m : Int, as = [.int m] → ∃ p q s r, d = .tuple [ptD p q, rt s, rowD r] ∧ Parts p q ∧ Drawn s ∧ (r.length : Int) ≤ m
end
end Pb
namespace Pb
open PySem PySem.Spec PyProof.Rows L2 Dn
/-! ### data of pours: equal, cut, counted -/
theorem eqv_rt (a b : Rat) : PyData.eqv (rt a) (rt b) = decide (a = b) := by
  by_cases h : a = b
  · subst h
    rw [eqv_same (.rt a), decide_eq_true rfl]
  · rw [decide_eq_false h]
    show PyData.eqv (.tuple [.int a.num, .int a.den]) (.tuple [.int b.num, .int b.den]) = false
    simp only [PyData.eqv, PyData.eqvAll, Bool.and_true]
    by_cases e1 : a.num = b.num
    · have e2 : ¬ (a.den : Int) = (b.den : Int) := fun z => h (Rat.ext e1 (Int.ofNat.inj z))
      rw [show ((a.den : Int) == (b.den : Int)) = false from beq_eq_false_iff_ne.mpr e2, Bool.and_false]
    · rw [show (a.num == b.num) = false from beq_eq_false_iff_ne.mpr e1, Bool.false_and]
theorem rt0 : rt 0 = .tuple [.int 0, .int 1] := rfl
theorem neq_same {n : Nat} {d : PyData} (h : Shp n d) : (!PyData.eqv d d) = false := by
  rw [eqv_same h]
  rfl
theorem rep_row (n : Nat) (x : Pour) : (List.replicate n [x.d]).flatten = (List.replicate n x).map Pour.d := by
  induction n with
  | zero => rfl
  | succ n ih =>
    rw [List.replicate_succ, List.flatten_cons, ih, List.replicate_succ]
    rfl
theorem eqv_pour (x y : Pour) : PyData.eqv x.d y.d = decide (x = y) := by
  cases x <;> cases y <;> decide +kernel
theorem eqv_rows : ∀ r o : List Pour, PyData.eqvAll (r.map Pour.d) (o.map Pour.d) = decide (r = o)
  | [], [] => rfl
  | [], _ :: _ => rfl
  | _ :: _, [] => rfl
  | x :: r, y :: o => by
    show PyData.eqvAll (x.d :: r.map Pour.d) (y.d :: o.map Pour.d) = _
    simp only [PyData.eqvAll]
    rw [eqv_pour, eqv_rows r o]
    by_cases h1 : x = y
    · by_cases h2 : r = o
      · rw [decide_eq_true h1, decide_eq_true h2, decide_eq_true (by rw [h1, h2])]
        rfl
      · rw [decide_eq_false h2, decide_eq_false (fun z => h2 (List.cons.inj z).2), Bool.and_false]
    · rw [decide_eq_false h1, decide_eq_false (fun z => h1 (List.cons.inj z).1), Bool.false_and]
theorem eqv_row (r o : List Pour) : PyData.eqv (rowD r) (rowD o) = decide (r = o) := by
  show PyData.eqv (.tuple (r.map Pour.d)) (.tuple (o.map Pour.d)) = _
  simp only [PyData.eqv]
  exact eqv_rows r o
theorem cut_to (r : List Pour) (n : Nat) : Dn.cutD (r.map Pour.d) none (some (n : Int)) = (r.take n).map Pour.d := by
  unfold Dn.cutD
  have h1 : HT.sIx (r.map Pour.d).length 0 none = 0 := rfl
  have h2 : HT.sIx (r.map Pour.d).length (r.map Pour.d).length (some (n : Int)) = min n (r.map Pour.d).length := HT.sIx_nat _ _ n
  rw [h1, h2, List.drop_zero, Nat.sub_zero, List.map_take]
  by_cases h : n ≤ (r.map Pour.d).length
  · rw [Nat.min_eq_left h]
  · rw [Nat.min_eq_right (by omega), List.take_length, List.take_of_length_le (by omega)]
theorem cut_from (r : List Pour) (n : Nat) : Dn.cutD (r.map Pour.d) (some (n : Int)) none = (r.drop n).map Pour.d := by
  unfold Dn.cutD
  have h1 : HT.sIx (r.map Pour.d).length (r.map Pour.d).length none = (r.map Pour.d).length := rfl
  have h2 : HT.sIx (r.map Pour.d).length 0 (some (n : Int)) = min n (r.map Pour.d).length := HT.sIx_nat _ _ n
  rw [h1, h2, List.map_drop]
  by_cases h : n ≤ (r.map Pour.d).length
  · rw [Nat.min_eq_left h, List.take_of_length_le (by rw [List.length_drop]; exact Nat.le_refl _)]
  · rw [Nat.min_eq_right (by omega), Nat.sub_self, List.take_zero, List.drop_eq_nil_of_le (by omega)]
theorem count_row (r : List Pour) : ((r.map Pour.d).countP fun z => PyData.eqv z (.str "left")) = r.count .left := by
  induction r with
  | nil => rfl
  | cons x r ih =>
    rw [List.map_cons, List.countP_cons, ih, List.count_cons]
    have e : PyData.eqv x.d (.str "left") = (x == Pour.left) := by
      rw [pour_eqv_l]
      cases x <;> rfl
    rw [e]
theorem plain_row (r : List Pour) : PyData.plainAll (r.map Pour.d) = true := by
  induction r with
  | nil => rfl
  | cons x r ih =>
    show PyData.plainAll (x.d :: r.map Pour.d) = true
    simp only [PyData.plainAll]
    rw [ih]
    cases x <;> rfl
theorem share_of {s : Rat} (h : isShareD (rt s) = true) : Share s := by
  have h : (isFracD (rt s) && (decide (0 ≤ s.num) && (decide (s.num ≤ (s.den : Int)) && decide ((s.den : Int) ≤ 99999999999999999999)))) = true := h
  rw [Bool.and_eq_true, Bool.and_eq_true, Bool.and_eq_true] at h
  obtain ⟨_, h1, h2, h3⟩ := h
  have h1 := of_decide_eq_true h1
  have h2 := of_decide_eq_true h2
  have h3 := of_decide_eq_true h3
  refine ⟨Rat.num_nonneg.mp h1, (Rat.le_iff s 1).mpr (by simpa using h2), by omega⟩
theorem list_of {f : Pour → PyData} {r : List Pour} {ys : List PyData} (hl : ys.length = r.length) (h : ∀ (n : Nat) y x, ys[n]? = some y → r[n]? = some x → y = f x) : ys = r.map f := by
  refine List.ext_getElem? fun n => ?_
  rw [List.getElem?_map]
  cases e : ys[n]? with
  | none =>
    have : r[n]? = none := List.getElem?_eq_none (by rw [← hl]; exact List.getElem?_eq_none_iff.mp e)
    rw [this]
    rfl
  | some y =>
    have hn : n < r.length := by
      rw [← hl]
      exact (List.getElem?_eq_some_iff.mp e).1
    rw [List.getElem?_eq_getElem hn]
    exact congrArg some (h n y _ e (List.getElem?_eq_getElem hn))
end Pb
namespace Pb
open PySem PySem.Spec PyProof.Rows L2 Dn
section
variable {P : Program} {w : World} {K : PySem.W.Frag} {mg : Str → Option Value} {base : Heap} {f : Addr} {fd : FuncData}
def upToD (m : Int) : PyData → Bool
  | .int i => decide (0 ≤ i) && decide (i ≤ m)
  | _ => false
abbrev sp_up_to : KSp := spP (fun as => ∃ x m, as = [x, .int m]) fun as d => ∀ x m, as = [x, .int m] → d = .bool (upToD m x)
abbrev sp_need_many : KSp := spN fun as => ∃ m : Int, as = [.int m] ∧ 0 ≤ m ∧ m ≤ 40
abbrev sp_need_place : KSp := spN fun as => ∃ (r : List Pour) (i : Nat), as = [rowD r, .int i] ∧ i < r.length
abbrev optD : Option Rat → PyData
  | some y => rt y
  | none => .none
abbrev pre_ahead (as : List PyData) : Prop := ∃ p s, as = [rt p, rt s] ∧ Part p ∧ Smq s ∧ 0 ≤ s
theorem sub_pos_sm {p : Rat} (h : Part p) : Sm ((p.den : Int) - p.num) ∧ 0 < (p.den : Int) - p.num := by
  have a := lt_one h.p1
  have b := pp h.p0
  have c := h.pd
  refine ⟨Nat.lt_of_le_of_lt (show ((p.den : Int) - p.num).natAbs ≤ 12 by omega) (Nat.lt_of_lt_of_le (by decide : 12 < 2 ^ 4) (Nat.pow_le_pow_right (by decide) (by decide))), by omega⟩
theorem den_toNat {p s : Rat} (h : 0 < (p.den : Int) - p.num) : ((s.den : Int) * ((p.den : Int) - p.num)).toNat = s.den * ((p.den : Int) - p.num).toNat := by
  have e : (s.den : Int) * ((p.den : Int) - p.num) = ((s.den * ((p.den : Int) - p.num).toNat : Nat) : Int) := by
    rw [Int.natCast_mul, Int.toNat_of_nonneg (by omega)]
  rw [e]
  rfl
abbrev bB : Nat := 10 ^ 20 * 12 ^ 45
theorem bB_sm {b : Nat} {s : Rat} (h : Bq bB s) : Smq s := h.smq (big (by decide))
abbrev spR : KSp := spP pre_ahead fun as d => ∀ p s, as = [rt p, rt s] → d = optD (backR p s)
abbrev spLf : KSp := spP pre_ahead fun as d => ∀ p s, as = [rt p, rt s] → d = optD (backL p s)
abbrev sp_one_back : KSp := spL (fun as => ∃ (p q : Rat) (x : Pr), as = [ptD p q, prD x] ∧ Parts p q ∧ Bq bB x.2 ∧ x.1.length ≤ 100) fun as xs => ∀ (p q : Rat) (x : Pr), as = [ptD p q, prD x] → xs = (oneBack p q x).map prD
theorem pr_inj {x y : Pr} (h : prD x = prD y) : x = y := by
  injection h with h
  injection h with h1 h2
  injection h2 with h2 _
  have e1 : x.1 = y.1 := row_inj h1
  have e2 : x.2 = y.2 := rt_inj h2
  exact Prod.ext e1 e2
theorem ptpr_inj {p q p' q' : Rat} {x y : Pr} (h : [ptD p q, prD x] = [ptD p' q', prD y]) : p = p' ∧ q = q' ∧ x = y := by
  injection h with h1 h2
  injection h2 with h2 _
  obtain ⟨a, b⟩ := pt_inj h1
  exact ⟨a, b, pr_inj h2⟩
theorem Parts.part {p q : Rat} (h : Parts p q) : Part p ∧ Part q := ⟨⟨h.p0, h.p1, h.pd⟩, ⟨h.q0, h.q1, h.qd⟩⟩
end
end Pb
namespace Pb
open PySem PySem.Spec PyProof.Rows L2 Dn
theorem Shp.pr (x : Pr) : Shp 2 (prD x) := .tup fun d hd => by
  rcases List.mem_cons.mp hd with e | hd
  · rw [e]
    exact .row x.1
  · have e : d = Pb.rt x.2 := by simpa using hd
    rw [e]
    exact .rt _
theorem Shp.prs (l : List Pr) : Shp 3 (.list (l.map prD)) := .lst fun d hd => by
  obtain ⟨x, _, rfl⟩ := List.mem_map.mp hd
  exact .pr x
theorem prs_at {l : List Pr} {n : Nat} {d : PyData} (h : (l.map prD)[n]? = some d) : ∃ x, l[n]? = some x ∧ d = prD x := by
  rw [List.getElem?_map] at h
  cases e : l[n]? with
  | none =>
    rw [e] at h
    cases h
  | some x =>
    rw [e] at h
    cases h
    exact ⟨x, rfl, rfl⟩
theorem flat_take {α β : Type} (h : α → List β) (as : List α) {n : Nat} {d : α} (e : as[n]? = some d) : (as.take (n + 1)).flatMap h = (as.take n).flatMap h ++ h d := by
  rw [List.take_add_one, e, List.flatMap_append]
  simp
theorem flat_len {p q : Rat} : ∀ l : List Pr, (l.flatMap (oneBack p q)).length ≤ 2 * l.length
  | [] => by simp
  | x :: l => by
    have := flat_len (p := p) (q := q) l
    have := oneBack_len (p := p) (q := q) x
    rw [List.flatMap_cons, List.length_append, List.length_cons]
    omega
theorem prs_inj {l m : List Pr} (h : l.map prD = m.map prD) : l = m := by
  induction l generalizing m with
  | nil => cases m with
    | nil => rfl
    | cons => cases h
  | cons x l ih => cases m with
    | nil => cases h
    | cons y m =>
      injection h with h1 h2
      rw [pr_inj h1, ih h2]
section
variable {P : Program} {w : World} {K : PySem.W.Frag} {mg : Str → Option Value} {base : Heap} {f : Addr} {fd : FuncData}
abbrev sp_all_back : KSp := spL (fun as => ∃ (p q : Rat) (l : List Pr), as = [ptD p q, .list (l.map prD)] ∧ Parts p q ∧ (∀ x ∈ l, Bq bB x.2 ∧ x.1.length ≤ 100) ∧ l.length ≤ 100) fun as xs => ∀ (p q : Rat) (l : List Pr), as = [ptD p q, .list (l.map prD)] → xs = (l.flatMap (oneBack p q)).map prD
abbrev sp_rows_to : KSp := spL (fun as => ∃ (p q s : Rat) (n : Nat), as = [ptD p q, rt s, .int n] ∧ Parts p q ∧ Share s ∧ n ≤ 40) fun as xs => ∀ (p q s : Rat) (n : Nat), as = [ptD p q, rt s, .int n] → xs = (backs p q s n).map prD
theorem backs_pre {p q s : Rat} (hp : Parts p q) (hs : Share s) {n : Nat} (hn : n ≤ 41) : (∀ x ∈ backs p q s n, Bq bB x.2 ∧ x.1.length ≤ 100) ∧ (backs p q s n).length ≤ 100 := by
  refine ⟨fun x hx => ?_, Nat.le_trans (backs_fork hp n).len (by decide)⟩
  have b := backs_bk hp hs.bq n x hx
  exact ⟨b.b.mono (Nat.mul_le_mul_left _ (Nat.pow_le_pow_right (by decide) (by omega))), by rw [b.l]; omega⟩
abbrev sp_fewest : KSp := spP (fun as => ∃ p q s t, as = [ptD p q, rt s, rt t] ∧ Parts p q ∧ Share s ∧ Share t) fun as d => ∀ p q s t, as = [ptD p q, rt s, rt t] → d = fewD (fewest p q s t)
theorem few_some {p q s t : Rat} {n : Nat} {r : List Pour} (hn : n < 41) (h : ∀ m, m < n → atN p q s t m = none) (e : atN p q s t n = some r) : fewest p q s t = some r := by
  unfold fewest
  have : List.range 41 = List.range n ++ (n :: (List.range' (n + 1) (41 - (n + 1)))) := by
    rw [List.range_eq_range', List.range_eq_range', ← List.range'_succ, show List.range' n ((41 - (n + 1)) + 1) = List.range' (0 + 1 * n) (41 - n) by congr 1 <;> omega, List.range'_append]
    congr 1
    omega
  rw [this, List.findSome?_append, List.findSome?_eq_none_iff.mpr (fun m hm => h m (List.mem_range.mp hm)), List.findSome?_cons, e]
  rfl
theorem few_none {p q s t : Rat} (h : ∀ m, m < 41 → atN p q s t m = none) : fewest p q s t = none := List.findSome?_eq_none_iff.mpr fun m hm => h m (List.mem_range.mp hm)
end
end Pb
namespace Pb
open PySem PySem.Spec PyProof.Rows L2 Dn
theorem cut_pre (r : List Pour) (n : Nat) : Dn.cutD (r.map Pour.d) none (some (n : Int)) = (r.take n).map Pour.d := by
  unfold Dn.cutD
  have h1 : HT.sIx (r.map Pour.d).length 0 none = 0 := rfl
  rw [h1, HT.sIx_nat, List.drop_zero, Nat.sub_zero, List.map_take]
  by_cases h : n ≤ (r.map Pour.d).length
  · rw [Nat.min_eq_left h]
  · rw [Nat.min_eq_right (by omega), List.take_length, List.take_of_length_le (by omega)]
theorem cut_post (r : List Pour) (n : Nat) : Dn.cutD (r.map Pour.d) (some ((n : Int) + 1)) none = (r.drop (n + 1)).map Pour.d := by
  unfold Dn.cutD
  have h1 : HT.sIx (r.map Pour.d).length (r.map Pour.d).length none = (r.map Pour.d).length := rfl
  have h2 : HT.sIx (r.map Pour.d).length 0 (some ((n : Int) + 1)) = min (n + 1) (r.map Pour.d).length := HT.sIx_nat _ _ (n + 1)
  rw [h1, h2, List.map_drop]
  by_cases h : n + 1 ≤ (r.map Pour.d).length
  · rw [Nat.min_eq_left h, List.take_of_length_le (by rw [List.length_drop]; omega)]
  · rw [Nat.min_eq_right (by omega), List.drop_length, List.drop_eq_nil_of_le (by omega), List.take_nil]
theorem cut_set (r : List Pour) (n : Nat) (x : Pour) (h : n < r.length) : Dn.cutD (r.map Pour.d) none (some (n : Int)) ++ [x.d] ++ Dn.cutD (r.map Pour.d) (some ((n : Int) + 1)) none = (r.set n x).map Pour.d := by
  rw [cut_pre, cut_post, List.set_eq_take_append_cons_drop, if_pos h, List.map_append, List.map_cons, List.append_assoc]
  rfl
section
variable {P : Program} {w : World} {K : PySem.W.Frag} {mg : Str → Option Value} {base : Heap} {f : Addr} {fd : FuncData}
abbrev sp_unseen : KSp := spP (fun as => ∃ (p q s : Rat) (r : List Pour) (i : Nat) (t : Rat), as = [ptD p q, rt s, rowD r, .int i, rt t] ∧ Parts p q ∧ Share s ∧ r.length ≤ 40 ∧ i < r.length ∧ Share t) fun as d => ∀ (p q s : Rat) (r : List Pour) (i : Nat) (t : Rat), as = [ptD p q, rt s, rowD r, .int i, rt t] → d = unseenD p q s t r i
end
end Pb
namespace Pb
open PySem PySem.Spec PyProof.Rows L2 Dn
section
variable {P : Program} {w : World} {K : PySem.W.Frag} {mg : Str → Option Value} {base : Heap} {f : Addr} {fd : FuncData}
theorem ok_apart (F : FnP K "apart" s_apart f fd) (B : Bi mg) (Fl : Fk P w K mg base "lowest" 2 ["top", "bottom"] sp_lowest) : FnO P w K mg base 3 f fd ["one", "other"] (sp2 fun x y => rt (far x y)) := by
  refine fn_P F sc_apart (fun as ⟨x, y, e, _⟩ => by rw [e]; rfl) fun cdv A outer s H E G as hr sm ⟨x, y, e, hx, hy⟩ => ?_
  subst e
  refine bm_ret (em_callF (d := rt (far x y)) Fl hr (am_cons (em_abs (em_sub (em_mul (cm hx.n hy.d') (em_ixT (by rfl) (em_var 0 rfl) em_int) (em_ixT (by rfl) (em_var 1 rfl) em_int)) (em_mul (cm hy.n hx.d') (em_ixT (by rfl) (em_var 1 rfl) em_int) (em_ixT (by rfl) (em_var 0 rfl) em_int))) B.abs) (am_cons (em_mul (cm hx.d' hy.d') (em_ixT (by rfl) (em_var 0 rfl) em_int) (em_ixT (by rfl) (em_var 1 rfl) em_int)) am_nil)) ⟨(x.num * (y.den : Int) - y.num * (x.den : Int)).natAbs, x.den * y.den, by rw [Int.natCast_mul], Nat.mul_pos x.den_pos y.den_pos, mul_small hx.d hy.d⟩ ?_) fun v d G H hd e => ⟨d, hd, fun x' y' h => ?_⟩
  · rw [← mk_far]
    rfl
  · obtain ⟨rfl, rfl⟩ := rts h
    exact e
theorem ok__law_away (F : FnP K "_law_away" s__law_away f fd) (B : Bi mg) (Fm : Fk P w K mg base "_law_minus" 3 ["one", "other"] (sp2 fun x y => rt (x - y))) : FnO P w K mg base 4 f fd ["one", "other"] (sp2 fun x y => rt (far x y)) := by
  refine fn_P F sc__law_away (fun as ⟨x, y, e, _⟩ => by rw [e]; rfl) fun cdv A outer s H E G as hr sm ⟨x, y, e, hx, hy⟩ => ?_
  subst e
  refine bm_set (d := rt (x - y)) 2 (em_mono (em_call Fm hr (am_cons (em_var 0 rfl) (am_cons (em_var 1 rfl) am_nil)) ⟨x, y, rfl, hx, hy⟩) fun d h => h x y rfl) ?_ sc__law_away.nd
  refine bm_ret (em_tup (am_cons (em_abs (em_ixT (by rfl) (em_var 2 rfl) em_int) B.abs) (am_cons (em_ixT (by rfl) (em_var 2 rfl) em_int) am_nil))) fun v d G H hd e => ⟨d, hd, fun x' y' h => ?_⟩
  obtain ⟨rfl, rfl⟩ := rts h
  exact e.trans (far_rt x y).symm
/-! ### lefts -/
abbrev lD : Option Int → PyData
  | none => .none
  | some l => .int l
def LOk (n : Nat) (L : Option Int) : Prop := ∀ l, L = some l → 0 ≤ l ∧ l ≤ n
abbrev encNL (v : Nat × Option Int) : List PyData := [.int v.1, lD v.2]
abbrev sp_need_lefts : KSp := spG encNL (fun v => LOk v.1 v.2) fun _ => .none
abbrev sp_rows_among : KSp := spG encNL (fun v => v.1 ≤ 40) fun v => .int (cnt v.1 v.2)
abbrev sp_fewer : KSp := spG (fun L : Option Int => [lD L]) (fun _ => True) fun L => lD (dcl L)
abbrev encNLK (v : Nat × Option Int × Nat) : List PyData := [.int v.1, lD v.2.1, .int v.2.2]
theorem up_to_true {i m : Int} (h0 : 0 ≤ i) (h1 : i ≤ m) : PyData.bool (upToD m (.int i)) = .bool true := by
  show PyData.bool (decide (0 ≤ i) && decide (i ≤ m)) = _
  rw [decide_eq_true h0, decide_eq_true h1]
  rfl
abbrev sp_need_number : KSp := spG encNLK (fun v => v.1 ≤ 40 ∧ v.2.2 < cnt v.1 v.2.1) fun _ => .none
abbrev sp_need_any : KSp := spG (fun b : Bool => [.bool b]) (fun _ => True) fun _ => .none
abbrev sp_how_many : KSp := spG encNL (fun v => v.1 ≤ 40 ∧ LOk v.1 v.2) fun v => .int (cnt v.1 v.2)
/-! ### the row of a number -/
abbrev rowK (n : Nat) (L : Option Int) (k : Nat) : List Pour := (nthR n L k).reverse
abbrev sp_row_of : KSp := spG encNLK (fun v => v.1 ≤ 40 ∧ LOk v.1 v.2.1 ∧ v.2.2 < cnt v.1 v.2.1) fun v => rowD (rowK v.1 v.2.1 v.2.2)
/-! ### the number of a row -/
abbrev anyL (b : Bool) (r : List Pour) : Option Int := if b then none else some (r.count .left : Nat)
abbrev encRB (v : List Pour × Bool) : List PyData := [rowD v.1, .bool v.2]
abbrev sp_number_of : KSp := spG encRB (fun v => v.1.length ≤ 40) fun v => .int (numR v.1.reverse (anyL v.2 v.1) : Nat)
theorem em_countL {X : Cx} {W : Wr} {ds : List Sl} {a b : Expr} {pos p2 : Pos} {r : List Pour} (hu : X.A.units + 64 < cLine) (ha : Em X W ds a (· = rowD r)) (hb : Em X W ds b (· = .str "left")) (ht : PA X [b] (tCons (uE X b) tNil) → PE X a (uE X a) → PE X (.Call (.Attribute a "count" p2) [b] [] pos) (tBMT X.K (rCntD X.K) (uE X a) (tCons (uE X b) tNil)))
    (hs : starEach [b] X.env = (false, eval b X.env) :: starEach [] X.env := by rfl) : Em X W ds (.Call (.Attribute a "count" p2) [b] [] pos) (· = .int (r.count .left : Nat)) :=
  em_is (em_count hu ha (plain_row r) rfl (by decide) hb ht hs) (by rw [count_row])
theorem tm_pourL {X : Cx} {W : Wr} {ds : List Sl} {a b : Expr} {pos : Pos} {x : Pour} (ha : Em X W ds a (· = x.d)) (hb : Em X W ds b (· = .str "left")) : Tm X W ds (.Compare a [.Eq] [b] pos) (· = decide (x = .left)) := by
  cases x with
  | right => exact tm_mono (tm_eqS (x := "right") (y := "left") ha hb) fun _ e => e.trans (by decide +kernel)
  | left => exact tm_mono (tm_eqS (x := "left") (y := "left") ha hb) fun _ e => e.trans (by decide +kernel)
end
end Pb
namespace Pb
open PySem PySem.Spec PyProof.Rows L2 Dn
/-- a module's name for a tuple of ints -/
def KC (K : PySem.W.Frag) (mg : Str → Option Value) (x : Str) (ns : List Int) : Prop := ∃ a, mg x = some (.ref a) ∧ KT K a (ns.map V.int)
structure Ask where
  p : Rat
  q : Rat
  s : Rat
  n : Nat
  L : Option Int
  w : Rat
abbrev encA (v : Ask) : List PyData := [ptD v.p v.q, rt v.s, .int v.n, lD v.L, rt v.w]
structure AskOk (v : Ask) : Prop where
  hp : Parts v.p v.q
  hs : Share v.s
  hn : v.n ≤ 40
  hL : LOk v.n v.L
  hw : Share v.w
section
variable {P : Program} {w : World} {K : PySem.W.Frag} {mg : Str → Option Value} {base : Heap} {f : Addr} {fd : FuncData}
theorem Bq.up {b : Nat} {p x : Rat} (h : Bq b x) (hp : Part p) (hb : 0 < b) : Bq (b * 12) (upR p x) := by
  unfold upR
  cases e : Pb.backR p x with
  | none => exact ⟨by decide, by decide, by show (1 : Rat).den ≤ b * 12; exact Nat.le_trans (show 1 ≤ b * 1 by omega) (Nat.mul_le_mul_left b (by decide))⟩
  | some y => exact (h.backR hp.p0 hp.p1 hp.pd e).1
abbrev sp_at_most : KSp := spG encA AskOk fun v => .int (atm v.p v.q v.s v.n v.L v.w : Nat)
/-! ### nearest -/
abbrev nrD (v : Ask) : Option Nat → PyData
  | none => .none
  | some k => .tuple [rowD (rowK v.n v.L k), rt (far (endK v.p v.q v.s v.n v.L k) v.w)]
abbrev sp_nearest : KSp := spG encA AskOk fun v => nrD v (nearK v.p v.q v.s v.n v.L v.w)
theorem endK_pours (p q s : Rat) (n : Nat) (L : Option Int) (k : Nat) : pours p q s (rowK n L k) = endK p q s n L k := by
  rw [pb_rev, List.reverse_reverse]
  rfl
theorem Share.smq {s : Rat} (hs : Share s) : Smq s := hs.bq.smq (Nat.lt_of_le_of_lt (show 10 ^ 20 ≤ 10 ^ 20 * 12 ^ 0 by decide) (big (by decide)))
theorem smq_end {p q s : Rat} (hp : Parts p q) (hs : Share s) {r : List Pour} (hr : r.length ≤ 100) : Smq (pours p q s r) := (hs.bq.pours hp r).smq (big (by omega))
theorem far_smq {x y : Rat} {a b : Nat} (hx : Bq a x) (hy : Bq b y) (h : a * b < 2 ^ 4000) : Smq (far x y) := by
  have x0 := hx.s0
  have x1 := hx.s1
  have y0 := hy.s0
  have y1 := hy.s1
  have f0 := far_nn x y
  have f1 : far x y ≤ 1 := by
    unfold far
    split <;> grind
  have hd : (far x y).den ≤ a * b := by
    rw [← mk_far]
    exact Nat.le_trans (den_mk _ _ (Nat.mul_pos x.den_pos y.den_pos)) (Nat.mul_le_mul hx.sd hy.sd)
  exact (Bq.mk f0 f1 hd).smq h
theorem rowK_len {n : Nat} {L : Option Int} {k : Nat} (h : k < cnt n L) : (rowK n L k).length = n := by
  rw [List.length_reverse]
  exact (nth_ok n h).1
end
end Pb
namespace Pb
open PySem PySem.Spec PyProof.Rows L2 Dn
section
variable {P : Program} {w : World} {K : PySem.W.Frag} {mg : Str → Option Value} {base : Heap} {f : Addr} {fd : FuncData}
structure F4 where
  a : Int
  b : Int
  c : Int
  d : Int
abbrev encF4 (v : F4) : List PyData := [.tuple [.int v.a, .int v.b], .tuple [.int v.c, .int v.d]]
structure F4Ok (v : F4) : Prop where
  a : Sm v.a
  b : Sm v.b
  c : Sm v.c
  d : Sm v.d
abbrev sp_less4 : KSp := spG encF4 F4Ok fun v => .bool (decide (v.a * v.d < v.c * v.b))
abbrev sp_need_distance : KSp := spG (fun x : Rat => [rt x]) (fun x => Share x ∧ 0 < x) fun _ => .none
abbrev sp_need_some : KSp := spG (fun r : List Pour => [rowD r]) (fun r => r.length ≤ 40 ∧ r ≠ []) fun _ => .none
/-! ### near enough -/
structure AskN where
  p : Rat
  q : Rat
  s : Rat
  w : Rat
  dd : Rat
abbrev encN (v : AskN) : List PyData := [ptD v.p v.q, rt v.s, rt v.w, rt v.dd]
structure AskNOk (v : AskN) : Prop where
  hp : Parts v.p v.q
  hs : Share v.s
  hw : Share v.w
  hd : Share v.dd
  d0 : 0 < v.dd
abbrev sp_near_enough : KSp := spG encN AskNOk fun v => fewD (nearE v.p v.q v.s v.w v.dd)
theorem nearE_some {p q s w dd : Rat} {m : Nat} {r : List Pour} {x : Rat} (hm : m < 21) (h : ∀ j, j < m → ∀ y, farN p q s w j = some y → dd < y.2) (e : farN p q s w m = some (r, x)) (hx : ¬ dd < x) : nearE p q s w dd = some r := by
  unfold nearE
  have : List.range 21 = List.range m ++ (m :: (List.range' (m + 1) (21 - (m + 1)))) := by
    rw [List.range_eq_range', List.range_eq_range', ← List.range'_succ, show List.range' m ((21 - (m + 1)) + 1) = List.range' (0 + 1 * m) (21 - m) by congr 1 <;> omega, List.range'_append]
    congr 1
    omega
  rw [this, List.findSome?_append, List.findSome?_eq_none_iff.mpr (fun j hj => ?_), List.findSome?_cons, e]
  · simp only [if_neg hx, Option.none_or]
  · cases ej : farN p q s w j with
    | none => rfl
    | some y => exact if_pos (h j (List.mem_range.mp hj) y ej)
theorem nearE_none {p q s w dd : Rat} (h : ∀ j, j < 21 → ∀ y, farN p q s w j = some y → dd < y.2) : nearE p q s w dd = none := by
  unfold nearE
  refine List.findSome?_eq_none_iff.mpr fun j hj => ?_
  cases ej : farN p q s w j with
  | none => rfl
  | some y => exact if_pos (h j (List.mem_range.mp hj) y ej)
theorem LOk.none {n : Nat} : LOk n none := fun _ e => nomatch e
/-! ### goes to -/
structure AskG where
  p : Rat
  q : Rat
  r : List Pour
abbrev encG (v : AskG) : List PyData := [ptD v.p v.q, rowD v.r]
structure AskGOk (v : AskG) : Prop where
  hp : Parts v.p v.q
  hl : v.r.length ≤ 40
  hn : v.r ≠ []
abbrev sp_goes_to : KSp := spG encG AskGOk fun v => rt (fixp v.p v.q v.r)
theorem sh0 : Share 0 := ⟨by decide, by decide, by decide⟩
theorem sh1' : Share 1 := ⟨by decide, by decide, by decide⟩
/-! ### times till -/
structure AskT where
  p : Rat
  q : Rat
  s : Rat
  r : List Pour
  dd : Rat
abbrev encT (v : AskT) : List PyData := [ptD v.p v.q, rt v.s, rowD v.r, rt v.dd]
structure AskTOk (v : AskT) : Prop where
  hp : Parts v.p v.q
  hs : Share v.s
  hl : v.r.length ≤ 40
  hn : v.r ≠ []
  hd : Share v.dd
  d0 : 0 < v.dd
  T : ∃ T, v.r.length * T ≤ 700 ∧ far v.s (fixp v.p v.q v.r) * pwr (slope v.p v.q v.r) T ≤ v.dd
abbrev sp_times_till : KSp := spQ encT AskTOk fun v d => ∃ t : Nat, d = .int t ∧ Till (far v.s (fixp v.p v.q v.r)) (slope v.p v.q v.r) v.dd t
end
end Pb
namespace Pb
open PySem PySem.Spec PyProof.Rows L2 Dn
theorem nearE_cases (p q s w dd : Rat) : (nearE p q s w dd = none ∧ ∀ j, j < 21 → ∀ y, farN p q s w j = some y → dd < y.2) ∨ ∃ m r x, m < 21 ∧ nearE p q s w dd = some r ∧ farN p q s w m = some (r, x) ∧ ¬ dd < x ∧ ∀ j, j < m → ∀ y, farN p q s w j = some y → dd < y.2 := by
  have step : ∀ n, n ≤ 21 → (∀ j, j < n → ∀ y, farN p q s w j = some y → dd < y.2) ∨ ∃ m r x, m < 21 ∧ nearE p q s w dd = some r ∧ farN p q s w m = some (r, x) ∧ ¬ dd < x ∧ ∀ j, j < m → ∀ y, farN p q s w j = some y → dd < y.2 := by
    intro n
    induction n with
    | zero => exact fun _ => .inl fun j hj => by omega
    | succ n ih =>
      intro hn
      rcases ih (by omega) with h | h
      · cases e : farN p q s w n with
        | none =>
          refine .inl fun j hj y ey => ?_
          by_cases z : j = n
          · rw [z, e] at ey
            cases ey
          · exact h j (by omega) y ey
        | some y =>
          obtain ⟨r, x⟩ := y
          by_cases c : dd < x
          · refine .inl fun j hj y ey => ?_
            by_cases z : j = n
            · rw [z, e] at ey
              rw [← Option.some.inj ey]
              exact c
            · exact h j (by omega) y ey
          · exact .inr ⟨n, r, x, by omega, nearE_some (by omega) h e c, e, c, h⟩
      · exact .inr h
  rcases step 21 (Nat.le_refl _) with h | h
  · exact .inl ⟨nearE_none h, h⟩
  · exact .inr h
/-- the nearest of so many pours, from any share -/
theorem farN_is {p q s w : Rat} (hp : Parts p q) (s0 : 0 ≤ s) (s1 : s ≤ 1) (w0 : 0 ≤ w) (w1 : w ≤ 1) (m : Nat) : ∃ k, nearK p q s m none w = some k ∧ Near p q s m none w k ∧ farN p q s w m = some (rowK m none k, far (endK p q s m none k) w) := by
  obtain ⟨k, h, nr⟩ := near_is hp s0 s1 (n := m) (L := none) w0 w1 (cnt_pos fun _ e => nomatch e)
  refine ⟨k, h, nr, ?_⟩
  unfold farN
  rw [h]
  rfl
def lastD (F sl : Rat) : Nat → PyData
  | 0 => .none
  | j + 1 => rt (F * pwr sl j)
def lenE : Option (List Pour) → Nat
  | none => 21
  | some r => r.length
theorem till_le {F sl dd : Rat} {t T : Nat} (h : Till F sl dd t) (hT : F * pwr sl T ≤ dd) : t ≤ T := by
  apply Classical.byContradiction
  intro c
  have := h.lt T (by omega)
  grind
theorem small_dd {n : Nat} (hn : 0 < n) {N : Nat} (h : n ≤ N) : 1 ≤ mkRat 1 n * (N : Rat) ∧ 0 < mkRat 1 n ∧ mkRat 1 n ≤ 1 := by
  have e : mkRat 1 n * (n : Rat) = 1 := by
    rw [mk_div]
    show ((1 : Int) : Rat) / (n : Rat) * (n : Rat) = 1
    rw [Rat.div_mul_cancel (by have := Rat.natCast_pos.mpr hn; grind)]
    rfl
  have p : 0 < mkRat 1 n := mk_pos (by decide) hn
  have c : (n : Rat) ≤ (N : Rat) := Rat.natCast_le_natCast.mpr h
  have := Rat.mul_le_mul_of_nonneg_left c (Rat.le_of_lt p)
  exact ⟨by grind, p, mk_le1 (by omega) hn⟩
theorem p318 : 11 ^ 318 * 10 ^ 12 ≤ 12 ^ 318 := by decide +kernel
theorem p48 : 11 ^ 48 * 61 ≤ 12 ^ 48 := by decide +kernel
theorem rt_lit {x : Rat} {a : Int} {b : Nat} (h : (decide (x.num = a) && decide (x.den = b)) = true) : rt x = .tuple [.int a, .int b] := by
  rw [Bool.and_eq_true] at h
  show PyData.tuple [.int x.num, .int x.den] = _
  rw [of_decide_eq_true h.1, of_decide_eq_true h.2]
theorem till_uniq {F sl dd : Rat} {t u : Nat} (h : Till F sl dd t) (h' : Till F sl dd u) : t = u := by
  have a := till_le h h'.le
  have b := till_le h' h.le
  omega
/-- the best of the first rows: none near enough, or the first of the nearest -/
def BestN (gap : Nat → Rat) (dd : Rat) (j : Nat) : Option Nat → Prop
  | none => ∀ i, i < j → dd < gap i
  | some k => k < j ∧ gap k ≤ dd ∧ (∀ i, i < j → gap k ≤ gap i) ∧ ∀ i, i < k → gap k < gap i
theorem best_near {p q s w dd : Rat} {m : Nat} {k k' : Nat} (nr : Near p q s m none w k') (h : BestN (fun k => far (endK p q s m none k) w) dd (2 ^ m) (some k)) : k = k' := by
  obtain ⟨h1, h2, h3, h4⟩ := h
  have lt := nr.lt
  rw [cnt_none] at lt
  have a := h3 k' lt
  have b := nr.le k (by rw [cnt_none]; exact h1)
  rcases Nat.lt_trichotomy k k' with c | c | c
  · have := nr.st k c
    grind
  · exact c
  · have := h4 k' c
    grind
end Pb
namespace Pb
open PySem PySem.Spec PyProof.Rows L2 Dn
section
variable {P : Program} {w : World} {K : PySem.W.Frag} {mg : Str → Option Value} {base : Heap} {f : Addr} {fd : FuncData}
/-! ## refusals -/
abbrev spx_need_many : KSp := spX (fun as => ∃ x, as = [x] ∧ upToD 40 x = false) "NoMany"
abbrev spx_need_lefts : KSp := spX (fun as => ∃ (n : Int) (x : PyData), as = [.int n, x] ∧ x ≠ .none ∧ upToD n x = false) "NoLefts"
abbrev spx_need_number : KSp := spX (fun as => ∃ (n : Nat) (L : Option Int) (x : PyData), as = [.int n, lD L, x] ∧ n ≤ 40 ∧ upToD (cnt n L - 1) x = false) "NoNumber"
abbrev spx_row_many : KSp := spX (fun as => ∃ x y z, as = [x, y, z] ∧ upToD 40 x = false) "NoMany"
abbrev spx_row_number : KSp := spX (fun as => ∃ (n : Nat) (L : Option Int) (x : PyData), as = [.int n, lD L, x] ∧ n ≤ 40 ∧ LOk n L ∧ upToD (cnt n L - 1) x = false) "NoNumber"
abbrev spx_how_lefts : KSp := spX (fun as => ∃ (n : Nat) (x : PyData), as = [.int n, x] ∧ n ≤ 40 ∧ x ≠ .none ∧ upToD n x = false) "NoLefts"
/-! ## who is refused -/
abbrev W11 : List Str := ["NoParts", "NoShare", "NoRow", "NoMany", "NoLefts", "NoPlace", "NoNumber", "NoDistance", "NoPour", "Full", "NothingLeft"]
/-- what is known of the classes -/
structure XF (K : PySem.W.Frag) (mg : Str → Option Value) : Prop where
  pe : mg "PourError" = some (.ref (He.ga K "PourError"))
  ve : mg "ValueError" = none
  x : ∀ x ∈ W11, XC K mg x
  m : ∀ x ∈ W11, PySem.W.exmOne K (.ref (He.ga K x)) (.ref (He.ga K "PourError")) = some true
  c : ∀ x ∈ W11, ExcC K (He.ga K x)
  k : ∀ x ∈ W11, ∀ y ∈ W11, PySem.W.kitOne K (.ref (He.ga K x)) (.ref (He.ga K y)) = some (decide (x = y))
  v : ∀ x ∈ W11, PySem.W.kitOne K (.ref (He.ga K x)) (.type "ValueError") = some true
theorem xf_of {h : Heap} (X : K.In h) (G : h.Ns mainGlobals mg) (e : xfB W11 "PourError" K = true) (pe : mg "PourError" = some (.ref (He.ga K "PourError"))) (ve : mg "ValueError" = none) : XF K mg :=
  ⟨pe, ve, fun x hx => (xfB_ok X G e hx).xc, fun x hx => (xfB_ok X G e hx).m, fun x hx => (xfB_ok X G e hx).c, fun x hx => (xfB_ok X G e hx).k, fun x hx => (xfB_ok X G e hx).v⟩
def kinD : Option Str → List PyData
  | none => []
  | some x => [.str x, .bool true]
def spRf (P : Program) (w : World) (mg : Str → Option Value) (base : Heap) (kk : Nat) : KSp := fun K vs H Q _ => ∃ (f : Addr) (v1 v2 v3 : V) (G : Hp) (o : Option Str) (pre : Hp → Prop) (spc : Sp), vs = [.ref f, v1, v2, v3] ∧ (∀ wd, o = some wd → wd ∈ W11) ∧ Same G H ∧ Cal P w K mg base kk f pre spc ∧
  (∀ G1 H1, Stp G H G1 H1 → pre H1 ∧ ∀ (Q : VK) (E : XK), (∀ v G2 H2, o = none → Stp G1 H1 G2 H2 → Q v H2) → (∀ wd G2 H2, o = some wd → Stp G1 H1 G2 H2 → E (.ref (He.ga K wd)) none H2) → spc [v1, v2, v3] H1 Q E) ∧ ∀ v G' H', Stp G H G' H' → Dd K G' v (.list (kinD o)) → Q v H'
abbrev wsD (p : Str × Bool) : PyData := .tuple [.str p.1, .bool p.2]
def wsF : PyData → Option PyData
  | .tuple [u, .bool true] => some u
  | _ => none
theorem kin_words : ∀ wd ∈ W11, (List.map wsD [("NoParts", decide (wd = "NoParts")), ("NoShare", decide (wd = "NoShare")), ("NoRow", decide (wd = "NoRow")), ("NoMany", decide (wd = "NoMany")), ("NoLefts", decide (wd = "NoLefts")), ("NoPlace", decide (wd = "NoPlace")), ("NoNumber", decide (wd = "NoNumber")), ("NoDistance", decide (wd = "NoDistance")), ("NoPour", decide (wd = "NoPour")), ("Full", decide (wd = "Full")), ("NothingLeft", decide (wd = "NothingLeft"))]).filterMap wsF ++ [PyData.bool true] = kinD (some wd) := by
  intro wd hw
  simp only [W11, List.mem_cons, List.not_mem_nil, or_false] at hw
  rcases hw with rfl | rfl | rfl | rfl | rfl | rfl | rfl | rfl | rfl | rfl | rfl <;> rfl
theorem ws_at {ws : List (Str × Bool)} {n : Nat} {u v : PyData} (h : (ws.map wsD)[n]? = some (.tuple [u, v])) : ∃ x b, u = .str x ∧ v = .bool b := by
  rw [List.getElem?_map] at h
  cases e : ws[n]? with
  | none => rw [e] at h; cases h
  | some p =>
    rw [e] at h
    cases h
    exact ⟨_, _, rfl, rfl⟩
theorem ws_pair {ws : List (Str × Bool)} {n : Nat} {d : PyData} (h : (ws.map wsD)[n]? = some d) : ∃ u v, d = .tuple [u, v] := by
  rw [List.getElem?_map] at h
  cases e : ws[n]? with
  | none => rw [e] at h; cases h
  | some p =>
    rw [e] at h
    cases h
    exact ⟨_, _, rfl⟩
abbrev NR : List Str := ["call", "one", "two", "three", "kin", "e", "words", "word", "there"]
theorem ok__law_refused {kk : Nat} (F : FnP K "_law_refused" s__law_refused f fd) (B : Bi mg) (xf : XF K mg) : FnO P w K mg base (kk + 1) f fd ["call", "one", "two", "three"] (spRf P w mg base kk) := by
  refine F.ok sc__law_refused (fun vs H Q E ⟨f, v1, v2, v3, G, o, pre, spc, e, _⟩ => by rw [e]; rfl) fun cdv A outer s H vs Q E hr ⟨g, v1, v2, v3, G, o, pre, spc, e, ho, sm, cal, hcall, q⟩ => ?_
  subst e
  have key : Bm (Cx0 P w K mg base NR "_law_refused" (defScope s__law_refused) f cdv A outer s H E) pw G H [.raw (.ref g), .raw v1, .raw v2, .raw v3, .un, .un, .un, .un, .un] (defBody s__law_refused) nono nono nono (rD K (· = .list (kinD o))) := by
    refine bm_set (d := .list []) 4 (em_lst am_nil) ?_ sc__law_refused.nd
    refine bm_try3 (N1 := fun ds' => ds'[4]? = some (.dat (.list (kinD o)))) (i := 5) (j := 0) (j1 := 1) (j2 := 2) (j3 := 3) (o := o = none) (D := fun c => ∃ wd, o = some wd ∧ c = He.ga K wd) cal hr rfl rfl sc__law_refused.nd xf.pe (fun c ⟨wd, e, ec⟩ => by rw [ec]; exact xf.m wd (ho wd e)) rfl rfl rfl rfl
      (fun G1 H1 r => ⟨(hcall G1 H1 r).1, fun Q E hq he => (hcall G1 H1 r).2 Q E hq fun wd G2 H2 e st => he _ G2 H2 ⟨wd, e, rfl⟩ st⟩) (fun e => by rw [e]; rfl) (fun a oe c pn ⟨wd, e, ec⟩ hz hv => ?_) fun ds' h => bm_retD (em_var 4 h)
    subst ec
    have hw := ho wd e
    have xc := xf.c wd hw
    have kt := xf.k wd hw

    refine bm_set (d := .list (List.map wsD [("NoParts", decide (wd = "NoParts")), ("NoShare", decide (wd = "NoShare"))])) 6 (em_lst (am_cons (em_tup (am_cons em_str (am_cons (em_isE 5 xc hz.zc hv rfl (kt "NoParts" (by decide)) B.isi (xf.x "NoParts" (by decide)).g) am_nil))) (am_cons (em_tup (am_cons em_str (am_cons (em_isE 5 xc hz.zc hv rfl (kt "NoShare" (by decide)) B.isi (xf.x "NoShare" (by decide)).g) am_nil))) am_nil))) ?_ sc__law_refused.nd
    refine bm_set (d := .list (List.map wsD [("NoParts", decide (wd = "NoParts")), ("NoShare", decide (wd = "NoShare")), ("NoRow", decide (wd = "NoRow"))])) 6 (em_is (em_catL (Nat.le_of_ble_eq_true rfl) (em_var 6 rfl) (em_lst (am_cons (em_tup (am_cons em_str (am_cons (em_isE 5 xc hz.zc hv rfl (kt "NoRow" (by decide)) B.isi (xf.x "NoRow" (by decide)).g) am_nil))) am_nil))) rfl) ?_ sc__law_refused.nd
    refine bm_set (d := .list (List.map wsD [("NoParts", decide (wd = "NoParts")), ("NoShare", decide (wd = "NoShare")), ("NoRow", decide (wd = "NoRow")), ("NoMany", decide (wd = "NoMany")), ("NoLefts", decide (wd = "NoLefts"))])) 6 (em_is (em_catL (Nat.le_of_ble_eq_true rfl) (em_var 6 rfl) (em_lst (am_cons (em_tup (am_cons em_str (am_cons (em_isE 5 xc hz.zc hv rfl (kt "NoMany" (by decide)) B.isi (xf.x "NoMany" (by decide)).g) am_nil))) (am_cons (em_tup (am_cons em_str (am_cons (em_isE 5 xc hz.zc hv rfl (kt "NoLefts" (by decide)) B.isi (xf.x "NoLefts" (by decide)).g) am_nil))) am_nil)))) rfl) ?_ sc__law_refused.nd
    refine bm_set (d := .list (List.map wsD [("NoParts", decide (wd = "NoParts")), ("NoShare", decide (wd = "NoShare")), ("NoRow", decide (wd = "NoRow")), ("NoMany", decide (wd = "NoMany")), ("NoLefts", decide (wd = "NoLefts")), ("NoPlace", decide (wd = "NoPlace")), ("NoNumber", decide (wd = "NoNumber"))])) 6 (em_is (em_catL (Nat.le_of_ble_eq_true rfl) (em_var 6 rfl) (em_lst (am_cons (em_tup (am_cons em_str (am_cons (em_isE 5 xc hz.zc hv rfl (kt "NoPlace" (by decide)) B.isi (xf.x "NoPlace" (by decide)).g) am_nil))) (am_cons (em_tup (am_cons em_str (am_cons (em_isE 5 xc hz.zc hv rfl (kt "NoNumber" (by decide)) B.isi (xf.x "NoNumber" (by decide)).g) am_nil))) am_nil)))) rfl) ?_ sc__law_refused.nd
    refine bm_set (d := .list (List.map wsD [("NoParts", decide (wd = "NoParts")), ("NoShare", decide (wd = "NoShare")), ("NoRow", decide (wd = "NoRow")), ("NoMany", decide (wd = "NoMany")), ("NoLefts", decide (wd = "NoLefts")), ("NoPlace", decide (wd = "NoPlace")), ("NoNumber", decide (wd = "NoNumber")), ("NoDistance", decide (wd = "NoDistance")), ("NoPour", decide (wd = "NoPour"))])) 6 (em_is (em_catL (Nat.le_of_ble_eq_true rfl) (em_var 6 rfl) (em_lst (am_cons (em_tup (am_cons em_str (am_cons (em_isE 5 xc hz.zc hv rfl (kt "NoDistance" (by decide)) B.isi (xf.x "NoDistance" (by decide)).g) am_nil))) (am_cons (em_tup (am_cons em_str (am_cons (em_isE 5 xc hz.zc hv rfl (kt "NoPour" (by decide)) B.isi (xf.x "NoPour" (by decide)).g) am_nil))) am_nil)))) rfl) ?_ sc__law_refused.nd
    refine bm_set (d := .list (List.map wsD [("NoParts", decide (wd = "NoParts")), ("NoShare", decide (wd = "NoShare")), ("NoRow", decide (wd = "NoRow")), ("NoMany", decide (wd = "NoMany")), ("NoLefts", decide (wd = "NoLefts")), ("NoPlace", decide (wd = "NoPlace")), ("NoNumber", decide (wd = "NoNumber")), ("NoDistance", decide (wd = "NoDistance")), ("NoPour", decide (wd = "NoPour")), ("Full", decide (wd = "Full")), ("NothingLeft", decide (wd = "NothingLeft"))])) 6 (em_is (em_catL (Nat.le_of_ble_eq_true rfl) (em_var 6 rfl) (em_lst (am_cons (em_tup (am_cons em_str (am_cons (em_isE 5 xc hz.zc hv rfl (kt "Full" (by decide)) B.isi (xf.x "Full" (by decide)).g) am_nil))) (am_cons (em_tup (am_cons em_str (am_cons (em_isE 5 xc hz.zc hv rfl (kt "NothingLeft" (by decide)) B.isi (xf.x "NothingLeft" (by decide)).g) am_nil))) am_nil)))) rfl) ?_ sc__law_refused.nd
    refine bm_set (d := .list (kinD o)) 4 (em_is (em_catL ?_ (em_lcFH 7 8 wsF (em_var 6 rfl) (fun n d h => ws_pair h) (fun s' H' C cl fp n u v h => ?_) ?_ (hotc_suite hz hv) sc__law_refused.nd (blkOk_by (N := NR) (sc := defScope s__law_refused) (by decide +kernel)) fun s H C cl fp hot => pg_tupH hot (pgs_cons (pg_name (i := 7) sc__law_refused.nd rfl (Or.inl rfl)) (pgs_cons (pg_name (i := 8) sc__law_refused.nd rfl (Or.inl rfl)) pgs_nil))) (em_lst (am_cons (em_isEB 5 xc hz.zc hv rfl (xf.v wd hw) B.isi xf.ve (by decide +kernel)) am_nil))) ?_) ?_ sc__law_refused.nd
    · exact Nat.le_trans (Nat.add_le_add_right (List.length_filterMap_le ..) _) (Nat.le_of_ble_eq_true rfl)
    · obtain ⟨x, b, rfl, rfl⟩ := ws_at h
      exact ⟨b, tm_val (em_var 8 rfl), fun hb => by rw [hb]; rfl, fun hb => ⟨.str x, by rw [hb]; rfl, fun s H C cl fp => em_var 7 rfl⟩⟩
    · show 11 < 40000
      decide
    · rw [e]
      exact congrArg PyData.list (kin_words wd hw)
    · exact bm_nil rfl
  have env : EnvOk K pw G H [.raw (.ref g), .raw v1, .raw v2, .raw v3, .un, .un, .un, .un, .un] (start NR [.ref g, v1, v2, v3]) := ⟨rfl, fun i s y a b => by
    match i with
    | 0 | 1 | 2 | 3 => cases a; cases b; rfl
    | 4 | 5 | 6 | 7 | 8 => cases a; trivial
    | i + 9 => cases a⟩
  obtain ⟨t, ht, h⟩ := key G (start NR [.ref g, v1, v2, v3]) G H { nx := fun _ H' => Q .non H', rt := Q } ⟨.refl _, .refl sm⟩ env (fun _ _ _ _ _ _ z => z.elim) (fun _ _ _ _ _ _ z => z.elim) (fun _ _ _ _ _ _ z => z.elim) fun v G2 H2 s2 ⟨d, hd, e⟩ => q v G2 H2 s2 (e ▸ hd)
  exact ⟨t, ht.nox, h⟩
end
end Pb
namespace Pb
open PySem PySem.Spec PyProof.Rows L2 Dn LamX
theorem three {α : Type} {l : List α} (h : l.length = 3) : ∃ a b c, l = [a, b, c] := by
  match l, h with
  | [a, b, c], _ => exact ⟨a, b, c, rfl⟩
theorem kin_shp {x : Str} (h : PyData.strOk x = true) : Shp 1 (.list (kinD (some x))) := .lst fun d hd => by
  simp only [kinD, List.mem_cons, List.not_mem_nil, or_false] at hd
  rcases hd with rfl | rfl
  · exact ⟨by simp only [PyData.canLay0, h], by simp only [PyData.depth, Nat.le_refl]⟩
  · exact ⟨by simp only [PyData.canLay0], by simp only [PyData.depth, Nat.le_refl]⟩
section
variable {X : Cx} {W : Wr} {ds : List Sl} {e1 e2 e3 : Expr} {pos p2 p3 : Pos}
/-- refused(g, ..), g a def -/
theorem em_refD {g : Str} {kk : Nat} {pre : List PyData → Prop} {o : Option Str} {Pa : List PyData → Prop} (Fr : Fk X.prog X.w X.K X.mg X.base "_law_refused" (kk + 1) ["call", "one", "two", "three"] (spRf X.prog X.w X.mg X.base kk)) (Fg : Fc X.prog X.w X.K X.mg X.base g kk (spO pre o)) (hw : ∀ wd, o = some wd → wd ∈ W11) (hr : Room (kk + 1) X.A)
    (ha : Am X W ds [e1, e2, e3] Pa) (hp : ∀ as, Pa as → as.length = 3 ∧ pre as) (hg : Gl X "_law_refused" := by rfl) (hgg : Gl X g := by rfl) (hdg : (g == ("__debug__" : Str)) = false := by decide)
    (he : starEach [.Name g p3, e1, e2, e3] X.env = (false, eval (.Name g p3) X.env) :: starEach [e1, e2, e3] X.env := by rfl) (hpl : (backTo pos (starEach [e1, e2, e3] X.env)).any (·.1) = false := by rfl) : Em X W ds (.Call (.Name "_law_refused" p2) [.Name g p3, e1, e2, e3] [] pos) (· = .list (kinD o)) := by
  obtain ⟨f, fd, Gf, hm, hk, hb⟩ := Fr.ex
  obtain ⟨fg, hmg, cal⟩ := Fg.ex
  refine em_of (pe_call Gf hr hg hm hk hb .nil pass0 (pa_cons (pe_glob (v := .ref fg) hgg hmg rfl hdg) pa_u he) (by decide) he hpl) fun σ G H ok env Q q => ?_
  refine ha σ G H ok env _ fun vs as G1 H1 r1 hs p => ?_
  obtain ⟨hl, hpr⟩ := hp as p
  obtain ⟨v1, v2, v3, rfl⟩ := three (hs.len.trans hl)
  exact ⟨fg, v1, v2, v3, G1, o, _, _, rfl, hw, W.sub (W.oks r1), cal, fun G2 H2 st => ⟨trivial, fun Q E hq hE => ⟨G2, _, st.i, dmonoAll st.g _ _ hs, hpr, fun v G' H' e st' => hq v G' H' e st', fun wd G' H' e st' => hE wd G' H' e st'⟩⟩, fun v G' H' st hd => q _ _ G' H' (W.trans r1 (W.step (W.oks r1) st)) hd rfl⟩
/-- refused(lambda .., ..) -/
theorem em_refL {kk : Nat} {c P : Addr} {q : Str} {params : Arguments} {body : Expr} {scope : Scope} {lpos : Pos} {pre : List PyData → Prop} {o : Option Str} {Pa : List PyData → Prop} (Fr : Fk X.prog X.w X.K X.mg X.base "_law_refused" (kk + 1) ["call", "one", "two", "three"] (spRf X.prog X.w X.mg X.base kk)) (TB : TabB X.base X.mg c P) (hcode : X.env.code = .ref c) (eq : q = X.env.qual ++ "<lambda>") (hw : ∀ wd, o = some wd → wd ∈ W11) (hr : Room (kk + 1) X.A)
    (cal : ∀ f c, Cal X.prog X.w X.K X.mg X.base kk f (fun H => H f = some (LamO f ⟨q, params, body, scope⟩ c) ∧ H c = some (CodeO c q)) (spO pre o X.K))
    (ha : Am X (tw P q) ds [e1, e2, e3] Pa) (hp : ∀ as, Pa as → as.length = 3 ∧ pre as) (hclo : ∀ y ∈ scope.names, y.2 ≠ .free) (hcl : ∀ cs : List (Str × Addr), cloFrom cs scope.names [] = []) (hdef : defaultsOf params X.env = ([], []) := by rfl) (hg : Gl X "_law_refused" := by rfl)
    (he : starEach [.Lambda params body scope lpos, e1, e2, e3] X.env = (false, eval (.Lambda params body scope lpos) X.env) :: starEach [e1, e2, e3] X.env := by rfl) (hpl : (backTo pos (starEach [e1, e2, e3] X.env)).any (·.1) = false := by rfl) : Em X (tw P q) ds (.Call (.Name "_law_refused" p2) [.Lambda params body scope lpos, e1, e2, e3] [] pos) (· = .list (kinD o)) := by
  subst eq
  obtain ⟨f, fd, Gf, hm, hk, hb⟩ := Fr.ex
  refine em_of (pe_call Gf hr hg hm hk hb .nil pass0 (pa_cons (pe_lam3 TB hcode hdef hclo hcl) pa_u he) (by decide) he hpl) fun σ G H ok env Q q => ?_
  unfold tCall tCons
  refine tw_lam (F := ⟨X.env.qual ++ "<lambda>", params, body, scope⟩) ok fun fl cl G1 H1 r1 hf hc => ?_
  refine ha σ G1 H1 ((tw P _).oks r1) (env.mono r1) _ fun vs as G2 H2 r2 hs p => ?_
  obtain ⟨hl, hpr⟩ := hp as p
  have sm2 := (tw P _).sub ((tw P _).oks r2)
  obtain ⟨v1, v2, v3, rfl⟩ := three (hs.len.trans hl)
  exact ⟨fl, v1, v2, v3, G2, o, _, _, rfl, hw, sm2, cal fl cl, fun G3 H3 st => ⟨⟨st.i _ _ (st.g _ _ (r2.g _ _ hf)), st.i _ _ (st.g _ _ (r2.g _ _ hc))⟩, fun Q E hq hE => ⟨G3, _, st.i, dmonoAll st.g _ _ hs, hpr, fun v G' H' e st' => hq v G' H' e st', fun wd G' H' e st' => hE wd G' H' e st'⟩⟩,
      fun v G' H' st hd => q _ _ G' H' ((tw P _).trans (MwR.mk r1.g r1.i r1.o r1.v r1.h r1.k) ((tw P _).trans r2 ((tw P _).step ((tw P _).oks r2) st))) hd rfl⟩
end
theorem kin_same {x : Str} (h : PyData.strOk x = true) : PyData.eqv (.list (kinD (some x))) (.list [.str x, .bool true]) = true := eqv_same (kin_shp h)
end Pb
namespace Dn
open PySem PySem.Spec PyProof.Rows L2
abbrev FnM (K : PySem.W.Frag) (m q : Str) (st : Stmt) (f : Addr) (fd : FuncData) : Prop := FunD K m q (defArgs st) (defBody st) (defScope st) [] [] f fd
/-- one of many promises -/
def spEx {α : Type} (g : α → KSp) : KSp := fun K vs H Q E => ∃ v, g v K vs H Q E
theorem fn_ex {α : Type} {g : α → KSp} {P : Program} {w : World} {K : PySem.W.Frag} {mg : Str → Option Value} {base : Heap} {k : Nat} {f : Addr} {fd : FuncData} {ps : List Str} (F : ∀ v, FnO P w K mg base k f fd ps (g v)) : FnO P w K mg base k f fd ps (spEx g) :=
  ⟨fun vs H Q E ⟨v, h⟩ => (F v).len vs H Q E h, fun A outer s H args us vs Q E hr he hb hv ⟨v, h⟩ => (F v).run A outer s H args us vs Q E hr he hb hv h⟩
theorem Mk1.at {α : Type} {g : α → KSp} {P : Program} {w : World} {K : PySem.W.Frag} {mg : Str → Option Value} {base : Heap} {m : Str} {k : Nat} {ps : List Str} (F : Mk1 P w K mg base m k ps (spEx g)) (v : α) : Mk1 P w K mg base m k ps (g v) := by
  obtain ⟨f, fd, h1, h2, h3⟩ := F.ex
  exact ⟨f, fd, h1.imp fun vs H Q E h => ⟨v, h⟩, h2, h3⟩
end Dn
namespace Pb
open PySem PySem.Spec PyProof.Rows L2 Dn
section
variable {P : Program} {w : World} {K : PySem.W.Frag} {mg : Str → Option Value} {base : Heap} {f : Addr} {fd : FuncData}
theorem ok_together (F : FnP K "together" s_together f fd) (Fl : Fk P w K mg base "lowest" 2 ["top", "bottom"] sp_lowest) : FnO P w K mg base 3 f fd ["one", "other"] (spG (fun v : Rat × Rat => [rt v.1, rt v.2]) (fun v => Smq v.1 ∧ Smq v.2 ∧ 0 ≤ v.1 ∧ 0 ≤ v.2) fun v => rt (v.1 + v.2)) := by
  refine fn_Q F sc_together (fun _ => rfl) fun cdv A outer s H E G ⟨x, y⟩ hr sm ⟨hx, hy, x0, y0⟩ => ?_
  show Bm _ _ _ _ [.dat (rt x), .dat (rt y)] _ _ _ _ (rD K (· = rt (x + y)))
  have h1 := nn x0
  have h2 := nn y0
  refine bm_ret (em_callF (d := rt (x + y)) Fl hr (am_cons (em_add (em_mul (cm hx.n hy.d') (em_ixT (by rfl) (em_var 0 rfl) em_int) (em_ixT (by rfl) (em_var 1 rfl) em_int)) (em_mul (cm hy.n hx.d') (em_ixT (by rfl) (em_var 1 rfl) em_int) (em_ixT (by rfl) (em_var 0 rfl) em_int))) (am_cons (em_mul (cm hx.d' hy.d') (em_ixT (by rfl) (em_var 0 rfl) em_int) (em_ixT (by rfl) (em_var 1 rfl) em_int)) am_nil)) ?_ ?_) fun v d G H hd e => ⟨d, hd, e⟩
  · refine low_pre (m := 0) (n := 0) (Int.add_nonneg (Int.mul_nonneg h1 (by omega)) (Int.mul_nonneg h2 (by omega))) (Int.mul_pos (dpos x) (dpos y)) ?_
    rw [Int.natAbs_mul]
    exact mul_small hx.d' hy.d'
  · show rt (mkRat _ _) = _
    rw [Rat.add_def']
    rfl
theorem ok_Kept___init__ (F : FnM K "__init__" "Kept.__init__" s_Kept___init__ f fd) (T : KCl K) (F1 : Fk P w K mg base "need_parts" 5 ["parts"] sp_need_parts) (F2 : Fk P w K mg base "need_share" 4 ["share"] sp_need_share) : FnO P w K mg base 6 f fd ["self", "parts", "share"] (spI fun pt sh => arePartsD pt = true ∧ isShareD sh = true) := by
  refine F.ok sc_Kept___init__ (fun vs H Q E ⟨G, x, dx, vp, vs', pt, sh, e, _⟩ => by rw [e]; rfl) fun cdv A outer s H vs Q E hr ⟨G, x, dx, vp, vs', pt, sh, e, sm, gx, gd, hx, hdx, hvp, hvs, ⟨p1, p2⟩, kk⟩ => ?_
  subst e
  have E1 : ∀ p1 p2 p3 : Pos, Em (Cx0 P w K mg base ["self", "parts", "share"] "Kept.__init__" (defScope s_Kept___init__) f cdv A outer s H E) pw [.raw (.ref x), .dat pt, .dat sh] (.Call (.Name "need_parts" p1) [.Name "parts" p2] [] p3) (fun _ => True) := fun _ _ _ => em_mono (em_call F1 hr (am_cons (em_var 1 rfl) am_nil) ⟨pt, rfl, p1⟩) fun _ _ => trivial
  have E2 : ∀ p1 p2 p3 : Pos, Em (Cx0 P w K mg base ["self", "parts", "share"] "Kept.__init__" (defScope s_Kept___init__) f cdv A outer s H E) pw [.raw (.ref x), .dat pt, .dat sh] (.Call (.Name "need_share" p1) [.Name "share" p2] [] p3) (fun _ => True) := fun _ _ _ => em_mono (em_call F2 (hr.mono (by decide)) (am_cons (em_var 2 rfl) am_nil) ⟨sh, rfl, p2⟩) fun _ _ => trivial
  have env : EnvOk K pw G H [.raw (.ref x), .dat pt, .dat sh] (L2.start ["self", "parts", "share"] [.ref x, vp, vs']) := env1 (N := ["self", "parts", "share"]) (.cons hvp (.cons hvs .nil))
  refine ⟨_, PSs.nox (X := cxOf CX0 P w K mg base ["self", "parts", "share"] "Kept.__init__" (defScope s_Kept___init__) f cdv A outer s H E) (pss_cons (ps_expr pe_u) (pss_cons (ps_expr pe_u) (pss_cons (ps_fld (pv 0) (pv 1) rfl) (pss_cons (ps_fld (pv 0) (pe_lst pa_nil) rfl) (pss_one (ps_fld (pv 0) (pe_lst (pa_cons (pv 2) pa_nil)) rfl)))))), ?_⟩
  refine E1 _ _ _ _ G H sm env _ fun _ _ G1 H1 r1 _ _ => E2 _ _ _ _ G1 H1 (pw.oks r1) (env.mono r1) _ fun _ _ G2 H2 r2 _ _ => ?_
  have st : Stp G H G2 H2 := Stp.trans r1 r2
  have hx2 := st.h _ _ hx
  have hd2 := st.h _ _ hdx
  have gx2 := st.k x (by rw [hx]; exact fun z => nomatch z) gx
  have gd2 := st.k dx (by rw [hdx]; exact fun z => nomatch z) gd
  refine ⟨vp, rfl, .ref x, rfl, x, kC K, dx, [], rfl, hx2, T.cl, T.nP, (by show 0 < 1000; decide), ?_⟩
  refine ⟨Nat.zero_le _, fun lm hlm => ?_⟩
  have nxl : x ≠ lm := fun z => by rw [← z, upd_same] at hlm; cases hlm
  have hlm2 : H2 lm = none := by rw [upd_ne nxl.symm] at hlm; exact hlm
  refine ⟨.ref x, rfl, x, kC K, dx, _, rfl, (by rw [upd_ne nxl, upd_same]), T.cl, T.nM, (by show 1 < 1000; decide), ?_⟩
  refine ⟨vs', rfl, (by show 1 ≤ sizeLine; decide), fun ls hls => ?_⟩
  have nxs : x ≠ ls := fun z => by rw [← z, upd_same] at hls; cases hls
  have nlm : lm ≠ ls := fun z => by rw [← z, upd_ne nxl.symm, upd_same] at hls; cases hls
  have hls2 : H2 ls = none := by rw [upd_ne nxs.symm, upd_ne nlm.symm, upd_ne nxs.symm] at hls; exact hls
  refine ⟨.ref x, rfl, x, kC K, dx, _, rfl, (by rw [upd_ne nxs, upd_same]), T.cl, T.nS, (by show 2 < 1000; decide), ?_⟩
  have ndx : dx ≠ x := ne_of hdx hx (fun z => by cases z)
  have ndl : dx ≠ lm := ne_of_none hd2 hlm2
  have nds : dx ≠ ls := ne_of_none hd2 hls2
  have keep : ∀ a o, a ≠ x → H2 a = some o → upd (upd (upd (upd (upd H2 x (.ins (kC K) dx (putF "parts" vp []))) lm (.lst [])) x (.ins (kC K) dx (putF "made" (.ref lm) (putF "parts" vp [])))) ls (.lst [vs'])) x (.ins (kC K) dx (putF "shares" (.ref ls) (putF "made" (.ref lm) (putF "parts" vp [])))) a = some o := fun a o na e => by
    rw [upd_ne na, upd_ne (ne_of_none e hls2), upd_ne na, upd_ne (ne_of_none e hlm2), upd_ne na]
    exact e
  refine kk lm ls G2 _ (st.h.free hlm2) (st.h.free hls2) st.g (fun a o e => keep a o (fun z => by rw [z, gx2] at e; cases e) (st.i a o e)) (fun a o na e => keep a o na (st.h a o e)) st.k
    ⟨gx2, gd2, st.i.free hlm2, st.i.free hls2, trivial, trivial, trivial, trivial, nlm, vp, [], [vs'], ?_, keep dx _ ndx hd2, ?_, ?_, dmono st.g _ _ hvp, .nil, .cons (dmono st.g _ _ hvs) .nil⟩
  · show upd _ x _ x = _
    rw [upd_same, ← kfs_eq]
  · show upd _ x _ lm = _
    rw [upd_ne nxl.symm, upd_ne nlm, upd_ne nxl.symm, upd_same]
  · show upd _ x _ ls = _
    rw [upd_ne nxs.symm, upd_same]
/-- tubs kept: parts, pours made, shares but the last, the last one -/
structure KV where
  p : Rat
  q : Rat
  ms : List Pour
  sh : List Rat
  s : Rat
abbrev KV.mD (v : KV) : List PyData := v.ms.map Pour.d
abbrev KV.sD (v : KV) : List PyData := v.sh.map rt ++ [rt v.s]
structure KV.Ok (v : KV) : Prop where
  pq : Parts v.p v.q
  sm : Smq v.s
  s0 : 0 ≤ v.s
  s1 : v.s ≤ 1
  lm : v.ms.length ≤ 100
  ls : v.sh.length ≤ 100
abbrev sp_kpour : KSp := spEx fun v : KV × Pour => spM (fun pt ms ss as => pt = ptD v.1.p v.1.q ∧ ms = v.1.mD ∧ ss = v.1.sD ∧ as = [v.2.d] ∧ v.1.Ok ∧ v.1.ms.length < 100) fun _ _ _ _ ms' ss' d => ms' = v.1.mD ++ [v.2.d] ∧ ss' = v.1.sD ++ [rt (pour1 v.1.p v.1.q v.1.s v.2)] ∧ d = .none
theorem last_sD {xs : List PyData} {d : PyData} : L2.atI (xs ++ [d]) (-1) = some d := by
  have e : ixN (xs ++ [d]).length (-1) = some xs.length := by
    unfold ixN
    rw [List.length_append, List.length_singleton, if_neg (by decide), if_pos (by omega)]
    congr 1
    omega
  unfold L2.atI
  rw [e]
  simp
theorem cutD_fromK (xs : List PyData) (n : Nat) : Dn.cutD xs (some (n : Int)) none = xs.drop n := by
  unfold Dn.cutD
  have h1 : HT.sIx xs.length xs.length none = xs.length := rfl
  have h2 : HT.sIx xs.length 0 (some (n : Int)) = min n xs.length := HT.sIx_nat _ _ n
  rw [h1, h2]
  by_cases h : n ≤ xs.length
  · rw [Nat.min_eq_left h, List.take_of_length_le (by rw [List.length_drop]; omega)]
  · rw [Nat.min_eq_right (by omega), List.drop_of_length_le (Nat.le_refl _), List.drop_of_length_le (by omega), List.take_nil]
theorem shp_d (x : Pour) : SeqAt.shaped x.d = true := by cases x <;> decide +kernel
theorem ok_Kept_pour (F : FnM K "pour" "Kept.pour" s_Kept_pour f fd) (T : KCl K) (ml : mg "len" = none) (hc : ∃ t, mg "MOST_KEPT" = some (.int 100 t)) (Fi : Fk P w K mg base "is_pour" 1 ["thing"] sp_is_pour) (Fb : Fk P w K mg base "behind_pour" 4 ["parts", "share", "pour"] sp_behind_pour) : FnO P w K mg base 5 f fd ["self", "pour"] sp_kpour := by
  refine fn_ex fun ⟨v, x⟩ => fn_M F sc_Kept_pour (fun pt ms ss as ⟨_, _, _, e, _⟩ => by rw [e]; rfl) fun cdv A outer s H E G q pt ms ss as hr hC ⟨e1, e2, e3, e4, ok, hl⟩ => ?_
  subst e1
  subst e2
  subst e3
  subst e4
  obtain ⟨tk, hc⟩ := hc
  have hl : v.ms.length < 100 := hl
  show Bm _ _ _ _ [.kep q (ptD v.p v.q) v.mD v.sD, .dat x.d] _ _ _ _ _
  refine bm_ifR (x := false) (tm_mono (tm_notB (x := true) (tm_val (em_callF Fi (hr.mono (by decide)) (am_cons (em_var 1 rfl) am_nil) ⟨x.d, rfl, shp_d x⟩ (congrArg PyData.bool (isPour_d x))))) fun _ e => e) (fun h => nomatch h) fun _ => ?_
  refine bm_ifR (x := false) (tm_mono (tm_ge (em_klen 0 T hC rfl ml) (em_gint hc)) fun _ e => e.trans (decide_eq_false (by rw [List.length_map]; omega))) (fun h => nomatch h) fun _ => ?_
  have hn : ∀ (d d' : List PyData) (j : Nat) (t : Sl), j ≠ 0 → [Sl.kep q (ptD v.p v.q) d d', .dat x.d][j]? = some t → ∀ a ∈ t.foot, a ≠ q.lm ∧ a ≠ q.ls := fun d d' j t hj ht a ha => by
    match j, hj, ht with
    | 1, _, ht => cases ht; cases ha
    | j + 2, _, ht => simp at ht
  refine bm_kappS (P := (· = rt (pour1 v.p v.q v.s x))) 0 T hC rfl (em_mono (em_call Fb hr (am_cons (em_kparts 0 T hC rfl) (am_cons (em_kix 0 T hC rfl (em_neg em_int) last_sD) (am_cons (em_var 1 rfl) am_nil))) ⟨v.p, v.q, v.s, x, rfl, ok.pq, ok.sm, ok.s0, ok.s1⟩) fun d h => h _ _ _ _ rfl) offK_ls ?_ (hn _ _) (fun d e => ?_) (ps_expr (pe_bm PySem.F.plainAttrs_list PySem.F.slot_list_append PySem.F.type_list_append mt_append (pe_fld (pv 0) rfl) (pa_cons pe_u pa_nil)))
  · have hls : v.sh.length ≤ 100 := ok.ls
    show (v.sh.map rt ++ [rt v.s]).length < 100000
    rw [List.length_append, List.length_map, List.length_singleton]
    omega
  subst e
  refine bm_kappM (P := (· = x.d)) 0 T hC rfl (em_var 1 rfl) offK_lm ?_ (hn _ _) (fun d e => ?_) (ps_expr (pe_bm PySem.F.plainAttrs_list PySem.F.slot_list_append PySem.F.type_list_append mt_append (pe_fld (pv 0) rfl) (pa_cons pe_u pa_nil)))
  · rw [List.length_map]
    omega
  subst e
  exact bm_nil ⟨_, _, rfl, rfl, rfl, rfl⟩
abbrev sp_kshare : KSp := spEx fun v : KV => spRk (fun pt ms ss as => pt = ptD v.p v.q ∧ ms = v.mD ∧ ss = v.sD ∧ as = []) fun _ _ _ _ d => d = rt v.s
theorem ok_Kept_share (F : FnM K "share" "Kept.share" s_Kept_share f fd) (T : KCl K) : FnO P w K mg base 1 f fd ["self"] sp_kshare := by
  refine fn_ex fun v => fn_R F sc_Kept_share (fun pt ms ss as ⟨_, _, _, e⟩ => by rw [e]; rfl) fun cdv A outer s H E G q pt ms ss as hr hC ⟨e1, e2, e3, e4⟩ => ?_
  subst e1
  subst e2
  subst e3
  subst e4
  show Bm _ _ _ _ [.kep q (ptD v.p v.q) v.mD v.sD] _ _ _ _ _
  exact bm_ret (em_kix 0 T hC rfl (em_neg em_int) last_sD) fun w d G H hd e => ⟨d, hd, e⟩
/-- how much was poured over shares -/
def wayS : List Rat → Rat
  | x :: y :: r => far x y + wayS (y :: r)
  | _ => 0
/-- the sums over the first ones -/
def wayN (xs : List Rat) : Nat → Rat
  | 0 => 0
  | n + 1 => wayN xs n + (match xs[n]?, xs[n + 1]? with | some x, some y => far x y | _, _ => 0)
abbrev sp_kpoured : KSp := spEx fun v : PyData × List PyData × List Rat => spRk (fun pt ms ss as => pt = v.1 ∧ ms = v.2.1 ∧ ss = v.2.2.map rt ∧ as = [] ∧ (∀ x ∈ v.2.2, Smq x) ∧ (∀ n x y, v.2.2[n]? = some x → v.2.2[n + 1]? = some y → Smq (far x y)) ∧ ∀ n, n < v.2.2.length → Smq (wayN v.2.2 n) ∧ 0 ≤ wayN v.2.2 n) fun _ _ _ _ d => d = rt (wayN v.2.2 (v.2.2.length - 1))
theorem ok_Kept_poured (F : FnM K "poured" "Kept.poured" s_Kept_poured f fd) (T : KCl K) (mz : mg "zip" = none) (O : KC K mg "NOUGHT" [0, 1]) (Fa : Fk P w K mg base "apart" 3 ["one", "other"] (sp2 fun x y => rt (far x y))) (Ft : Fk P w K mg base "together" 3 ["one", "other"] (spG (fun v : Rat × Rat => [rt v.1, rt v.2]) (fun v => Smq v.1 ∧ Smq v.2 ∧ 0 ≤ v.1 ∧ 0 ≤ v.2) fun v => rt (v.1 + v.2))) : FnO P w K mg base 4 f fd ["self"] sp_kpoured := by
  refine fn_ex fun ⟨pp, mm, xs⟩ => fn_R F sc_Kept_poured (fun pt ms ss as ⟨_, _, _, e, _⟩ => by rw [e]; rfl) fun cdv A outer s H E G q pt ms ss as hr hC ⟨e1, e2, e3, e4, hx, hf, hw⟩ => ?_
  subst e1
  subst e2
  subst e3
  subst e4
  obtain ⟨a0, ho, hk⟩ := O
  show Bm _ _ _ _ [.kep q pt ms (xs.map rt), .un, .un, .un] _ _ _ _ _
  refine bm_set (d := rt 0) 1 (em_is (em_gtup (ns := [0, 1]) ho hk) (show PyData.tuple ([0, 1].map .int) = rt 0 from rfl)) ?_ sc_Kept_poured.nd
  have hcut : cutD (xs.map rt) (some 1) none = (xs.drop 1).map rt := by
    rw [show (some (1 : Int)) = some ((1 : Nat) : Int) from rfl, cutD_fromK, List.map_drop]
  refine bm_kzip (N1 := fun ds' => ∃ x2 x3, ds' = [.kep q pt ms (xs.map rt), .dat (rt (wayN xs (xs.length - 1))), x2, x3]) 0 2 3 T hC rfl (em_is (em_kslice 0 T hC rfl (om_some em_int) om_none) (congrArg PyData.list hcut)) (fun n ds' => ∃ x2 x3, ds' = [.kep q pt ms (xs.map rt), .dat (rt (wayN xs n)), x2, x3]) ⟨_, _, rfl⟩ PassesOwn.never rfl (fun Ga Ha n d d' ds' h1 h2 ⟨x2, x3, e⟩ => ?_) (fun ds' ⟨x2, x3, e⟩ => ⟨x2, x3, ?_⟩) (fun ds' ⟨x2, x3, e⟩ => ?_) mz sc_Kept_poured.nd
  · subst e
    rw [List.getElem?_map] at h1 h2
    rw [List.getElem?_drop] at h2
    obtain ⟨x, g1, rfl⟩ := Option.map_eq_some_iff.mp h1
    obtain ⟨y, g2, rfl⟩ := Option.map_eq_some_iff.mp h2
    rw [Nat.add_comm] at g2
    have hxm := hx x (List.mem_of_getElem? g1)
    have hym := hx y (List.mem_of_getElem? g2)
    have hlen : n + 1 < xs.length := (List.getElem?_eq_some_iff.mp g2).1
    have hwn := hw n (show n < xs.length by omega)
    refine bm_set (d := rt (wayN xs (n + 1))) 1 (em_callG (wayN xs n, far x y) Ft (hr.mono (by decide)) (am_cons (em_var 1 rfl) (am_cons (em_mono (em_call Fa (hr.mono (by decide)) (am_cons (em_var 2 rfl) (am_cons (em_var 3 rfl) am_nil)) ⟨x, y, rfl, hxm, hym⟩) fun d h => h x y rfl) am_nil)) ⟨hwn.1, ?_, hwn.2, far_nn x y⟩ ?_) (bm_nil ⟨_, _, rfl⟩) sc_Kept_poured.nd
    · exact hf n x y g1 g2
    · show rt (wayN xs n + far x y) = rt (wayN xs n + _)
      rw [g1, g2]
  · rw [e]
    have : min (xs.map rt).length ((xs.drop 1).map rt).length = xs.length - 1 := by
      rw [List.length_map, List.length_map, List.length_drop]
      omega
    rw [this]
  · subst e
    exact bm_ret (em_var 1 rfl) fun w d G H hd e => ⟨d, hd, e⟩
end
end Pb
namespace Pb
open PySem PySem.Spec PyProof.Rows L2 Dn
section
variable {P : Program} {w : World} {K : PySem.W.Frag} {mg : Str → Option Value} {base : Heap} {f : Addr} {fd : FuncData}
def BadRow (x : PyData) : Prop := (∀ xs, x = .tuple xs → ∀ y ∈ xs, SeqAt.shaped y = true) ∧ isRowD x = false
abbrev prx_parts (as : List PyData) : Prop := ∃ x, as = [x] ∧ arePartsD x = false
abbrev prx_share (as : List PyData) : Prop := ∃ x, as = [x] ∧ isShareD x = false
abbrev prx_row (as : List PyData) : Prop := ∃ x, as = [x] ∧ BadRow x
abbrev prx_place (as : List PyData) : Prop := ∃ (r : List Pour) (x : PyData), as = [rowD r, x] ∧ upToD ((r.length : Int) - 1) x = false
abbrev prx_dist (as : List PyData) : Prop := ∃ x, as = [x] ∧ (isShareD x = false ∨ x = rt 0)
abbrev prx_some (as : List PyData) : Prop := as = [rowD []]
abbrev prx_any (as : List PyData) : Prop := ∃ x, as = [x] ∧ isBoolD x = false
theorem okx_need_parts (F : FnP K "need_parts" s_need_parts f fd) (xc : XC K mg "NoParts") (Fp : Fk P w K mg base "are_parts" 4 ["thing"] sp_are_parts) : FnX P w K mg base 5 f fd ["parts"] (spX prx_parts "NoParts") := by
  refine fn_X F sc_need_parts (fun as ⟨x, e, _⟩ => by rw [e]; rfl) fun cdv A outer s H E G as hr sm ⟨x, e, hx⟩ tk => ?_
  subst e
  exact bm_ifR (x := true) (tm_notB (x := false) (tm_val (em_callF (d := .bool false) Fp hr (am_cons (em_var 0 rfl) am_nil) rfl (congrArg PyData.bool hx)))) (fun _ => bm_raise xc tk rfl) fun h => nomatch h
theorem okx_need_share (F : FnP K "need_share" s_need_share f fd) (xc : XC K mg "NoShare") (Fp : Fk P w K mg base "is_share" 3 ["thing"] sp_is_share) : FnX P w K mg base 4 f fd ["share"] (spX prx_share "NoShare") := by
  refine fn_X F sc_need_share (fun as ⟨x, e, _⟩ => by rw [e]; rfl) fun cdv A outer s H E G as hr sm ⟨x, e, hx⟩ tk => ?_
  subst e
  exact bm_ifR (x := true) (tm_notB (x := false) (tm_val (em_callF (d := .bool false) Fp hr (am_cons (em_var 0 rfl) am_nil) rfl (congrArg PyData.bool hx)))) (fun _ => bm_raise xc tk rfl) fun h => nomatch h
abbrev pre0_behind (as : List PyData) : Prop := ∃ (x0 : PyData) (x1 : PyData) (x2 : PyData), as = [x0, x1, x2] ∧ arePartsD x0 = false
abbrev pre1_behind (as : List PyData) : Prop := ∃ (x0 : PyData) (x1 : PyData) (x2 : PyData), as = [x0, x1, x2] ∧ arePartsD x0 = true ∧ isShareD x1 = false
abbrev pre2_behind (as : List PyData) : Prop := ∃ (x0 : PyData) (x1 : PyData) (x2 : PyData), as = [x0, x1, x2] ∧ arePartsD x0 = true ∧ isShareD x1 = true ∧ BadRow x2
abbrev pre2_all_behind (as : List PyData) : Prop := ∃ (x0 : PyData) (x1 : PyData) (x2 : PyData), as = [x0, x1, x2] ∧ arePartsD x0 = true ∧ isShareD x1 = true ∧ BadRow x2
abbrev pre0_at_most (as : List PyData) : Prop := ∃ (x0 : PyData) (x1 : PyData) (x2 : PyData) (x3 : PyData) (x4 : PyData), as = [x0, x1, x2, x3, x4] ∧ arePartsD x0 = false
abbrev pre1_at_most (as : List PyData) : Prop := ∃ (x0 : PyData) (x1 : PyData) (x2 : PyData) (x3 : PyData) (x4 : PyData), as = [x0, x1, x2, x3, x4] ∧ arePartsD x0 = true ∧ isShareD x1 = false
abbrev pre2_at_most (as : List PyData) : Prop := ∃ (x0 : PyData) (x1 : PyData) (x2 : PyData) (x3 : PyData) (x4 : PyData), as = [x0, x1, x2, x3, x4] ∧ arePartsD x0 = true ∧ isShareD x1 = true ∧ upToD 40 x2 = false
abbrev pre3_at_most (as : List PyData) : Prop := ∃ (x0 : PyData) (x1 : PyData) (x2 : Nat) (x3 : PyData) (x4 : PyData), as = [x0, x1, .int x2, x3, x4] ∧ arePartsD x0 = true ∧ isShareD x1 = true ∧ x2 ≤ 40 ∧ (x3 ≠ .none ∧ upToD x2 x3 = false)
abbrev pre4_at_most (as : List PyData) : Prop := ∃ (x0 : PyData) (x1 : PyData) (x2 : Nat) (x3 : Option Int) (x4 : PyData), as = [x0, x1, .int x2, lD x3, x4] ∧ arePartsD x0 = true ∧ isShareD x1 = true ∧ x2 ≤ 40 ∧ LOk x2 x3 ∧ isShareD x4 = false
abbrev pre0_rows_to (as : List PyData) : Prop := ∃ (x0 : PyData) (x1 : PyData) (x2 : PyData), as = [x0, x1, x2] ∧ arePartsD x0 = false
abbrev pre1_rows_to (as : List PyData) : Prop := ∃ (x0 : PyData) (x1 : PyData) (x2 : PyData), as = [x0, x1, x2] ∧ arePartsD x0 = true ∧ isShareD x1 = false
abbrev pre2_rows_to (as : List PyData) : Prop := ∃ (x0 : PyData) (x1 : PyData) (x2 : PyData), as = [x0, x1, x2] ∧ arePartsD x0 = true ∧ isShareD x1 = true ∧ upToD 40 x2 = false
abbrev pre0_fewest_to (as : List PyData) : Prop := ∃ (x0 : PyData) (x1 : PyData) (x2 : PyData), as = [x0, x1, x2] ∧ arePartsD x0 = false
abbrev pre1_fewest_to (as : List PyData) : Prop := ∃ (x0 : PyData) (x1 : PyData) (x2 : PyData), as = [x0, x1, x2] ∧ arePartsD x0 = true ∧ isShareD x1 = false
abbrev pre2_fewest_to (as : List PyData) : Prop := ∃ (x0 : PyData) (x1 : PyData) (x2 : PyData), as = [x0, x1, x2] ∧ arePartsD x0 = true ∧ isShareD x1 = true ∧ isShareD x2 = false
abbrev pre0_unseen (as : List PyData) : Prop := ∃ (x0 : PyData) (x1 : PyData) (x2 : PyData) (x3 : PyData) (x4 : PyData), as = [x0, x1, x2, x3, x4] ∧ arePartsD x0 = false
abbrev pre1_unseen (as : List PyData) : Prop := ∃ (x0 : PyData) (x1 : PyData) (x2 : PyData) (x3 : PyData) (x4 : PyData), as = [x0, x1, x2, x3, x4] ∧ arePartsD x0 = true ∧ isShareD x1 = false
abbrev pre2_unseen (as : List PyData) : Prop := ∃ (x0 : PyData) (x1 : PyData) (x2 : PyData) (x3 : PyData) (x4 : PyData), as = [x0, x1, x2, x3, x4] ∧ arePartsD x0 = true ∧ isShareD x1 = true ∧ BadRow x2
abbrev pre3_unseen (as : List PyData) : Prop := ∃ (x0 : PyData) (x1 : PyData) (x2 : List Pour) (x3 : PyData) (x4 : PyData), as = [x0, x1, rowD x2, x3, x4] ∧ arePartsD x0 = true ∧ isShareD x1 = true ∧ x2.length ≤ 40 ∧ upToD ((x2.length : Int) - 1) x3 = false
abbrev pre4_unseen (as : List PyData) : Prop := ∃ (x0 : PyData) (x1 : PyData) (x2 : List Pour) (x3 : Nat) (x4 : PyData), as = [x0, x1, rowD x2, .int x3, x4] ∧ arePartsD x0 = true ∧ isShareD x1 = true ∧ x2.length ≤ 40 ∧ x3 < x2.length ∧ isShareD x4 = false
abbrev pre0_near_enough (as : List PyData) : Prop := ∃ (x0 : PyData) (x1 : PyData) (x2 : PyData) (x3 : PyData), as = [x0, x1, x2, x3] ∧ arePartsD x0 = false
abbrev pre1_near_enough (as : List PyData) : Prop := ∃ (x0 : PyData) (x1 : PyData) (x2 : PyData) (x3 : PyData), as = [x0, x1, x2, x3] ∧ arePartsD x0 = true ∧ isShareD x1 = false
abbrev pre2_near_enough (as : List PyData) : Prop := ∃ (x0 : PyData) (x1 : PyData) (x2 : PyData) (x3 : PyData), as = [x0, x1, x2, x3] ∧ arePartsD x0 = true ∧ isShareD x1 = true ∧ isShareD x2 = false
abbrev pre3_near_enough (as : List PyData) : Prop := ∃ (x0 : PyData) (x1 : PyData) (x2 : PyData) (x3 : PyData), as = [x0, x1, x2, x3] ∧ arePartsD x0 = true ∧ isShareD x1 = true ∧ isShareD x2 = true ∧ (isShareD x3 = false ∨ x3 = rt 0)
abbrev pre0_goes_to (as : List PyData) : Prop := ∃ (x0 : PyData) (x1 : PyData), as = [x0, x1] ∧ arePartsD x0 = false
abbrev pre1_goes_to (as : List PyData) : Prop := ∃ (x0 : PyData) (x1 : PyData), as = [x0, x1] ∧ arePartsD x0 = true ∧ x1 = rowD []
abbrev pre0_times_till (as : List PyData) : Prop := ∃ (x0 : PyData) (x1 : PyData) (x2 : PyData) (x3 : PyData), as = [x0, x1, x2, x3] ∧ arePartsD x0 = false
abbrev pre1_times_till (as : List PyData) : Prop := ∃ (x0 : PyData) (x1 : PyData) (x2 : PyData) (x3 : PyData), as = [x0, x1, x2, x3] ∧ arePartsD x0 = true ∧ isShareD x1 = false
abbrev pre2_times_till (as : List PyData) : Prop := ∃ (x0 : PyData) (x1 : PyData) (x2 : PyData) (x3 : PyData), as = [x0, x1, x2, x3] ∧ arePartsD x0 = true ∧ isShareD x1 = true ∧ x2 = rowD []
abbrev pre3_times_till (as : List PyData) : Prop := ∃ (x0 : PyData) (x1 : PyData) (x2 : List Pour) (x3 : PyData), as = [x0, x1, rowD x2, x3] ∧ arePartsD x0 = true ∧ isShareD x1 = true ∧ (x2.length ≤ 40 ∧ x2 ≠ []) ∧ (isShareD x3 = false ∨ x3 = rt 0)
abbrev pre0_number_of (as : List PyData) : Prop := ∃ (x0 : PyData) (x1 : PyData), as = [x0, x1] ∧ BadRow x0
abbrev pre1_number_of (as : List PyData) : Prop := ∃ (x0 : List Pour) (x1 : PyData), as = [rowD x0, x1] ∧ x0.length ≤ 40 ∧ isBoolD x1 = false
end
end Pb
namespace Pb
open PySem PySem.Spec PyProof.Rows L2 Dn LamX
section
variable {P : Program} {w : World} {K : PySem.W.Frag} {mg : Str → Option Value} {base : Heap} {f : Addr} {fd : FuncData}
abbrev sp_kback : KSp := spM (fun _ ms ss as => as = [] ∧ ms ≠ [] ∧ ss ≠ []) fun _ ms ss _ ms' ss' _ => ms' = ms.dropLast ∧ ss' = ss.dropLast
theorem foot1 {q : Kq} {pt : PyData} {ms ss : List PyData} : ∀ (j : Nat) (t : Sl), j ≠ 0 → [Sl.kep q pt ms ss][j]? = some t → ∀ a ∈ t.foot, a ≠ q.lm ∧ a ≠ q.ls := fun j t hj ht => by
  match j, hj with
  | j + 1, _ => simp at ht
theorem ok_Kept_back (F : FnM K "back" "Kept.back" s_Kept_back f fd) (T : KCl K) (ml : mg "len" = none) : FnO P w K mg base 1 f fd ["self"] sp_kback := by
  refine fn_M F sc_Kept_back (fun pt ms ss as ⟨e, _⟩ => by rw [e]; rfl) fun cdv A outer s H E G q pt ms ss as hr hC ⟨e, hm, hs⟩ => ?_
  subst e
  show Bm _ _ _ _ [.kep q pt ms ss] _ _ _ _ _
  have h0 : 0 < ms.length := List.length_pos_iff.mpr hm
  refine bm_ifR (x := false) (tm_mono (tm_eqI (em_klen 0 T hC rfl ml) em_int) fun _ e => e.trans (decide_eq_false (by omega))) (fun h => nomatch h) fun _ => ?_
  refine bm_kpopM 0 T hC rfl offK_lm hm foot1 ?_ (ps_expr (pe_bm0 PySem.F.plainAttrs_list PySem.F.slot_list_pop PySem.F.type_list_pop mt_pop (pe_fld (pv 0) rfl)))
  refine bm_kpopS 0 T hC rfl offK_ls hs foot1 ?_ (ps_expr (pe_bm0 PySem.F.plainAttrs_list PySem.F.slot_list_pop PySem.F.type_list_pop mt_pop (pe_fld (pv 0) rfl)))
  exact bm_nil ⟨_, _, rfl, rfl, rfl⟩
theorem okx_Kept_back (F : FnM K "back" "Kept.back" s_Kept_back f fd) (T : KCl K) (ml : mg "len" = none) (xc : XC K mg "NothingLeft") : FnX P w K mg base 1 f fd ["self"] (spMX (fun _ ms _ as => as = [] ∧ ms = []) "NothingLeft") := by
  refine fn_MX F sc_Kept_back (fun pt ms ss as ⟨e, _⟩ => by rw [e]; rfl) fun cdv A outer s H E G q pt ms ss as hr hC ⟨e, hm⟩ tk => ?_
  subst e
  subst hm
  show Bm _ _ _ _ [.kep q pt [] ss] _ _ _ _ _
  exact bm_ifR (x := true) (tm_mono (tm_eqI (em_klen 0 T hC rfl ml) em_int) fun _ e => e.trans rfl) (fun _ => bm_raise xc tk rfl) fun h => nomatch h
theorem okx_Kept_pour (F : FnM K "pour" "Kept.pour" s_Kept_pour f fd) (xc : XC K mg "NoPour") (Fi : Fk P w K mg base "is_pour" 1 ["thing"] sp_is_pour) : FnX P w K mg base 2 f fd ["self", "pour"] (spMX (fun _ _ _ as => ∃ d, as = [d] ∧ SeqAt.shaped d = true ∧ isPourD d = false) "NoPour") := by
  refine fn_MX F sc_Kept_pour (fun pt ms ss as ⟨d, e, _⟩ => by rw [e]; rfl) fun cdv A outer s H E G q pt ms ss as hr hC ⟨d, e, hs, hd⟩ tk => ?_
  subst e
  show Bm _ _ _ _ [.kep q pt ms ss, .dat d] _ _ _ _ _
  exact bm_ifR (x := true) (tm_notB (x := false) (tm_val (em_callF (d := .bool false) Fi hr (am_cons (em_var 1 rfl) am_nil) ⟨d, rfl, hs⟩ (congrArg PyData.bool hd)))) (fun _ => bm_raise xc tk rfl) fun h => nomatch h
theorem oky_Kept_pour (F : FnM K "pour" "Kept.pour" s_Kept_pour f fd) (T : KCl K) (ml : mg "len" = none) (hc : ∃ t, mg "MOST_KEPT" = some (.int 100 t)) (xc : XC K mg "Full") (Fi : Fk P w K mg base "is_pour" 1 ["thing"] sp_is_pour) : FnX P w K mg base 2 f fd ["self", "pour"] (spMX (fun _ ms _ as => ∃ x : Pour, as = [x.d] ∧ 100 ≤ ms.length) "Full") := by
  refine fn_MX F sc_Kept_pour (fun pt ms ss as ⟨d, e, _⟩ => by rw [e]; rfl) fun cdv A outer s H E G q pt ms ss as hr hC ⟨x, e, hl⟩ tk => ?_
  subst e
  obtain ⟨tk', hc⟩ := hc
  show Bm _ _ _ _ [.kep q pt ms ss, .dat x.d] _ _ _ _ _
  refine bm_ifR (x := false) (tm_mono (tm_notB (x := true) (tm_val (em_callF Fi hr (am_cons (em_var 1 rfl) am_nil) ⟨x.d, rfl, shp_d x⟩ (congrArg PyData.bool (isPour_d x))))) fun _ e => e) (fun h => nomatch h) fun _ => ?_
  exact bm_ifR (x := true) (tm_mono (tm_ge (em_klen 0 T hC rfl ml) (em_gint hc)) fun _ e => e.trans (decide_eq_true (by omega))) (fun _ => bm_raise xc tk rfl) fun h => nomatch h
abbrev sp_kpours : KSp := spRk (fun _ _ _ as => as = []) fun _ ms _ _ d => d = .tuple ms
theorem ok_Kept_pours (F : FnM K "pours" "Kept.pours" s_Kept_pours f fd) (T : KCl K) (mt : mg "tuple" = none) : FnO P w K mg base 1 f fd ["self"] sp_kpours := by
  refine fn_R F sc_Kept_pours (fun pt ms ss as e => by rw [e]; rfl) fun cdv A outer s H E G q pt ms ss as hr hC e => ?_
  subst e
  show Bm _ _ _ _ [.kep q pt ms ss] _ _ _ _ _
  exact bm_ret (em_ktup 0 T hC rfl mt) fun v d G H hd e => ⟨d, hd, e⟩
abbrev sp_klen : KSp := spRk (fun _ _ _ as => as = []) fun _ ms _ _ d => d = .int ms.length
theorem ok_Kept___len__ (F : FnM K "__len__" "Kept.__len__" s_Kept___len__ f fd) (T : KCl K) (ml : mg "len" = none) : FnO P w K mg base 1 f fd ["self"] sp_klen := by
  refine fn_R F sc_Kept___len__ (fun pt ms ss as e => by rw [e]; rfl) fun cdv A outer s H E G q pt ms ss as hr hC e => ?_
  subst e
  show Bm _ _ _ _ [.kep q pt ms ss] _ _ _ _ _
  exact bm_ret (em_klen 0 T hC rfl ml) fun v d G H hd e => ⟨d, hd, e⟩
theorem ok_Kept___eq__ (F : FnM K "__eq__" "Kept.__eq__" s_Kept___eq__ f fd) (B : Bi mg) (T : KCl K) (Y : KTy K) (mK : mg "Kept" = some (.ref (kC K))) : FnO P w K mg base 1 f fd ["self", "other"] spEqK := by
  refine F.ok sc_Kept___eq__ (fun vs H Q E ⟨G, q, q', pt, ms, ss, pt', ms', ss', e, _⟩ => by rw [e]; rfl) fun cdv A outer s H vs Q E hr ⟨G, q, q', pt, ms, ss, pt', ms', ss', e, hC, hC', sm, hk, hk', ⟨s1, s2, s3, s4, s5, s6⟩, kk⟩ => ?_
  subst e
  have key : Bm (Cx0 P w K mg base ["self", "other"] "Kept.__eq__" (defScope s_Kept___eq__) f cdv A outer s H E) pwk G H [.kep q pt ms ss, .kep q' pt' ms' ss'] (defBody s_Kept___eq__) nono nono nono (rD K (· = .bool (PyData.eqv pt pt' && (PyData.eqv (.list ss) (.list ss') && PyData.eqv (.list ms) (.list ms'))))) := by
    refine bm_ifR (x := false) (tm_notB (x := true) (tm_val (em_isK 1 T Y hC' rfl B.isi mK))) (fun h => nomatch h) fun _ => ?_
    exact bm_retD (em_andB (em_eqD hr s1 s2 (em_kparts 0 T hC rfl) (em_kparts 1 T hC' rfl)) fun _ => em_andB (em_kshEq 0 1 hr T hC hC' rfl rfl s5 s6) fun _ => em_one (em_kmdEq 0 1 hr T hC hC' rfl rfl s3 s4))
  have env : EnvOk K pwk G H [.kep q pt ms ss, .kep q' pt' ms' ss'] (start ["self", "other"] [.ref q.o, .ref q'.o]) := ⟨rfl, fun i t y a b => by
    match i with
    | 0 => cases a; cases b; exact ⟨rfl, rfl, hk⟩
    | 1 => cases a; cases b; exact ⟨rfl, rfl, hk'⟩
    | i + 2 => cases a⟩
  obtain ⟨t, ht, h⟩ := key G (start ["self", "other"] [.ref q.o, .ref q'.o]) G H { nx := fun _ H' => Q .non H', rt := Q } ⟨.refl _, pwk.refl sm⟩ env (fun _ _ _ _ _ _ z => z.elim) (fun _ _ _ _ _ _ z => z.elim) (fun _ _ _ _ _ _ z => z.elim) fun u G2 H2 s2 ⟨d, hd, e⟩ => by
    subst e
    cases hd
    exact kk G2 H2 s2
  exact ⟨t, ht.nox, h⟩
theorem okt_Kept___eq__ (F : FnM K "__eq__" "Kept.__eq__" s_Kept___eq__ f fd) (B : Bi mg) (Y : KTy K) (mK : mg "Kept" = some (.ref (kC K))) : FnO P w K mg base 1 f fd ["self", "other"] spEqT := by
  refine F.ok sc_Kept___eq__ (fun vs H Q E ⟨G, q, pt, ms, ss, v, xs, e, _⟩ => by rw [e]; rfl) fun cdv A outer s H vs Q E hr ⟨G, q, pt, ms, ss, v, xs, e, hC, sm, hk, hd, kk⟩ => ?_
  subst e
  have key : Bm (Cx0 P w K mg base ["self", "other"] "Kept.__eq__" (defScope s_Kept___eq__) f cdv A outer s H E) pwk G H [.kep q pt ms ss, .dat (.tuple xs)] (defBody s_Kept___eq__) nono nono nono (rD K (· = .bool false)) := by
    exact bm_ifR (x := true) (tm_notB (x := false) (tm_val (em_isKD (em_var 1 rfl) B.isi mK Y.kt))) (fun _ => bm_retD em_bl) fun h => nomatch h
  obtain ⟨t, ht, h⟩ := key G (start ["self", "other"] [.ref q.o, v]) G H { nx := fun _ H' => Q .non H', rt := Q } ⟨.refl _, pwk.refl sm⟩ (envK (N := ["self", "other"]) hk (.cons hd .nil)) (fun _ _ _ _ _ _ z => z.elim) (fun _ _ _ _ _ _ z => z.elim) (fun _ _ _ _ _ _ z => z.elim) fun u G2 H2 s2 ⟨d, hd, e⟩ => by
    subst e
    cases hd
    exact kk G2 H2 s2
  exact ⟨t, ht.nox, h⟩
abbrev pre_ip (pt _sh : PyData) : Prop := arePartsD pt = false
abbrev pre_is (pt sh : PyData) : Prop := arePartsD pt = true ∧ isShareD sh = false
theorem okx_Kept___init__ (F : FnM K "__init__" "Kept.__init__" s_Kept___init__ f fd) (X1 : Fx P w K mg base "need_parts" 5 ["parts"] (spX prx_parts "NoParts")) : FnX P w K mg base 6 f fd ["self", "parts", "share"] (spIX pre_ip "NoParts") := by
  refine fn_IX F sc_Kept___init__ rfl fun cdv A outer s H E G o pt sh hr hp tk => ?_
  show Bm _ _ _ _ [.raw (.ref o), .dat pt, .dat sh] _ _ _ _ _
  exact bm_exprX (rm_call X1 hr tk (am_cons (em_var 1 rfl) am_nil) fun as e => ⟨pt, e, hp⟩)
theorem oky_Kept___init__ (F : FnM K "__init__" "Kept.__init__" s_Kept___init__ f fd) (F1 : Fk P w K mg base "need_parts" 5 ["parts"] sp_need_parts) (X2 : Fx P w K mg base "need_share" 4 ["share"] (spX prx_share "NoShare")) : FnX P w K mg base 6 f fd ["self", "parts", "share"] (spIX pre_is "NoShare") := by
  refine fn_IX F sc_Kept___init__ rfl fun cdv A outer s H E G o pt sh hr ⟨hp, hs⟩ tk => ?_
  show Bm _ _ _ _ [.raw (.ref o), .dat pt, .dat sh] _ _ _ _ _
  exact bm_expr (em_callF F1 hr (am_cons (em_var 1 rfl) am_nil) ⟨_, rfl, hp⟩) fun _ => bm_exprX (rm_call X2 (hr.mono (by decide)) tk (am_cons (em_var 2 rfl) am_nil) fun as e => ⟨sh, e, hs⟩)
/-! ## who is refused: a call that changes kept tubs, and comes back -/
def spRfN (P : Program) (w : World) (mg : Str → Option Value) (base : Heap) (kk : Nat) : KSp := fun K vs H Q _ => ∃ (f : Addr) (q : Kq) (v2 v3 : V) (G : Hp) (pt : PyData) (ms ss ms' ss' : List PyData) (pre : Hp → Prop) (spc : Sp), vs = [.ref f, .ref q.o, v2, v3] ∧ Same G H ∧ KqAt K pwk G H q pt ms ss ∧ Cal P w K mg base kk f pre spc ∧
  (∀ G1 H1, Stp G (offK q H) G1 H1 → KqAt K pwk G1 H1 q pt ms ss → pre H1 ∧ ∀ (Q : VK) (E : XK), (∀ v G2 H2, Stp G1 (offK q H1) G2 H2 → KqAt K pwk G2 H2 q pt ms' ss' → Q v H2) → spc [.ref q.o, v2, v3] H1 Q E) ∧ ∀ v G' H', Stp G (offK q H) G' H' → KqAt K pwk G' H' q pt ms' ss' → Dd K G' v (.list []) → Q v H'
theorem okn__law_refused {kk : Nat} (F : FnP K "_law_refused" s__law_refused f fd) (xf : XF K mg) : FnO P w K mg base (kk + 1) f fd ["call", "one", "two", "three"] (spRfN P w mg base kk) := by
  refine F.ok sc__law_refused (fun vs H Q E ⟨f, q, v2, v3, G, pt, ms, ss, ms', ss', pre, spc, e, _⟩ => by rw [e]; rfl) fun cdv A outer s H vs Q E hr ⟨g, q, v2, v3, G, pt, ms, ss, ms', ss', pre, spc, e, sm, hk, cal, hcall, fin⟩ => ?_
  subst e
  have foot : ∀ (d : Sl) (j : Nat) (t : Sl), d.foot = [] → j ≠ 1 → [Sl.raw (.ref g), .kep q pt ms ss, .raw v2, .raw v3, d, .un, .un, .un, .un][j]? = some t → ∀ a ∈ t.foot, a ≠ q.lm ∧ a ≠ q.ls := fun d j t hd hj ht a ha => by
    match j, hj, ht with
    | 0, _, ht => cases ht; cases ha
    | 2, _, ht => cases ht; cases ha
    | 3, _, ht => cases ht; cases ha
    | 4, _, ht => cases ht; rw [hd] at ha; cases ha
    | 5, _, ht => cases ht; cases ha
    | 6, _, ht => cases ht; cases ha
    | 7, _, ht => cases ht; cases ha
    | 8, _, ht => cases ht; cases ha
    | j + 9, _, ht => simp at ht
  have key : Bm (Cx0 P w K mg base NR "_law_refused" (defScope s__law_refused) f cdv A outer s H E) pwk G (offK q H) [.raw (.ref g), .kep q pt ms ss, .raw v2, .raw v3, .un, .un, .un, .un, .un] (defBody s__law_refused) nono nono nono (rK K q pt fun ms1 ss1 d => ms1 = ms' ∧ ss1 = ss' ∧ d = .list []) := by
    refine bm_set (d := .list []) 4 (em_lst am_nil) ?_ sc__law_refused.nd
    refine bm_try3N (i := 5) (j := 0) (j1 := 1) (j2 := 2) (j3 := 3) (ms' := ms') (ss' := ss') cal hr rfl rfl sc__law_refused.nd xf.pe rfl rfl rfl rfl offK_lm offK_ls (foot (.dat (.list [])) · · rfl) hcall ?_
    exact bm_retK 1 rfl (em_var 4 rfl) fun d e => ⟨rfl, rfl, e⟩
  have env : EnvOk K pwk G H [.raw (.ref g), .kep q pt ms ss, .raw v2, .raw v3, .un, .un, .un, .un, .un] (start NR [.ref g, .ref q.o, v2, v3]) := ⟨rfl, fun i s y a b => by
    match i with
    | 0 | 2 | 3 => cases a; cases b; rfl
    | 1 => cases a; cases b; exact ⟨rfl, rfl, hk⟩
    | 4 | 5 | 6 | 7 | 8 => cases a; trivial
    | i + 9 => cases a⟩
  obtain ⟨t, ht, h⟩ := key G (start NR [.ref g, .ref q.o, v2, v3]) G H { nx := fun _ H' => Q .non H', rt := Q } ⟨.refl _, ⟨.refl _, sm, offK_sub, fun _ _ h => h⟩⟩ env (fun _ _ _ _ _ _ z => z.elim) (fun _ _ _ _ _ _ z => z.elim) (fun _ _ _ _ _ _ z => z.elim) fun v G2 H2 s2 ⟨d, ms1, ss1, hk2, hd, e1, e2, e3⟩ => by
    subst e1
    subst e2
    subst e3
    exact fin v G2 H2 s2 hk2 hd
  exact ⟨t, ht.nox, h⟩
end
end Pb
namespace Pb
open PySem PySem.Spec PyProof.Rows L2 Dn LamX
/-- of kept tubs and data: it raises that, nothing changed -/
def spLk (q : Kq) (pt : PyData) (ms ss : List PyData) (d : PyData) (wd : Str) : KSp := fun K vs H _ E => ∃ (v2 v3 : V) (G : Hp), vs = [.ref q.o, v2, v3] ∧ Same G H ∧ KqAt K pwk G H q pt ms ss ∧ Dd K G v2 d ∧ ∀ G' H', Stp G H G' H' → E (.ref (He.ga K wd)) none H'
/-- of kept tubs: it comes back, they are changed -/
def spLn (q : Kq) (pt : PyData) (ms ss ms' ss' : List PyData) : KSp := fun K vs H Q _ => ∃ (v2 v3 : V) (G : Hp), vs = [.ref q.o, v2, v3] ∧ Same G H ∧ KqAt K pwk G H q pt ms ss ∧ ∀ v G' H', Stp G (offK q H) G' H' → KqAt K pwk G' H' q pt ms' ss' → Q v H'
section
variable {X : Cx} {W : Wr} {G0 H0 : Hp} {ds : List Sl} {e1 e2 e3 : Expr} {es : List Expr} {pos p2 p3 p4 : Pos} {qk : Kq} {pt : PyData} {ms ss ms' ss' : List PyData} {N B C : NX} {r : RT} {rest : List Stmt} {P : PyData → Prop}
/-- refused(lambda .., ..), of data, in a world about the table's -/
theorem em_refW {kk : Nat} {c Pt : Addr} {q : Str} {params : Arguments} {body : Expr} {scope : Scope} {lpos : Pos} {pre : List PyData → Prop} {o : Option Str} {Pa : List PyData → Prop} (Fr : Fk X.prog X.w X.K X.mg X.base "_law_refused" (kk + 1) ["call", "one", "two", "three"] (spRf X.prog X.w X.mg X.base kk)) (TB : TabB X.base X.mg c Pt) (hcode : X.env.code = .ref c) (eq : q = X.env.qual ++ "<lambda>") (sb : SubK (tw Pt q) W) (hw : ∀ wd, o = some wd → wd ∈ W11) (hr : Room (kk + 1) X.A)
    (cal : ∀ f c, Cal X.prog X.w X.K X.mg X.base kk f (fun H => H f = some (LamO f ⟨q, params, body, scope⟩ c) ∧ H c = some (CodeO c q)) (spO pre o X.K))
    (ha : Am X W ds [e1, e2, e3] Pa) (hp : ∀ as, Pa as → as.length = 3 ∧ pre as) (hclo : ∀ y ∈ scope.names, y.2 ≠ .free) (hcl : ∀ cs : List (Str × Addr), cloFrom cs scope.names [] = []) (hdef : defaultsOf params X.env = ([], []) := by rfl) (hg : Gl X "_law_refused" := by rfl)
    (he : starEach [.Lambda params body scope lpos, e1, e2, e3] X.env = (false, eval (.Lambda params body scope lpos) X.env) :: starEach [e1, e2, e3] X.env := by rfl) (hpl : (backTo pos (starEach [e1, e2, e3] X.env)).any (·.1) = false := by rfl) : Em X W ds (.Call (.Name "_law_refused" p2) [.Lambda params body scope lpos, e1, e2, e3] [] pos) (· = .list (kinD o)) := by
  subst eq
  obtain ⟨f, fd, Gf, hm, hk, hb⟩ := Fr.ex
  refine em_of (pe_call Gf hr hg hm hk hb .nil pass0 (pa_cons (pe_lam3 TB hcode hdef hclo hcl) pa_u he) (by decide) he hpl) fun σ G H ok env Q q => ?_
  unfold tCall tCons
  refine tw_lam (F := ⟨X.env.qual ++ "<lambda>", params, body, scope⟩) (sb.ok ok) fun fl cl G1 H1 r1 hf hc => ?_
  have R1 := sb.R ok r1
  refine ha σ G1 H1 (W.oks R1) (env.mono R1) _ fun vs as G2 H2 r2 hs p => ?_
  obtain ⟨hl, hpr⟩ := hp as p
  have sm2 := W.sub (W.oks r2)
  have g2 := W.g r2
  obtain ⟨v1, v2, v3, rfl⟩ := three (hs.len.trans hl)
  exact ⟨fl, v1, v2, v3, G2, o, _, _, rfl, hw, sm2, cal fl cl, fun G3 H3 st => ⟨⟨st.i _ _ (st.g _ _ (g2 _ _ hf)), st.i _ _ (st.g _ _ (g2 _ _ hc))⟩, fun Q E hq hE => ⟨G3, _, st.i, dmonoAll st.g _ _ hs, hpr, fun v G' H' e st' => hq v G' H' e st', fun wd G' H' e st' => hE wd G' H' e st'⟩⟩,
      fun v G' H' st hd => q _ _ G' H' (W.trans R1 (W.trans r2 (W.step (W.oks r2) st))) hd rfl⟩
/-- refused(lambda .., kept, ..): refused -/
theorem em_refKX (n : Nat) {kk : Nat} {c Pt : Addr} {q x wd : Str} {params : Arguments} {body : Expr} {scope : Scope} {lpos : Pos} {d : PyData} (Fr : Fk X.prog X.w X.K X.mg X.base "_law_refused" (kk + 1) ["call", "one", "two", "three"] (spRf X.prog X.w X.mg X.base kk)) (TB : TabB X.base X.mg c Pt) (hcode : X.env.code = .ref c) (eq : q = X.env.qual ++ "<lambda>") (sb : SubK (tw Pt q) W) (hw : wd ∈ W11) (hr : Room (kk + 1) X.A)
    (cal : ∀ f c, Cal X.prog X.w X.K X.mg X.base kk f (fun H => H f = some (LamO f ⟨q, params, body, scope⟩ c) ∧ H c = some (CodeO c q)) (spLk qk pt ms ss d wd X.K))
    (hn : ds[n]? = some (.kep qk pt ms ss)) (ha : Am X W ds [e2, e3] (fun xs => ∃ y, xs = [d, y])) (hclo : ∀ y ∈ scope.names, y.2 ≠ .free) (hcl : ∀ cs : List (Str × Addr), cloFrom cs scope.names [] = []) (hdef : defaultsOf params X.env = ([], []) := by rfl) (hg : Gl X "_law_refused" := by rfl)
    (hN : X.N[n]? = some x := by rfl) (hv : Vis X.env.scope x := by first | exact Or.inl rfl | exact Or.inr (Or.inl rfl) | exact Or.inr (Or.inr rfl)) (hd : (x == ("__debug__" : Str)) = false := by decide) (hcd : (x == ("__classdict__" : Str)) = false := by decide)
    (he : starEach [.Lambda params body scope lpos, .Name x p3, e2, e3] X.env = (false, eval (.Lambda params body scope lpos) X.env) :: starEach [.Name x p3, e2, e3] X.env := by rfl) (he1 : starEach [.Name x p3, e2, e3] X.env = (false, eval (.Name x p3) X.env) :: starEach [e2, e3] X.env := by rfl) (hpl : (backTo pos (starEach [.Name x p3, e2, e3] X.env)).any (·.1) = false := by rfl) : Em X W ds (.Call (.Name "_law_refused" p2) [.Lambda params body scope lpos, .Name x p3, e2, e3] [] pos) (· = .list (kinD (some wd))) := by
  subst eq
  obtain ⟨f, fd, Gf, hm, hk, hb⟩ := Fr.ex
  refine em_of (pe_call Gf hr hg hm hk hb .nil pass0 (pa_cons (pe_lam3 TB hcode hdef hclo hcl) (pa_cons (pv n hN hv hd hcd) pa_u he1) he) (by decide) he hpl) fun σ G H ok env Q q => ?_
  unfold tCall tCons
  refine tw_lam (F := ⟨X.env.qual ++ "<lambda>", params, body, scope⟩) (sb.ok ok) fun fl cl G1 H1 r1 hf hc => ?_
  have R1 := sb.R ok r1
  obtain ⟨z, e1', e2', _, hk0⟩ := env.at hn
  refine ⟨.ref qk.o, by rw [e1', e2'], ha σ G1 H1 (W.oks R1) (env.mono R1) _ fun vs xs G2 H2 r2 hs ⟨y, p⟩ => ?_⟩
  subst p
  have sm2 := W.sub (W.oks r2)
  have g2 := W.g r2
  have hk2 := ((hk0.mono R1).mono r2).cast
  cases hs with
  | cons d2 hs => cases hs with
    | cons d3 hs =>
      cases hs
      exact ⟨fl, .ref qk.o, _, _, G2, some wd, _, _, rfl, (fun x e => by cases e; exact hw), sm2, cal fl cl, fun G3 H3 st => ⟨⟨st.i _ _ (st.g _ _ (g2 _ _ hf)), st.i _ _ (st.g _ _ (g2 _ _ hc))⟩, fun Q E hq hE => ⟨_, _, G3, rfl, st.i, hk2.mono (W := pwk) st, dmono st.g _ _ d2, fun G' H' st' => hE wd G' H' rfl st'⟩⟩,
        fun v G' H' st hd => q _ _ G' H' (W.trans R1 (W.trans r2 (W.step (W.oks r2) st))) hd rfl⟩
/-- y = refused(lambda .., kept, ..): not refused, kept changed -/
theorem bm_refN (i n : Nat) {kk : Nat} {c Pt : Addr} {q x y : Str} {params : Arguments} {body : Expr} {scope : Scope} {lpos p5 : Pos} (Fr : Fk X.prog X.w X.K X.mg X.base "_law_refused" (kk + 1) ["call", "one", "two", "three"] (spRfN X.prog X.w X.mg X.base kk)) (TB : TabB X.base X.mg c Pt) (hcode : X.env.code = .ref c) (eq : q = X.env.qual ++ "<lambda>") (sb : SubK (tw Pt q) W) (hr : Room (kk + 1) X.A)
    (cal : ∀ f c, Cal X.prog X.w X.K X.mg X.base kk f (fun H => H f = some (LamO f ⟨q, params, body, scope⟩ c) ∧ H c = some (CodeO c q)) (spLn qk pt ms ss ms' ss' X.K))
    (hn : ds[n]? = some (.kep qk pt ms ss)) (ha : Am X W ds [e2, e3] (fun xs => xs.length = 2)) (h0m : H0 qk.lm = none) (h0s : H0 qk.ls = none) (hnf : ∀ (j : Nat) s, j ≠ n → ds[j]? = some s → ∀ a ∈ s.foot, a ≠ qk.lm ∧ a ≠ qk.ls) (kk' : Bm X W G0 H0 ((ds.set n (.kep qk pt ms' ss')).set i (.dat (.list []))) rest N B C r) (hclo : ∀ y ∈ scope.names, y.2 ≠ .free) (hcl : ∀ cs : List (Str × Addr), cloFrom cs scope.names [] = []) (hNd : X.N.Nodup) (hdef : defaultsOf params X.env = ([], []) := by rfl) (hg : Gl X "_law_refused" := by rfl)
    (hi : X.N[i]? = some y := by rfl) (hy : Loc X.env.scope y := by first | exact Or.inl rfl | exact Or.inr rfl) (hs : swapsWith (.Call (.Name "_law_refused" p2) [.Lambda params body scope lpos, .Name x p3, e2, e3] [] pos) (some (.Name y p4)) p5.line X.env = pure false := by rfl) (hfy : X.fn y = true ∨ X.env.scope.names.lookup y = some .local := by first | exact .inl rfl | exact .inr rfl)
    (hN : X.N[n]? = some x := by rfl) (hv : Vis X.env.scope x := by first | exact Or.inl rfl | exact Or.inr (Or.inl rfl) | exact Or.inr (Or.inr rfl)) (hd : (x == ("__debug__" : Str)) = false := by decide) (hcd : (x == ("__classdict__" : Str)) = false := by decide)
    (he : starEach [.Lambda params body scope lpos, .Name x p3, e2, e3] X.env = (false, eval (.Lambda params body scope lpos) X.env) :: starEach [.Name x p3, e2, e3] X.env := by rfl) (he1 : starEach [.Name x p3, e2, e3] X.env = (false, eval (.Name x p3) X.env) :: starEach [e2, e3] X.env := by rfl) (hpl : (backTo pos (starEach [.Name x p3, e2, e3] X.env)).any (·.1) = false := by rfl) :
    Bm X W G0 H0 ds (.Assign [.Name y p4] (.Call (.Name "_law_refused" p2) [.Lambda params body scope lpos, .Name x p3, e2, e3] [] pos) p5 :: rest) N B C r := by
  subst eq
  obtain ⟨f, fd, Gf, hm, hk, hb⟩ := Fr.ex
  refine bm_st (N1 := fun ds' => ds' = (ds.set n (.kep qk pt ms' ss')).set i (.dat (.list []))) (ps_set (i := i) hNd hi hy (pe_call Gf hr hg hm hk hb .nil pass0 (pa_cons (pe_lam3 TB hcode hdef hclo hcl) (pa_cons (pv n hN hv hd hcd) pa_u he1) he) (by decide) he hpl) hs hfy) (fun Gb σ G H D s env nx b c k => ?_) fun ds' e => by
    rw [e]
    exact kk'
  unfold tAsg tCall tCons
  refine tw_lam (F := ⟨X.env.qual ++ "<lambda>", params, body, scope⟩) (sb.ok s.ok) fun fl cl G1 H1 r1 hf hc => ?_
  have R1 := sb.R s.ok r1
  obtain ⟨z, e1', e2', _, hk0⟩ := env.at hn
  refine ⟨.ref qk.o, by rw [e1', e2'], ha σ G1 H1 (W.oks R1) (env.mono R1) _ fun vs xs G2 H2 r2 hs p => ?_⟩
  have sm2 := W.sub (W.oks r2)
  have g2 := W.g r2
  have env2 := (env.mono R1).mono r2
  have hk2 := ((hk0.mono R1).mono r2).cast
  have s2 := (s.to R1).to r2
  obtain ⟨v2, v3, rfl⟩ : ∃ v2 v3, vs = [v2, v3] := by
    have := hs.len.trans p
    match vs, this with
    | [a, b], _ => exact ⟨a, b, rfl⟩
  refine ⟨fl, qk, v2, v3, G2, pt, ms, ss, ms', ss', _, _, rfl, sm2, hk2, cal fl cl, fun G3 H3 st hk3 => ⟨⟨st.i _ _ (st.g _ _ (g2 _ _ hf)), st.i _ _ (st.g _ _ (g2 _ _ hc))⟩, fun Q E hq => ⟨_, _, G3, rfl, st.i, hk3, fun v G' H' st' hk' => hq v G' H' st' hk'⟩⟩, fun v G' H' st hk' hd => ?_⟩
  obtain ⟨A2, E2⟩ := kstep (X := X) s2 env2 hn h0m h0s hnf st hk'
  exact nx _ _ G' H' A2 (E2.set i (.dat hd)) rfl
/-- f(kept, ..): told -/
theorem em_callK (n : Nat) {f x : Str} {k : Nat} {ps : List Str} {pre : KPre} {post : KTell} {Pa : List PyData → Prop} (hq : qk.C = kC X.K) (hn : ds[n]? = some (.kep qk pt ms ss)) (F : Fk X.prog X.w X.K X.mg X.base f k ps (spRk pre post)) (hr : Room k X.A) (ha : Am X W ds es Pa) (hp : ∀ as, Pa as → pre pt ms ss as ∧ ∀ d, post pt ms ss as d → P d) (hg : Gl X f := by rfl)
    (hN : X.N[n]? = some x := by rfl) (hv : Vis X.env.scope x := by first | exact Or.inl rfl | exact Or.inr (Or.inl rfl) | exact Or.inr (Or.inr rfl)) (hd : (x == ("__debug__" : Str)) = false := by decide) (hcd : (x == ("__classdict__" : Str)) = false := by decide)
    (hdb : (f == ("__debug__" : Str)) = false := by decide) (he : starEach (.Name x p3 :: es) X.env = (false, eval (.Name x p3) X.env) :: starEach es X.env := by rfl) (hpl : (backTo pos (starEach es X.env)).any (·.1) = false := by rfl) : Em X W ds (.Call (.Name f p2) (.Name x p3 :: es) [] pos) P := by
  obtain ⟨g, fd, Gf, hm, hk, hb⟩ := F.ex
  refine em_of (pe_call Gf hr hg hm hk hb .nil pass0 (pa_cons (pv n hN hv hd hcd) pa_u he) hdb he hpl) fun σ G H ok env Q q => ?_
  obtain ⟨z, e1', e2', _, hk0⟩ := env.at hn
  refine ⟨.ref qk.o, by rw [e1', e2'], ha σ G H ok env _ fun vs as G1 H1 r1 hs p => ?_⟩
  obtain ⟨h1, h2⟩ := hp as p
  rw [List.append_nil]
  exact ⟨G1, qk, pt, ms, ss, vs, as, rfl, hq, W.sub (W.oks r1), (hk0.mono r1).cast, hs, h1, fun v d G2 H2 st hd hpo => q v d G2 H2 (W.trans r1 (W.step (W.oks r1) st)) hd (h2 d hpo)⟩
/-- f(), in the world of a table -/
theorem em_callT0 {p : He.Defn} {q : Str} {pre : Unit → Prop} {post : Unit → PyData → Prop} {x : Str} {k : Nat} (F : Fk X.prog X.w X.K X.mg X.base x k [] (spT p q (fun _ : Unit => []) pre post)) (hr : Room k X.A) (sb : Sub (tw (He.cT X.K p).2 q) W) (hp : pre ()) (hg : Gl X x := by rfl) (hdb : (x == ("__debug__" : Str)) = false := by decide) : Em X W ds (.Call (.Name x p2) [] [] pos) (post ()) := by
  obtain ⟨f, fd, G, hm, hk, hb⟩ := F.ex
  exact em_of (pe_call0 G hr hg hm hk hb .nil pass0 hdb) fun σ G0 H0 ok env Q q => ⟨G0, (), sb.ok ok, .nil, hp, fun u d G2 H2 st hd hpo => q u d G2 H2 (sb.R ok st) hd hpo⟩
end
end Pb
namespace Pb
open PySem PySem.Spec PyProof.Rows L2 Dn LamX
/-! ## shares kept behind each pour of a row -/
def shS (p q s : Rat) (r : List Pour) : List Rat := (List.range (r.length + 1)).map fun n => pours p q s (r.take n)
theorem shS_len (p q s : Rat) (r : List Pour) : (shS p q s r).length = r.length + 1 := by
  unfold shS
  rw [List.length_map, List.length_range]
theorem shS_get {p q s : Rat} {r : List Pour} {n : Nat} (h : n ≤ r.length) : (shS p q s r)[n]? = some (pours p q s (r.take n)) := by
  unfold shS
  rw [List.getElem?_map, List.getElem?_range (by omega)]
  rfl
theorem shS_nil (p q s : Rat) : shS p q s [] = [s] := rfl
theorem shS_snoc (p q s : Rat) (r : List Pour) (x : Pour) : shS p q s (r ++ [x]) = shS p q s r ++ [pours p q s (r ++ [x])] := by
  unfold shS
  rw [List.length_append, List.length_singleton, List.range_succ (n := r.length + 1), List.map_append, List.map_singleton]
  congr 1
  · apply List.map_congr_left
    intro n hn
    rw [List.mem_range] at hn
    rw [List.take_append_of_le_length (by omega)]
  · rw [List.take_of_length_le (by rw [List.length_append, List.length_singleton]; omega)]
theorem shS_init (p q s : Rat) (r : List Pour) : shS p q s r = (List.range r.length).map (fun n => pours p q s (r.take n)) ++ [pours p q s r] := by
  unfold shS
  rw [List.range_succ, List.map_append, List.map_singleton, List.take_length]
theorem shS_drop {p q s : Rat} {r : List Pour} (h : r ≠ []) : (shS p q s r).dropLast = shS p q s r.dropLast := by
  rw [shS_init, List.dropLast_concat]
  unfold shS
  have hl : r.dropLast.length + 1 = r.length := by
    rw [List.length_dropLast]
    have := List.length_pos_iff.mpr h
    omega
  rw [hl]
  apply List.map_congr_left
  intro n hn
  rw [List.mem_range] at hn
  rw [List.dropLast_eq_take, List.take_take, Nat.min_eq_left (by omega)]
theorem pours_snoc (p q s : Rat) (r : List Pour) (x : Pour) : pours p q s (r ++ [x]) = pour1 p q (pours p q s r) x := by
  have h : (r ++ [x])[r.length]? = some x := by simp
  have e := pours_take (p := p) (q := q) (s := s) h
  rw [List.take_of_length_le (by simp), List.take_append_of_le_length (Nat.le_refl _), List.take_length] at e
  exact e
theorem far_sym (x y : Rat) : far x y = far y x := by
  unfold far
  by_cases h : x ≤ y
  · by_cases h2 : y ≤ x
    · rw [if_pos h, if_pos h2]
      grind
    · rw [if_pos h, if_neg h2]
  · rw [if_neg h, if_pos (by grind)]
section
variable {p q s : Rat} {r : List Pour}
theorem sh_bq (hp : Parts p q) (hs : Share s) (hl : r.length ≤ 60) (n : Nat) : Bq (10 ^ 20 * 12 ^ 60) (pours p q s (r.take n)) := by
  refine (hs.bq.pours hp (r.take n)).mono (Nat.mul_le_mul_left _ (Nat.pow_le_pow_right (by decide) ?_))
  rw [List.length_take]
  omega
theorem way_step {n : Nat} (h : n < r.length) : wayN (shS p q s r) (n + 1) = wayN (shS p q s r) n + far (pours p q s (r.take n)) (pours p q s (r.take (n + 1))) := by
  show wayN _ n + _ = _
  rw [shS_get (Nat.le_of_lt h), shS_get (show n + 1 ≤ r.length by omega)]
theorem sh_ov (n : Nat) : Ov (s.den * (p.den * q.den) ^ r.length) (pours p q s (r.take n)) := by
  have h := (ov_self s).pours (p := p) (q := q) (r := r.take n)
  have e : (p.den * q.den) ^ r.length = (p.den * q.den) ^ (r.take n).length * (p.den * q.den) ^ (r.length - (r.take n).length) := by
    rw [← Nat.pow_add]
    congr 1
    rw [List.length_take]
    omega
  rw [e, ← Nat.mul_assoc]
  exact h.mul
theorem way_all (hp : Parts p q) (hs : Share s) (hl : r.length ≤ 60) : ∀ n, n ≤ r.length → Ov (s.den * (p.den * q.den) ^ r.length) (wayN (shS p q s r) n) ∧ 0 ≤ wayN (shS p q s r) n ∧ wayN (shS p q s r) n ≤ (n : Rat)
  | 0, _ => ⟨.zero _, by show (0 : Rat) ≤ 0; decide, by show (0 : Rat) ≤ ((0 : Nat) : Rat); decide⟩
  | n + 1, h => by
    obtain ⟨h1, h2, h3⟩ := way_all hp hs hl n (by omega)
    rw [way_step (by omega)]
    have f0 := far_nn (pours p q s (r.take n)) (pours p q s (r.take (n + 1)))
    have f1 := (far_bq (sh_bq hp hs hl n) (sh_bq hp hs hl (n + 1))).s1
    refine ⟨h1.add ((sh_ov n).far (sh_ov (n + 1))), by grind, ?_⟩
    have e : ((n + 1 : Nat) : Rat) = (n : Rat) + 1 := by rw [Rat.natCast_add]; rfl
    rw [e]
    grind
theorem way_D (hp : Parts p q) (hs : Share s) (hl : r.length ≤ 60) : 0 < s.den * (p.den * q.den) ^ r.length ∧ s.den * (p.den * q.den) ^ r.length * (60 + 1) < 2 ^ 4000 := by
  refine ⟨Nat.mul_pos s.den_pos (Nat.pow_pos (Nat.mul_pos p.den_pos q.den_pos)), ?_⟩
  have h1 : s.den ≤ 10 ^ 20 := hs.bq.sd
  have h2 : (p.den * q.den) ^ r.length ≤ 12 ^ 120 := by
    have a : p.den * q.den ≤ 12 ^ 2 := Nat.mul_le_mul hp.pd hp.qd
    refine Nat.le_trans (Nat.pow_le_pow_left a _) ?_
    rw [← Nat.pow_mul]
    exact Nat.pow_le_pow_right (by decide) (by omega)
  have h3 := Nat.mul_le_mul h1 h2
  refine Nat.lt_of_le_of_lt (Nat.mul_le_mul h3 (show 60 + 1 ≤ 12 ^ 2 by decide)) ?_
  rw [Nat.mul_assoc, ← Nat.pow_add]
  exact big (by decide)
theorem way_smq (hp : Parts p q) (hs : Share s) (hl : r.length ≤ 60) {n : Nat} (hn : n ≤ r.length) : Smq (wayN (shS p q s r) n) := by
  obtain ⟨h1, h2, h3⟩ := way_all hp hs hl n hn
  obtain ⟨d1, d2⟩ := way_D hp hs hl
  refine h1.smq (M := 60) d1 h2 (Rat.le_trans h3 ?_) d2
  exact Rat.natCast_le_natCast.mpr (by omega)
theorem farw_smq (hp : Parts p q) (hs : Share s) (hl : r.length ≤ 60) (n m : Nat) : Smq (far (pours p q s (r.take n)) (pours p q s (r.take m))) :=
  (far_bq (sh_bq hp hs hl n) (sh_bq hp hs hl m)).smq (by
    have e : 10 ^ 20 * 12 ^ 60 * (10 ^ 20 * 12 ^ 60) ≤ 10 ^ 20 * 12 ^ 140 := by decide
    exact Nat.lt_of_le_of_lt e (big (by decide)))
/-- what is known of tubs kept: parts, the share at first, the row -/
abbrev kvS (p q s : Rat) (r : List Pour) : KV := ⟨p, q, r, (List.range r.length).map fun n => pours p q s (r.take n), pours p q s r⟩
theorem kvS_sD : (kvS p q s r).sD = (shS p q s r).map rt := by
  rw [shS_init, List.map_append]
  rfl
theorem kvS_ok (hp : Parts p q) (hs : Share s) (hl : r.length ≤ 60) : (kvS p q s r).Ok := by
  have b := sh_bq hp hs hl r.length
  rw [List.take_length] at b
  exact ⟨hp, b.smq (big (by decide)), b.s0, b.s1, by show r.length ≤ 100; omega, by show ((List.range r.length).map _).length ≤ 100; rw [List.length_map, List.length_range]; omega⟩
end
structure AskS where
  p : Rat
  q : Rat
  s : Rat
  r : List Pour
structure AskSOk (v : AskS) : Prop where
  hp : Parts v.p v.q
  hs : Share v.s
  hl : v.r.length ≤ 40
section
variable {P : Program} {w : World} {K : PySem.W.Frag} {mg : Str → Option Value} {base : Heap} {f : Addr} {fd : FuncData}
abbrev sp_stands : KSp := spEx fun v : AskS => spRk (fun pt ms ss as => pt = ptD v.p v.q ∧ ms = v.r.map Pour.d ∧ ss = (shS v.p v.q v.s v.r).map rt ∧ as = [ptD v.p v.q, rt v.s, rowD v.r] ∧ AskSOk v) fun _ _ _ _ d => d = .bool true
theorem ok__law_stands (F : FnP K "_law_stands" s__law_stands f fd) (B : Bi mg) (T : KCl K) (Fe : Fk P w K mg base "_law_end" 4 ["parts", "share", "row"] sp_end) (Fp : Fk P w K mg base "_law_plus" 3 ["one", "other"] (sp2 fun x y => rt (x + y))) (Fa : Fk P w K mg base "_law_away" 4 ["one", "other"] (sp2 fun x y => rt (far x y)))
    (Ms : Mk1 P w K mg base "share" 1 ["self"] sp_kshare) (Mps : Mk1 P w K mg base "pours" 1 ["self"] sp_kpours) (Md : Mk1 P w K mg base "poured" 4 ["self"] sp_kpoured) (Ml : Mk1 P w K mg base "__len__" 1 ["self"] sp_klen) : FnO P w K mg base 6 f fd ["kept", "parts", "share", "row"] sp_stands := by
  refine fn_ex fun ⟨p, q, s, r⟩ => fn_R F sc__law_stands (fun pt ms ss as ⟨_, _, _, e, _⟩ => by rw [e]; rfl) fun cdv A outer sh H E G qk pt ms ss as hr hC ⟨e1, e2, e3, e4, hp, hs, hl⟩ => ?_
  subst e1
  subst e2
  subst e3
  subst e4
  have hp : Parts p q := hp
  have hs : Share s := hs
  have hl : r.length ≤ 40 := hl
  have hl6 : r.length ≤ 60 := by omega
  have sh1 : ∀ x : Rat, SeqAt.shaped (rt x) = true := fun x => (Shp.rt x).shaped (by decide)
  have shr : ∀ x : List Pour, SeqAt.shaped (rowD x) = true := fun x => (Shp.row x).shaped (by decide)
  show Bm _ _ _ _ [.kep qk (ptD p q) (r.map Pour.d) ((shS p q s r).map rt), .dat (ptD p q), .dat (rt s), .dat (rowD r), .un, .un, .un, .un] _ _ _ _ (rD K (· = .bool true))
  refine bm_par 4 5 (am_cons (em_is (em_tup (am_cons em_int (am_cons em_int am_nil))) rt0.symm) (am_cons (em_var 2 rfl) am_nil)) (fun as e => ⟨_, _, e, ?_⟩) rfl sc__law_stands.nd
  refine bm_forT (N1 := fun ds' => ∃ x6 x7, ds' = [.kep qk (ptD p q) (r.map Pour.d) ((shS p q s r).map rt), .dat (ptD p q), .dat (rt s), .dat (rowD r), .dat (rt (wayN (shS p q s r) r.length)), .dat (rt (pours p q s r)), x6, x7]) 6 (em_var 3 rfl) (fun n ds' => n ≤ r.length ∧ ∃ x6 x7, ds' = [.kep qk (ptD p q) (r.map Pour.d) ((shS p q s r).map rt), .dat (ptD p q), .dat (rt s), .dat (rowD r), .dat (rt (wayN (shS p q s r) n)), .dat (rt (pours p q s (r.take n))), x6, x7]) ⟨Nat.zero_le _, _, _, rfl⟩ PassesOwn.never rfl (fun n d ds' hd ⟨hn, x6, x7, e⟩ => ?_) (fun ds' ⟨hn, x6, x7, e⟩ => ?_) (fun ds' ⟨x6, x7, e⟩ => ?_) sc__law_stands.nd
  · subst e
    obtain ⟨x, hx, rfl⟩ := row_at hd
    have hn1 : n < r.length := (List.getElem?_eq_some_iff.mp hx).1
    have b := sh_bq hp hs hl6 n
    have b1 := sh_bq hp hs hl6 (n + 1)
    have sm : ∀ {x : Rat}, Bq (10 ^ 20 * 12 ^ 60) x → Smq x := fun h => h.smq (big (by decide))
    refine bm_set (d := rt (pours p q s (r.take (n + 1)))) 7 (em_mono (em_call Fe (hr.mono (by decide)) (am_cons (em_var 1 rfl) (am_cons (em_var 5 rfl) (am_cons (em_tup (am_cons (em_var 6 rfl) am_nil)) am_nil))) ⟨p, q, _, [x], rfl, hp, ?_, Nat.le_of_ble_eq_true rfl⟩) fun d h => ?_) ?_ sc__law_stands.nd
    · refine (hs.bq.pours hp (r.take n)).mono (Nat.mul_le_mul_left _ (Nat.pow_le_pow_right (by decide) ?_))
      rw [List.length_take]
      omega
    · rw [h p q _ [x] rfl, pours_take hx]
      rfl
    refine bm_par 4 5 (am_cons (em_call2 (u := wayN (shS p q s r) n) (v := far (pours p q s (r.take (n + 1))) (pours p q s (r.take n))) (d := rt (wayN (shS p q s r) (n + 1))) Fp (hr.mono (by decide)) (am_cons (em_var 4 rfl) (am_cons (em_call2 (u := pours p q s (r.take (n + 1))) (v := pours p q s (r.take n)) Fa (hr.mono (by decide)) (am_cons (em_var 7 rfl) (am_cons (em_var 5 rfl) am_nil)) (sm b1) (sm b)) am_nil)) (way_smq hp hs hl6 (by omega)) (farw_smq hp hs hl6 _ _) ?_) (am_cons (em_var 7 rfl) am_nil)) (fun as e => ⟨_, _, e, bm_nil ⟨by omega, _, _, rfl⟩⟩) rfl sc__law_stands.nd
    rw [way_step hn1, far_sym]
  · refine ⟨x6, x7, ?_⟩
    rw [e, List.length_map, List.take_length]
  · subst e
    have w1 : ∀ x ∈ shS p q s r, Smq x := fun x hx => by
      unfold shS at hx
      obtain ⟨n, _, rfl⟩ := List.mem_map.mp hx
      exact (sh_bq hp hs hl6 n).smq (big (by decide))
    have len := shS_len p q s r
    have w2 : ∀ (n : Nat) (x y : Rat), (shS p q s r)[n]? = some x → (shS p q s r)[n + 1]? = some y → Smq (far x y) := fun n x y hx hy => by
      have hn : n + 1 < (shS p q s r).length := (List.getElem?_eq_some_iff.mp hy).1
      rw [shS_get (by omega)] at hx hy
      cases hx
      cases hy
      exact farw_smq hp hs hl6 _ _
    have w3 : ∀ n, n < (shS p q s r).length → Smq (wayN (shS p q s r) n) ∧ 0 ≤ wayN (shS p q s r) n := fun n hn => ⟨way_smq hp hs hl6 (by omega), (way_all hp hs hl6 n (by omega)).2.1⟩
    have e0 : (shS p q s r).length - 1 = r.length := by omega
    refine bm_retD (em_is (em_andB (em_is (em_eqD (d := rt (pours p q s r)) (d' := rt (pours p q s r)) hr (sh1 _) (sh1 _) (em_meth0 0 T hC rfl (Ms.at (kvS p q s r)) (hr.mono (by decide)) ⟨rfl, rfl, kvS_sD.symm, rfl⟩ (by decide +kernel) fun d h => h) (em_var 5 rfl)) (congrArg PyData.bool (eqv_same (.rt _)))) fun _ => em_andB (em_is (em_eqD (d := rowD r) (d' := rowD r) hr (shr _) (shr _) (em_meth0 0 T hC rfl Mps (hr.mono (by decide)) rfl (by decide +kernel) fun d h => h) (em_var 3 rfl)) (congrArg PyData.bool (eqv_same (.row _)))) fun _ =>
      em_andB (em_is (em_eqD (d := rt (wayN (shS p q s r) r.length)) (d' := rt (wayN (shS p q s r) r.length)) hr (sh1 _) (sh1 _) (em_meth0 0 T hC rfl (Md.at (ptD p q, r.map Pour.d, shS p q s r)) (hr.mono (by decide)) ⟨rfl, rfl, rfl, rfl, w1, w2, w3⟩ (by decide +kernel) fun d h => h.trans (by rw [e0])) (em_var 4 rfl)) (congrArg PyData.bool (eqv_same (.rt _)))) fun _ => em_one (em_is (em_eqI (em_kLen 0 (l := r.length) Ml (hr.mono (by decide)) hC rfl rfl (fun d h => h.trans (by rw [List.length_map])) (by omega) B.len) (em_len (as := r.map Pour.d) (em_mono (em_var 3 rfl) fun _ e => .inr e) B.len)) (congrArg PyData.bool (by rw [List.length_map]; exact decide_eq_true rfl)))) rfl)
end
end Pb
namespace Pb
open PySem PySem.Spec PyProof.Rows L2 Dn LamX
abbrev pFu : He.Defn := ("_law_full_right", none)
abbrev qFu : Str := "_law_full_right" ++ ".<locals>." ++ "<lambda>"
abbrev sp_full : KSp := spT pFu qFu (fun _ : Unit => []) (fun _ => True) fun _ d => d = .bool true
theorem em_fr {X : Cx} {W : Wr} {ds : List Sl} {p1 p2 p3 : Pos} {i : Int} {j : Nat} {n m k : Nat} (x : Rat) (h : (decide (x.num = i) && decide (x.den = j)) = true) (h1 : starEach [.Constant (.int i) n p1, .Constant (.int (j : Int)) m p2] X.env = (false, eval (.Constant (.int i) n p1) X.env) :: starEach [.Constant (.int (j : Int)) m p2] X.env := by rfl) (h2 : starEach [.Constant (.int (j : Int)) m p2] X.env = (false, eval (.Constant (.int (j : Int)) m p2) X.env) :: starEach [] X.env := by rfl) : Em X W ds (.Tuple [.Constant (.int i) n p1, .Constant (.int (j : Int)) m p2] k p3) (· = rt x) := em_is (em_tup (am_cons em_int (am_cons em_int am_nil h2) h1)) (rt_lit h).symm
theorem halfQ : Parts (1 / 2) (1 / 2) := ⟨by decide +kernel, by decide +kernel, by decide +kernel, by decide +kernel, by decide +kernel, by decide +kernel, by decide +kernel⟩
theorem left_one : pour1 (1 / 2) (1 / 2) 1 .left = 1 := by decide +kernel
abbrev kvF (n : Nat) : KV := ⟨1 / 2, 1 / 2, List.replicate n .left, List.replicate n 1, 1⟩
theorem kvF_sD (n : Nat) : (kvF n).sD = (List.replicate (n + 1) (1 : Rat)).map rt := by
  rw [List.replicate_succ', List.map_append]
  rfl
theorem kvF_ok {n : Nat} (h : n ≤ 100) : (kvF n).Ok := ⟨halfQ, sm1, by show (0 : Rat) ≤ 1; decide, by show (1 : Rat) ≤ 1; decide, by show (List.replicate n Pour.left).length ≤ 100; rw [List.length_replicate]; exact h, by show (List.replicate n (1 : Rat)).length ≤ 100; rw [List.length_replicate]; exact h⟩
theorem env_lam {K : PySem.W.Frag} {G H : Hp} {q : Kq} {pt d : PyData} {ms ss : List PyData} {v2 v3 : V} (hk : KqAt K pwk G H q pt ms ss) (hd : Dd K G v2 d) : EnvOk K pwk G H [.kep q pt ms ss, .dat d, .raw v3] (start ["a", "b", "c"] [.ref q.o, v2, v3]) := ⟨rfl, fun i t y a b => by
  match i with
  | 0 => cases a; cases b; exact ⟨rfl, rfl, hk⟩
  | 1 => cases a; cases b; exact .dat hd
  | 2 => cases a; cases b; rfl
  | i + 3 => cases a⟩
section
variable {P : Program} {w : World} {K : PySem.W.Frag} {mg : Str → Option Value} {base : Heap} {f : Addr} {fd : FuncData}
theorem ok__law_full_right {fI : Addr} {fdI : FuncData} (F : FunD K "_law_full_right" "_law_full_right" (defArgs s__law_full_right) (defBody s__law_full_right) (defScope s__law_full_right) [] [] (He.fAd K pFu) fd) (TB : TabB base mg (He.cT K pFu).1 (He.cT K pFu).2) (J : Bj mg)
    (T : KCl K) (M : Mk K (kC K) fI) (mK : mg "Kept" = some (.ref (kC K))) (FI : FnO P w K mg base 6 fI fdI ["self", "parts", "share"] (spI fun pt sh => arePartsD pt = true ∧ isShareD sh = true)) (FIp : FnX P w K mg base 6 fI fdI ["self", "parts", "share"] (spIX pre_ip "NoParts")) (FIs : FnX P w K mg base 6 fI fdI ["self", "parts", "share"] (spIX pre_is "NoShare")) (bI : Binds K fdI ["self", "parts", "share"] [])
    (Mp : Mk1 P w K mg base "pour" 5 ["self", "pour"] sp_kpour) (Mf : Mx1 P w K mg base "pour" 2 ["self", "pour"] (spMX (fun _ ms _ as => ∃ x : Pour, as = [x.d] ∧ 100 ≤ ms.length) "Full")) (Ms : Mk1 P w K mg base "share" 1 ["self"] sp_kshare)
    (Fr : Fk P w K mg base "_law_refused" 9 ["call", "one", "two", "three"] (spRf P w mg base 8)) : FnO P w K mg base 10 (He.fAd K pFu) fd [] sp_full := by
  refine fn_T F sc__law_full_right (fun _ => rfl) fun A outer s H E G _ hr ok _ => ?_
  show Bm _ _ _ _ [.un, .un] _ _ _ _ (rD K (· = .bool true))
  refine bm_fl ?_
  have sb : SubK (tw (He.cT K pFu).2 qFu) { tw (He.cT K pFu).2 qFu with fl := true } := ⟨fun h => h, fun _ r => r, fun h => h⟩
  have inw : ∀ x : Str, x ∈ W11 → ∀ wd, some x = some wd → wd ∈ W11 := fun x h wd e => by cases e; exact h
  have sh1 : ∀ x : Rat, SeqAt.shaped (rt x) = true := fun x => (Shp.rt x).shaped (by decide)
  have nm : ¬ (("pour" : Str) = "parts") ∧ ¬ (("pour" : Str) = "made") ∧ ¬ (("pour" : Str) = "shares") := by decide +kernel
  refine bm_make 0 M FI bI (hr.mono (by decide)) mK rfl (am_cons (em_tup (am_cons (em_fr (j := 2) (1 / 2) (by decide +kernel)) (am_cons (em_fr (j := 2) (1 / 2) (by decide +kernel)) am_nil))) (am_cons (em_is (em_tup (am_cons em_int (am_cons em_int am_nil))) rt1.symm) am_nil)) ⟨parts_rt halfQ, share_rt sh1'⟩ (fun q hC h0m h0s _ => ?_) sc__law_full_right.nd
  have foot : ∀ (ms ss : List PyData) (t : Sl), t.foot = [] → ∀ (j : Nat) (u : Sl), j ≠ 0 → [Sl.kep q (ptD (1 / 2) (1 / 2)) ms ss, t][j]? = some u → ∀ a ∈ u.foot, a ≠ q.lm ∧ a ≠ q.ls := fun ms ss t ht j u hj hu a ha => by
    match j, hj, hu with
    | 1, _, hu => cases hu; rw [ht] at ha; cases ha
    | j + 2, _, hu => simp at hu
  refine bm_forR (z := 100) (N1 := fun ds' => ∃ t, ds' = [.kep q (ptD (1 / 2) (1 / 2)) ((List.replicate 100 Pour.left).map Pour.d) ((List.replicate 101 (1 : Rat)).map rt), t]) 1 em_int (by decide) (fun n ds' => n ≤ 100 ∧ ∃ t, ds' = [.kep q (ptD (1 / 2) (1 / 2)) ((List.replicate n Pour.left).map Pour.d) ((List.replicate (n + 1) (1 : Rat)).map rt), t]) ⟨Nat.zero_le _, _, rfl⟩ PassesOwn.never rfl (fun n ds' hn ⟨_, t, e⟩ => ?_) (fun ds' ⟨_, t, e⟩ => ⟨t, e⟩) (fun ds' ⟨t, e⟩ => ?_) J.range sc__law_full_right.nd
  · subst e
    have hn : n < 100 := hn
    refine bm_meth 0 T hC rfl (Mp.at (kvF n, .left)) (hr.mono (by decide)) (Pa := (· = [Pour.left.d])) (am_cons em_str am_nil) (fun as e => ⟨rfl, rfl, (kvF_sD n).symm, e, kvF_ok (by omega), by show (List.replicate n Pour.left).length < 100; rw [List.length_replicate]; exact hn⟩) h0m h0s (foot _ _ (.dat (.int n)) rfl) nm fun as ms' ss' d e ⟨e1, e2, _⟩ => bm_nil ⟨by omega, .dat (.int n), ?_⟩
    rw [e1, e2, kvF_sD]
    show [Sl.kep q (ptD (1 / 2) (1 / 2)) ((List.replicate n Pour.left).map Pour.d ++ [Pour.left.d]) ((List.replicate (n + 1) (1 : Rat)).map rt ++ [rt (pour1 (1 / 2) (1 / 2) 1 .left)]), .dat (.int n)] = _
    rw [left_one, List.replicate_succ' (n := n) (a := Pour.left), List.replicate_succ' (n := n + 1) (a := (1 : Rat)), List.map_append, List.map_append]
    rfl
  subst e
  refine bm_ifR (x := false) (tm_w (wm_or (x := false) (tm_mono (tm_neD (d := .list (kinD (some "Full"))) (d' := .list [.str "Full", .bool true]) hr ((kin_shp (by decide +kernel)).shaped (by decide)) ((kin_shp (x := "Full") (by decide +kernel)).shaped (by decide)) (em_refKX 0 (kk := 8) (q := qFu) (d := Pour.right.d) (wd := "Full") Fr TB rfl rfl sb (by decide) hr (fun fl c => ?_) rfl (am_cons' (P := fun xs => ∃ y, xs = [Pour.right.d, y]) em_str (am_cons em_int am_nil) fun x xs e1 e2 => ⟨.int 0, by rw [e1, e2]⟩) (by decide +kernel) (fun _ => rfl)) (em_lst (am_cons em_str (am_cons em_bl am_nil)))) fun _ e => by rw [e, kin_same (by decide +kernel)]; rfl) (fun h => nomatch h) fun _ => wm_or1 (tm_mono (tm_neD (d := rt 1) (d' := rt 1) hr (sh1 _) (sh1 _) (em_meth0 0 T hC rfl (Ms.at (kvF 100)) (hr.mono (by decide)) ⟨rfl, rfl, (kvF_sD 100).symm, rfl⟩ (by decide +kernel) fun d h => h) (em_is (em_tup (am_cons em_int (am_cons em_int am_nil))) rt1.symm)) fun _ e => e.trans (neq_same (.rt _))))) (fun h => nomatch h) fun _ => ?_
  · refine cal_lam (k := 7) (N := ["a", "b", "c"]) (ps := ["a", "b", "c"]) (NdefX.nscope_by (by decide +kernel)) (fun pm ctv us hl => match us, hl with | [_, _, _], _ => rfl) (fun vs H Q E ⟨v2, v3, G, e, _⟩ => by rw [e]; rfl) fun A outer s H vs Q E hr ⟨v2, v3, G, e, sm, hk, hd, hE⟩ => ?_
    subst e
    exact (rm_meth (X := lcx _ _ _ _ _ _ _ _ _ A outer s H E) (W := pwk) (G0 := G) (H0 := H) (ds := [.kep q (ptD (1 / 2) (1 / 2)) ((List.replicate 100 Pour.left).map Pour.d) ((List.replicate 101 (1 : Rat)).map rt), .dat Pour.right.d, .raw v3]) 0 T hC rfl Mf (hr.mono (by decide)) (tk_lcx fun G' H' r => hE G' H' r) (am_cons (em_var 1 rfl) am_nil) (fun as e => ⟨.right, e, by rw [List.length_map, List.length_replicate]; exact Nat.le_refl _⟩) nm) _ G H (pwk.refl sm) (env_lam hk hd) Q
  refine bm_ifR (x := false) (tm_mono (tm_neD (d := .list (kinD (some "NoParts"))) (d' := .list [.str "NoParts", .bool true]) hr ((kin_shp (by decide +kernel)).shaped (by decide)) ((kin_shp (x := "NoParts") (by decide +kernel)).shaped (by decide)) (em_refW (kk := 8) (q := qFu) (pre := fun as => ∃ y, as = [.tuple [.tuple [.int 1, .int 3], .tuple [.int 1, .int 2]], .none, y]) (o := some "NoParts") Fr TB rfl rfl sb (inw _ (by decide)) hr (fun fl c => ?_) (am_cons (em_tup (am_cons (em_tup (am_cons em_int (am_cons em_int am_nil))) (am_cons (em_tup (am_cons em_int (am_cons em_int am_nil))) am_nil))) (am_cons em_non (am_cons em_int am_nil))) (fun as e => ⟨by rw [e]; rfl, _, e⟩) (by decide +kernel) (fun _ => rfl)) (em_lst (am_cons em_str (am_cons em_bl am_nil)))) fun _ e => by rw [e, kin_same (by decide +kernel)]; rfl) (fun h => nomatch h) fun _ => ?_
  · refine cal_lam (k := 7) (N := ["a", "b", "c"]) (ps := ["a", "b", "c"]) (NdefX.nscope_by (by decide +kernel)) (fun pm ctv us hl => match us, hl with | [_, _, _], _ => rfl) (fun vs H Q E ⟨G, as, sm, hd, ⟨y, e⟩, _⟩ => by rw [hd.len, e]; rfl) fun A outer s H vs Q E hr ⟨G, as, sm, hda, ⟨y, e⟩, _, hE⟩ => ?_
    subst e
    exact (rm_make (X := lcx _ _ _ _ _ _ _ _ _ A outer s H E) (W := pw) (G0 := G) (H0 := H) (ds := [.dat (.tuple [.tuple [.int 1, .int 3], .tuple [.int 1, .int 2]]), .dat .none, .dat y]) M FIp bI hr mK (tk_lcx fun G' H' r => hE _ G' H' rfl r) (am_cons (em_var 0 rfl) (am_cons (em_var 1 rfl) am_nil)) (fun as e => ⟨_, _, e, by decide +kernel⟩)) _ G H (pw.refl sm) (env0 (N := ["a", "b", "c"]) hda) Q
  refine bm_retD (em_is (em_eqD (d := .list (kinD (some "NoShare"))) (d' := .list [.str "NoShare", .bool true]) hr ((kin_shp (by decide +kernel)).shaped (by decide)) ((kin_shp (x := "NoShare") (by decide +kernel)).shaped (by decide)) (em_refW (kk := 8) (q := qFu) (pre := fun as => ∃ y, as = [ptD (1 / 2) (1 / 2), .tuple [.int 2, .int 4], y]) (o := some "NoShare") Fr TB rfl rfl sb (inw _ (by decide)) hr (fun fl c => ?_) (am_cons (em_tup (am_cons (em_fr (j := 2) (1 / 2) (by decide +kernel)) (am_cons (em_fr (j := 2) (1 / 2) (by decide +kernel)) am_nil))) (am_cons (em_tup (am_cons em_int (am_cons em_int am_nil))) (am_cons em_int am_nil))) (fun as e => ⟨by rw [e]; rfl, _, e⟩) (by decide +kernel) (fun _ => rfl)) (em_lst (am_cons em_str (am_cons em_bl am_nil)))) (congrArg PyData.bool (kin_same (by decide +kernel))))
  refine cal_lam (k := 7) (N := ["a", "b", "c"]) (ps := ["a", "b", "c"]) (NdefX.nscope_by (by decide +kernel)) (fun pm ctv us hl => match us, hl with | [_, _, _], _ => rfl) (fun vs H Q E ⟨G, as, sm, hd, ⟨y, e⟩, _⟩ => by rw [hd.len, e]; rfl) fun A outer s H vs Q E hr ⟨G, as, sm, hda, ⟨y, e⟩, _, hE⟩ => ?_
  subst e
  exact (rm_make (X := lcx _ _ _ _ _ _ _ _ _ A outer s H E) (W := pw) (G0 := G) (H0 := H) (ds := [.dat (ptD (1 / 2) (1 / 2)), .dat (.tuple [.int 2, .int 4]), .dat y]) M FIs bI hr mK (tk_lcx fun G' H' r => hE _ G' H' rfl r) (am_cons (em_var 0 rfl) (am_cons (em_var 1 rfl) am_nil)) (fun as e => ⟨_, _, e, parts_rt halfQ, by decide +kernel⟩)) _ G H (pw.refl sm) (env0 (N := ["a", "b", "c"]) hda) Q
end
end Pb
namespace Dn
open PySem PySem.Spec PyProof.Rows L2 LamX
/-- x.m(), kept tubs changed, the slot's value known -/
theorem ue_meth0 {X : Cx} {q : Kq} {pt : PyData} {ms ss : List PyData} {p2 p3 p4 : Pos} (i : Nat) {x m : Str} {k : Nat} {ps : List Str} {pre : KPre} {post : KPost} {pl : Sem Bool} (T : KCl X.K) (hq : q.C = kC X.K) (F : Mk1 X.prog X.w X.K X.mg X.base m k ps (spM pre post)) (hr : Room k X.A) {σ : L2.St} {G H : Hp} {Q : VK} (hσ : σ[i]? = some (some (.ref q.o))) (sm : Same G H) (hk : KqAt X.K pwk G H q pt ms ss) (hp : pre pt ms ss []) (hm : ¬ m = "parts" ∧ ¬ m = "made" ∧ ¬ m = "shares")
    (kk : ∀ v d ms' ss' G2 H2, Stp G (offK q H) G2 H2 → KqAt X.K pwk G2 H2 q pt ms' ss' → post pt ms ss [] ms' ss' d → Q v H2) (hN : X.N[i]? = some x := by rfl) (hv : Vis X.env.scope x := by first | exact Or.inl rfl | exact Or.inr (Or.inl rfl) | exact Or.inr (Or.inr rfl)) (hd : (x == ("__debug__" : Str)) = false := by decide) (hcd : (x == ("__classdict__" : Str)) = false := by decide)
    (ht : eval (.Call (.Attribute (.Name x p2) m p3) [] [] p4) X.env = (do
      let ov ← eval (.Name x p2) X.env
      standAt p3.atName
      let (f, first) ← holding [ov] (getMethod ov m pl)
      callWith p4 f first (backTo p4 (starEach [] X.env)) (backToKw p4 (keywordEach [] X.env))) := by rfl) : uE X (.Call (.Attribute (.Name x p2) m p3) [] [] p4) σ H Q := by
  obtain ⟨f, fd, Gf, hM, hb⟩ := F.ex
  obtain ⟨vp, us, vs, h1, _⟩ := id hk.ex
  exact ⟨_, pe_meth0 (C := kC X.K) (pl := pl) (pv i hN hv hd hcd) T.cl hM Gf hr hb .nil pass0 ht, .ref q.o, hσ, q.o, q.dx, _, rfl, by rw [h1, hq], kfs_no q vp hm.1 hm.2.1 hm.2.2, G, q, pt, ms, ss, [], [], rfl, hq, sm, hk, .nil, hp, fun v d ms' ss' G2 H2 st hk2 _ hpo => kk v d ms' ss' G2 H2 st hk2 hpo⟩
theorem Fk.at {α : Type} {g : α → KSp} {P : Program} {w : World} {K : PySem.W.Frag} {mg : Str → Option Value} {base : Heap} {x : Str} {k : Nat} {ps : List Str} (F : Fk P w K mg base x k ps (spEx g)) (v : α) : Fk P w K mg base x k ps (g v) := by
  obtain ⟨f, fd, h1, h2, h3⟩ := F.ex
  exact ⟨f, fd, h1.imp fun vs H Q E h => ⟨v, h⟩, h2, h3⟩
end Dn
namespace Pb
open PySem PySem.Spec PyProof.Rows L2 Dn LamX
abbrev pLw : He.Defn := ("law", none)
abbrev qLw : Str := "law" ++ ".<locals>." ++ "<lambda>"
abbrev kS (k : Kq) (p q s : Rat) (r : List Pour) : Sl := .kep k (ptD p q) (r.map Pour.d) ((shS p q s r).map rt)
abbrev SK (K : PySem.W.Frag) (a : Addr) (ns : List Int) (b : Addr) (p q s : Rat) (r : List Pour) (k o : Sl) (t : List Sl) : List Sl := .scr K a ns :: .raw (.ref b) :: .dat (ptD p q) :: .dat (rt s) :: .dat (rowD r) :: k :: o :: t
theorem foot5 {K : PySem.W.Frag} {a : Addr} {ns : List Int} {b : Addr} {p q s : Rat} {r : List Pour} {k o : Sl} {x7 x8 x9 x10 : Sl} {c : Kq} (ho : ∀ z ∈ o.foot, z ≠ c.lm ∧ z ≠ c.ls) (h7 : x7.foot = []) (h8 : x8.foot = []) (h9 : x9.foot = []) (h10 : x10.foot = []) : ∀ (j : Nat) (u : Sl), j ≠ 5 → (SK K a ns b p q s r k o [x7, x8, x9, x10])[j]? = some u → ∀ z ∈ u.foot, z ≠ c.lm ∧ z ≠ c.ls := fun j u hj hu z hz => by
  match j, hj, hu with
  | 0, _, hu => cases hu; cases hz
  | 1, _, hu => cases hu; cases hz
  | 2, _, hu => cases hu; cases hz
  | 3, _, hu => cases hu; cases hz
  | 4, _, hu => cases hu; cases hz
  | 6, _, hu => cases hu; exact ho z hz
  | 7, _, hu => cases hu; rw [h7] at hz; cases hz
  | 8, _, hu => cases hu; rw [h8] at hz; cases hz
  | 9, _, hu => cases hu; rw [h9] at hz; cases hz
  | 10, _, hu => cases hu; rw [h10] at hz; cases hz
  | j + 11, _, hu => simp [SK] at hu
theorem foot6 {K : PySem.W.Frag} {a : Addr} {ns : List Int} {b : Addr} {p q s : Rat} {r : List Pour} {k o : Sl} {x7 x8 x9 x10 : Sl} {c : Kq} (ho : ∀ z ∈ k.foot, z ≠ c.lm ∧ z ≠ c.ls) (h7 : x7.foot = []) (h8 : x8.foot = []) (h9 : x9.foot = []) (h10 : x10.foot = []) : ∀ (j : Nat) (u : Sl), j ≠ 6 → (SK K a ns b p q s r k o [x7, x8, x9, x10])[j]? = some u → ∀ z ∈ u.foot, z ≠ c.lm ∧ z ≠ c.ls := fun j u hj hu z hz => by
  match j, hj, hu with
  | 0, _, hu => cases hu; cases hz
  | 1, _, hu => cases hu; cases hz
  | 2, _, hu => cases hu; cases hz
  | 3, _, hu => cases hu; cases hz
  | 4, _, hu => cases hu; cases hz
  | 5, _, hu => cases hu; exact ho z hz
  | 7, _, hu => cases hu; rw [h7] at hz; cases hz
  | 8, _, hu => cases hu; rw [h8] at hz; cases hz
  | 9, _, hu => cases hu; rw [h9] at hz; cases hz
  | 10, _, hu => cases hu; rw [h10] at hz; cases hz
  | j + 11, _, hu => simp [SK] at hu
theorem cut_last0 (r : List Pour) : Dn.cutD (r.map Pour.d) none (some (-1)) = r.dropLast.map Pour.d := by
  unfold Dn.cutD
  have h1 : HT.sIx (r.map Pour.d).length 0 none = 0 := rfl
  have h2 : HT.sIx (r.map Pour.d).length (r.map Pour.d).length (some (-1)) = r.length - 1 := by
    unfold HT.sIx
    rw [List.length_map]
    simp
    omega
  rw [h1, h2, List.drop_zero, Nat.sub_zero, List.dropLast_eq_take, List.map_take]
theorem eqv_rn (r : List Pour) : PyData.eqv (rowD r) (.tuple []) = decide (r = []) := by
  cases r with
  | nil => simp [PyData.eqv, PyData.eqvAll]
  | cons x r => simp [PyData.eqv, PyData.eqvAll]
theorem eqv_ln (r : List Pour) : PyData.eqv (.list (r.map Pour.d)) (.list []) = decide (r = []) := by
  cases r with
  | nil => simp [PyData.eqv, PyData.eqvAll]
  | cons x r => simp [PyData.eqv, PyData.eqvAll]
theorem Shp.pt (p q : Rat) : Shp 2 (ptD p q) := .tup fun d hd => by
  simp only [List.mem_cons, List.not_mem_nil, or_false] at hd
  rcases hd with rfl | rfl <;> exact .rt _
theorem Shp.ms (r : List Pour) : Shp 1 (.list (r.map Pour.d)) := .lst fun d hd => by
  obtain ⟨x, _, rfl⟩ := List.mem_map.mp hd
  exact .pour x
theorem Shp.ss (xs : List Rat) : Shp 2 (.list (xs.map Pb.rt)) := .lst fun d hd => by
  obtain ⟨x, _, rfl⟩ := List.mem_map.mp hd
  exact Shp.rt x
theorem ksh (p q s : Rat) (r : List Pour) : KSh (ptD p q) (r.map Pour.d) ((shS p q s r).map rt) := ⟨(Shp.pt p q).shaped (by decide), (Shp.ms r).shaped (by decide), (Shp.ss _).shaped (by decide)⟩
section
variable {P : Program} {w : World} {K : PySem.W.Frag} {mg : Str → Option Value} {base : Heap} {f : Addr} {fd : FuncData}
def spLaw (K : PySem.W.Frag) : Sp := fun vs H Q _ => ∃ (a : Addr) (ns : List Int), vs = [.ref a] ∧ H (He.cT K pLw).2 = some (.tbl #[]) ∧ H (He.cT K pFu).2 = some (.tbl #[]) ∧ SqL K H a (ns.map V.int) ∧ ∀ H', Q (.bl true) H'
abbrev N10 : List Str := ["script", "bag", "parts", "share", "row", "kept", "other", "turn", "kin", "odd", "pour"]
theorem seq_off2 {K : PySem.W.Frag} {H : Hp} {a P1 P2 : Addr} {xs : List V} {p1 p2 : Array Value} (h : SqL K H a xs) (h1 : H P1 = some (.tbl p1)) (h2 : H P2 = some (.tbl p2)) : SqL K (fun x => if x = P1 ∨ x = P2 then none else H x) a xs := by
  have ne : ∀ o : HO, H a = some o → (∀ q, o ≠ .tbl q) → (fun x => if x = P1 ∨ x = P2 then none else H x) a = some o := fun o e n => by
    have : ¬ (a = P1 ∨ a = P2) := fun z => by
      rcases z with z | z
      · rw [z, h1] at e
        exact n p1 (Option.some.inj e).symm
      · rw [z, h2] at e
        exact n p2 (Option.some.inj e).symm
    show (if a = P1 ∨ a = P2 then none else H a) = some o
    rw [if_neg this, e]
  rcases h with (h | ⟨o, h⟩) | h
  · exact .inl (.inl (ne _ h fun q z => nomatch z))
  · exact .inl (.inr ⟨o, ne _ h fun q z => nomatch z⟩)
  · exact .inr h
theorem tab_nil {P1 : Addr} {q : Str} {G H : Hp} (h : H P1 = some (.tbl #[])) : TabG P1 q G H := ⟨#[], h, True.intro, fun pos cv hc => by
  have z : codeAmong pos [] = some cv := hc
  simp [codeAmong] at z⟩
theorem ok_law {fI : Addr} {fdI : FuncData} (F : FunD K "law" "law" (defArgs s_law) (defBody s_law) (defScope s_law) [] [] (He.fAd K pLw) fd) (TB : TabB base mg (He.cT K pLw).1 (He.cT K pLw).2) (ne : (He.cT K pLw).2 ≠ (He.cT K pFu).2) (B : Bi mg) (J : Bj mg)
    (T : KCl K) (Y : KTy K) (hnf : PySem.W.notFirst K (kC K) (.type "tuple") = true) (M : Mk K (kC K) fI) (mK : mg "Kept" = some (.ref (kC K))) (FI : FnO P w K mg base 6 fI fdI ["self", "parts", "share"] (spI fun pt sh => arePartsD pt = true ∧ isShareD sh = true)) (bI : Binds K fdI ["self", "parts", "share"] [])
    (Mp : Mk1 P w K mg base "pour" 5 ["self", "pour"] sp_kpour) (Mpx : Mx1 P w K mg base "pour" 2 ["self", "pour"] (spMX (fun _ _ _ as => ∃ d, as = [d] ∧ SeqAt.shaped d = true ∧ isPourD d = false) "NoPour")) (Mb : Mk1 P w K mg base "back" 1 ["self"] sp_kback) (Mbx : Mx1 P w K mg base "back" 1 ["self"] (spMX (fun _ ms _ as => as = [] ∧ ms = []) "NothingLeft"))
    (Ms : Mk1 P w K mg base "share" 1 ["self"] sp_kshare) (Md : Mk1 P w K mg base "poured" 4 ["self"] sp_kpoured) (Me : Mk1 P w K mg base "__eq__" 1 ["self", "other"] spEqK) (Mt : Mk1 P w K mg base "__eq__" 1 ["self", "other"] spEqT)
    (Fb : Fk P w K mg base "_law_bags" 3 ["script", "limit"] spBags) (Ft : Fk P w K mg base "_law_take" 1 ["bag", "many"] sp_take) (F2 : Fk P w K mg base "_law_two_parts" 4 ["bag"] sp_two_parts) (Fs : Fk P w K mg base "_law_a_share" 3 ["bag"] sp_a_share)
    (Fr : Fk P w K mg base "_law_refused" 9 ["call", "one", "two", "three"] (spRf P w mg base 8)) (FrN : Fk P w K mg base "_law_refused" 9 ["call", "one", "two", "three"] (spRfN P w mg base 8)) (Fst : Fk P w K mg base "_law_stands" 6 ["kept", "parts", "share", "row"] sp_stands) (Ffu : Fk P w K mg base "_law_full_right" 10 [] sp_full) : FnO P w K mg base 11 (He.fAd K pLw) fd ["script"] spLaw := by
  refine okC F sc_law (fun vs H Q E ⟨a, ns, e, _⟩ => by rw [e]; rfl) fun A outer sh H vs Q E hr ⟨a, ns, e, hT1, hT2, hS, q⟩ => ?_
  subst e
  suffices main : ∃ t, PSs (Cx0 P w K mg base N10 "law" (defScope s_law) (He.fAd K pLw) (.ref (He.codeOf K pLw)) A outer sh H E) (defBody s_law) t ∧ t { nx := fun _ H' => Q .non H', rt := Q } (L2.start N10 [.ref a]) H by
    obtain ⟨t, ht, h⟩ := main
    exact ⟨t, ht.nox, h⟩
  have nmp : ¬ (("pour" : Str) = "parts") ∧ ¬ (("pour" : Str) = "made") ∧ ¬ (("pour" : Str) = "shares") := by decide +kernel
  have nmb : ¬ (("back" : Str) = "parts") ∧ ¬ (("back" : Str) = "made") ∧ ¬ (("back" : Str) = "shares") := by decide +kernel
  have sh1 : ∀ x : Rat, SeqAt.shaped (rt x) = true := fun x => (Shp.rt x).shaped (by decide)
  have shr : ∀ x : List Pour, SeqAt.shaped (rowD x) = true := fun x => (Shp.row x).shaped (by decide)
  have sh0 : SeqAt.shaped (.tuple []) = true := by decide +kernel
  have sl0 : Shp 1 (.list []) := .lst fun d hd => by cases hd
  refine law_loopX (m := 11) (mi_2 (He.cT K pLw).2 (He.cT K pFu).2 qLw qFu) bag_2 (G := fun x => if x = (He.cT K pLw).2 ∨ x = (He.cT K pFu).2 then none else H x) Fb (hr.mono (by decide)) (by decide) rfl (by decide) rfl (fun b o e => ?_) (seq_off2 hS hT1 hT2) (fun c hc => ?_) ⟨tab_nil hT1, tab_nil hT2⟩ q ?body ?rest PassesOwn.never rfl sc_law.nd
  · have e : (if b = (He.cT K pLw).2 ∨ b = (He.cT K pFu).2 then none else H b) = some o := e
    by_cases c : b = (He.cT K pLw).2 ∨ b = (He.cT K pFu).2
    · rw [if_pos c] at e
      cases e
    · rw [if_neg c] at e
      exact e
  · refine ⟨if_pos hc, ?_⟩
    rcases hc with rfl | rfl
    · rw [hT1]; exact fun z => nomatch z
    · rw [hT2]; exact fun z => nomatch z
  case rest =>
    intro bs G1 H1
    exact bm_retD (em_callT0 (p := pFu) (q := qFu) (pre := fun _ => True) (post := fun _ d => d = .bool true) Ffu hr ((sub_tab2 (q1 := qLw) (q2 := qFu) ne).trans (sub_ltab bs (mi_2 (He.cT K pLw).2 (He.cT K pFu).2 qLw qFu))) trivial)
  case body =>
    intro b G1 H1 ok
    refine bm_flN (N' := fun ds' => ds'.length = 11 ∧ ds'[0]? = some (.scr K a ns)) ?_ (fun ds' ⟨h1, h2⟩ => ⟨by rw [List.length_map]; exact h1, by rw [List.getElem?_map, h2]; rfl⟩) rfl
    have kb := (subx_bag b (mi_2 (He.cT K pLw).2 (He.cT K pFu).2 qLw qFu) bag_2).k
    have k1 := ((sub_tab1 (q1 := qLw) (q2 := qFu) ne).trans (subx_tab b (mi_2 (He.cT K pLw).2 (He.cT K pFu).2 qLw qFu) bag_2)).k
    refine bm_par3 2 3 4 (Pa := fun as => ∃ p q s, as = [ptD p q, rt s, rowD []] ∧ Parts p q ∧ Drawn s) (am_subK kb (am_cons' (Pa := fun d => ∃ p q, d = ptD p q ∧ Parts p q) (Pr := fun us => ∃ s, us = [rt s, rowD []] ∧ Drawn s) (em_callB (n := 1) F2 (hr.mono (by decide)) rfl am_nil fun as e => ⟨e, fun d h => h⟩) (am_cons' (Pa := fun d => ∃ s, d = rt s ∧ Drawn s) (Pr := (· = [rowD []])) (em_callB (n := 1) Fs (hr.mono (by decide)) rfl am_nil fun as e => ⟨e, fun d h => h⟩) (am_cons (em_is (em_tup am_nil) rfl) am_nil) fun u us ⟨s, hu, hs⟩ hus => ⟨s, by rw [hu, hus], hs⟩) fun u us ⟨p, q, hu, hp⟩ ⟨s, hus, hs⟩ => ⟨p, q, s, by rw [hu, hus], hp, hs⟩)) (fun as ⟨p, q, s, e, hp, hd⟩ => ⟨_, _, _, e, ?_⟩) rfl sc_law.nd
    have hs := hd.share
    refine bm_make2 5 6 M FI bI (hr.mono (by decide)) mK rfl (am_cons (em_var 2 rfl) (am_cons (em_var 3 rfl) am_nil)) (am_cons (em_var 2 rfl) (am_cons (em_var 3 rfl) am_nil)) ⟨parts_rt hp, share_rt hs⟩ ⟨parts_rt hp, share_rt hs⟩ (fun k o hC hC' m1 m2 m3 m4 d1 d2 _ => ?_) rfl sc_law.nd
    show Bm _ _ _ _ (SK K a ns b p q s [] (kS k p q s []) (kS o p q s []) [.un, .un, .un, .un]) _ _ _ _ _
    refine bm_forRE (N1 := fun ds' => ∃ r x7 x8 x9 x10, r.length ≤ 60 ∧ (x7.foot = [] ∧ x8.foot = [] ∧ x9.foot = [] ∧ x10.foot = []) ∧ ds' = SK K a ns b p q s r (kS k p q s r) (kS o p q s r) [x7, x8, x9, x10]) 7 60 (by decide) (em_subK kb (em_mono (em_callB (n := 1) (P := isIn 61) Ft (hr.mono (by decide)) rfl (am_cons em_int am_nil) fun as e => ⟨⟨61, e, by decide⟩, fun d hd => hd 61 e⟩) fun d ⟨z, e, z0, z1⟩ => ⟨z, e, z0, by omega⟩)) (fun n ds' => ∃ r x7 x8 x9 x10, r.length ≤ n ∧ (x7.foot = [] ∧ x8.foot = [] ∧ x9.foot = [] ∧ x10.foot = []) ∧ ds' = SK K a ns b p q s r (kS k p q s r) (kS o p q s r) [x7, x8, x9, x10]) ⟨[], _, _, _, _, Nat.le_refl _, ⟨rfl, rfl, rfl, rfl⟩, rfl⟩ PassesOwn.never rfl (fun n ds' hn ⟨r, x7, x8, x9, x10, hl, ⟨f7, f8, f9, f10⟩, e⟩ => ?_) (fun n ds' hn ⟨r, x7, x8, x9, x10, hl, h⟩ => ⟨r, x7, x8, x9, x10, by omega, h⟩) (fun ds' ⟨r, x7, x8, x9, x10, hl, ⟨f7, f8, f9, f10⟩, e⟩ => ?_) J.range sc_law.nd
    · subst e
      show Bm _ _ _ _ (SK K a ns b p q s r (kS k p q s r) (kS o p q s r) [.dat (.int n), x8, x9, x10]) _ _ _ _ _
      refine bm_if' (N1 := fun ds' => ∃ r x8 x9 x10, r.length ≤ n + 1 ∧ (x8.foot = [] ∧ x9.foot = [] ∧ x10.foot = []) ∧ ds' = SK K a ns b p q s r (kS k p q s r) (kS o p q s r) [.dat (.int n), x8, x9, x10]) (Pc := fun _ => True) (tm_subK kb (tm_eqI' (em_callB (n := 1) (P := isIn 4) Ft (hr.mono (by decide)) rfl (am_cons em_int am_nil) fun as e => ⟨⟨4, e, by decide⟩, fun d hd => hd 4 e⟩) em_int fun u v ⟨t, hu, _⟩ hv => ⟨t, 0, hu, hv, trivial⟩)) (fun _ => ?_) (fun _ => ?_) (fun ds' ⟨r, x8, x9, x10, hl, ⟨f8, f9, f10⟩, e⟩ => ?_)
      · by_cases hr0 : r = []
        · subst hr0
          refine bm_set (d := .list (kinD (some "NothingLeft"))) 8 (em_refKX 5 (kk := 8) (q := qLw) (d := .int 0) (wd := "NothingLeft") Fr TB rfl rfl k1 (by decide) (hr.mono (by decide)) (fun fl c => ?_) rfl (am_cons' (P := fun xs => ∃ y, xs = [.int 0, y]) em_int (am_cons em_int am_nil) fun x xs e1 e2 => ⟨.int 0, by rw [e1, e2]⟩) (by decide +kernel) (fun _ => rfl)) ?_ sc_law.nd
          · refine cal_lam (k := 7) (N := ["a", "b", "c"]) (ps := ["a", "b", "c"]) (NdefX.nscope_by (by decide +kernel)) (fun pm ctv us hl => match us, hl with | [_, _, _], _ => rfl) (fun vs H Q E ⟨v2, v3, G, e, _⟩ => by rw [e]; rfl) fun A outer s' H vs Q E hr ⟨v2, v3, G, e, sm, hk, hd, hE⟩ => ?_
            subst e
            exact (rm_meth0 (X := lcx _ _ _ _ _ _ _ _ _ A outer s' H E) (W := pwk) (G0 := G) (H0 := H) (ds := [kS k p q s [], .dat (.int 0), .raw v3]) 0 T hC rfl Mbx (hr.mono (by decide)) (tk_lcx fun G' H' r => hE G' H' r) ⟨rfl, rfl⟩ nmb) _ G H (pwk.refl sm) (env_lam hk hd) Q
          refine bm_ifR (x := false) (tm_mono (tm_neD (d := .list (kinD (some "NothingLeft"))) (d' := .list [.str "NothingLeft", .bool true]) hr ((kin_shp (by decide +kernel)).shaped (by decide)) ((kin_shp (x := "NothingLeft") (by decide +kernel)).shaped (by decide)) (em_var 8 rfl) (em_ifE (x := true) (tm_mono (tm_eqD (d := rowD []) (d' := .tuple []) hr (shr _) sh0 (em_var 4 rfl) (em_tup am_nil)) fun _ e => e.trans (eqv_rn [])) (fun _ => em_lst (am_cons em_str (am_cons em_bl am_nil))) fun h => nomatch h)) fun _ e => by rw [e, kin_same (by decide +kernel)]; rfl) (fun h => nomatch h) fun _ => ?_
          refine bm_if' (N1 := fun ds' => ds' = SK K a ns b p q s [] (kS k p q s []) (kS o p q s []) [.dat (.int n), .dat (.list (kinD (some "NothingLeft"))), x9, x10]) (Pc := (· = false)) (tm_mono (tm_neD (d := rowD []) (d' := .tuple []) hr (shr _) sh0 (em_var 4 rfl) (em_tup am_nil)) fun _ e => e.trans (by rw [eqv_rn]; rfl)) (fun h => nomatch h) (fun _ => bm_nil rfl) fun ds' e => ?_
          subst e
          exact bm_set (d := rowD []) 4 (em_is (em_sliceT (em_var 4 rfl) om_none (om_some (em_neg em_int))) (congrArg PyData.tuple (cut_last0 []))) (bm_nil ⟨[], _, _, _, Nat.zero_le _, ⟨rfl, f9, f10⟩, rfl⟩) sc_law.nd
        · have hne : r.map Pour.d ≠ [] := fun z => hr0 (List.map_eq_nil_iff.mp z)
          have hne2 : (shS p q s r).map rt ≠ [] := fun z => by
            have := congrArg List.length z
            rw [List.length_map, shS_len] at this
            cases this
          have dm : (r.map Pour.d).dropLast = r.dropLast.map Pour.d := by rw [List.map_dropLast]
          have ds1 : ((shS p q s r).map rt).dropLast = (shS p q s r.dropLast).map rt := by rw [← List.map_dropLast, shS_drop hr0]
          refine bm_refN 8 5 (kk := 8) (q := qLw) (ms' := r.dropLast.map Pour.d) (ss' := (shS p q s r.dropLast).map rt) FrN TB rfl rfl k1 (hr.mono (by decide)) (fun fl c => ?_) rfl (am_cons' (Pa := fun _ => True) (Pr := fun xs => xs.length = 1) (em_mono em_int fun _ _ => trivial) (am_cons' (Pa := fun _ => True) (Pr := (· = [])) (em_mono em_int fun _ _ => trivial) am_nil fun _ xs _ e => by rw [e]; rfl) fun _ xs _ e => by rw [List.length_cons, e]) m1 m2 (foot5 d2 rfl f8 f9 f10) ?_ (by decide +kernel) (fun _ => rfl) sc_law.nd
          · refine cal_lam (k := 7) (N := ["a", "b", "c"]) (ps := ["a", "b", "c"]) (NdefX.nscope_by (by decide +kernel)) (fun pm ctv us hl => match us, hl with | [_, _, _], _ => rfl) (fun vs H Q E ⟨v2, v3, G, e, _⟩ => by rw [e]; rfl) fun A outer s' H vs Q E hr ⟨v2, v3, G, e, sm, hk, hq⟩ => ?_
            subst e
            exact ue_meth0 (X := lcx _ _ _ _ _ _ _ _ _ A outer s' H E) 0 T hC Mb (hr.mono (by decide)) rfl sm hk ⟨rfl, hne, hne2⟩ nmb fun v d ms' ss' G2 H2 st hk2 ⟨e1, e2⟩ => by
              rw [e1, e2, dm, ds1] at hk2
              exact hq v G2 H2 st hk2
          show Bm _ _ _ _ (SK K a ns b p q s r (kS k p q s r.dropLast) (kS o p q s r) [.dat (.int n), .dat (.list []), x9, x10]) _ _ _ _ _
          refine bm_ifR (x := false) (tm_mono (tm_neD (d := .list []) (d' := .list []) hr (sl0.shaped (by decide)) (sl0.shaped (by decide)) (em_var 8 rfl) (em_ifE (x := false) (tm_mono (tm_eqD (d := rowD r) (d' := .tuple []) hr (shr _) sh0 (em_var 4 rfl) (em_tup am_nil)) fun _ e => e.trans (by rw [eqv_rn]; exact decide_eq_false hr0)) (fun h => nomatch h) fun _ => em_lst am_nil)) fun _ e => e.trans (neq_same sl0)) (fun h => nomatch h) fun _ => ?_
          refine bm_if' (N1 := fun ds' => ds' = SK K a ns b p q s r (kS k p q s r.dropLast) (kS o p q s r.dropLast) [.dat (.int n), .dat (.list []), x9, x10]) (Pc := (· = true)) (tm_mono (tm_neD (d := rowD r) (d' := .tuple []) hr (shr _) sh0 (em_var 4 rfl) (em_tup am_nil)) fun _ e => e.trans (by rw [eqv_rn, decide_eq_false hr0]; rfl)) (fun _ => bm_methN 6 T hC' rfl Mb (hr.mono (by decide)) ⟨rfl, hne, hne2⟩ m3 m4 (foot6 d1 rfl rfl f9 f10) nmb fun ms' ss' d ⟨e1, e2⟩ => bm_nil (by rw [e1, e2, dm, ds1]; rfl)) (fun h => nomatch h) fun ds' e => ?_
          subst e
          refine bm_set (d := rowD r.dropLast) 4 (em_is (em_sliceT (em_var 4 rfl) om_none (om_some (em_neg em_int))) (congrArg PyData.tuple (cut_last0 r))) (bm_nil ⟨r.dropLast, _, _, _, ?_, ⟨rfl, f9, f10⟩, rfl⟩) sc_law.nd
          rw [List.length_dropLast]
          omega
      · refine bm_forT (N1 := fun ds' => ∃ x9, x9.foot = [] ∧ ds' = SK K a ns b p q s r (kS k p q s r) (kS o p q s r) [.dat (.int n), x8, x9, x10]) 9 (as := [.none, .str "up", .str "", .int 1, .tuple [.str "left"], .str "Left"]) (em_tup (am_cons em_non (am_cons em_str (am_cons em_str (am_cons em_int (am_cons (em_tup (am_cons em_str am_nil)) (am_cons em_str am_nil))))))) (fun _ ds' => ∃ x9, x9.foot = [] ∧ ds' = SK K a ns b p q s r (kS k p q s r) (kS o p q s r) [.dat (.int n), x8, x9, x10]) ⟨_, f9, rfl⟩ PassesOwn.never rfl (fun m d ds' hdd ⟨x9, _, e⟩ => ?_) (fun _ h => h) (fun ds' ⟨x9, f9, e⟩ => ?_) sc_law.nd
        · subst e
          have hdm := List.mem_of_getElem? hdd
          have hd2 : SeqAt.shaped d = true ∧ isPourD d = false := by
            simp only [List.mem_cons, List.not_mem_nil, or_false] at hdm
            rcases hdm with rfl | rfl | rfl | rfl | rfl | rfl <;> exact ⟨by decide +kernel, by decide +kernel⟩
          refine bm_ifR (x := false) (tm_mono (tm_neD (d := .list (kinD (some "NoPour"))) (d' := .list [.str "NoPour", .bool true]) hr ((kin_shp (by decide +kernel)).shaped (by decide)) ((kin_shp (x := "NoPour") (by decide +kernel)).shaped (by decide)) (em_refKX 5 (kk := 8) (q := qLw) (d := d) (wd := "NoPour") Fr TB rfl rfl k1 (by decide) (hr.mono (by decide)) (fun fl c => ?_) rfl (am_cons' (P := fun xs => ∃ y, xs = [d, y]) (em_var 9 rfl) (am_cons em_int am_nil) fun x xs e1 e2 => ⟨.int 0, by rw [e1, e2]⟩) (by decide +kernel) (fun _ => rfl)) (em_lst (am_cons em_str (am_cons em_bl am_nil)))) fun _ e => by rw [e, kin_same (by decide +kernel)]; rfl) (fun h => nomatch h) fun _ => bm_nil ⟨.dat d, rfl, rfl⟩
          refine cal_lam (k := 7) (N := ["a", "b", "c"]) (ps := ["a", "b", "c"]) (NdefX.nscope_by (by decide +kernel)) (fun pm ctv us hl => match us, hl with | [_, _, _], _ => rfl) (fun vs H Q E ⟨v2, v3, G, e, _⟩ => by rw [e]; rfl) fun A outer s' H vs Q E hr ⟨v2, v3, G, e, sm, hk, hd, hE⟩ => ?_
          subst e
          exact (rm_meth (X := lcx _ _ _ _ _ _ _ _ _ A outer s' H E) (W := pwk) (G0 := G) (H0 := H) (ds := [kS k p q s r, .dat d, .raw v3]) 0 T hC rfl Mpx (hr.mono (by decide)) (tk_lcx fun G' H' r => hE G' H' r) (am_cons (em_var 1 rfl) am_nil) (fun as e => ⟨d, e, hd2.1, hd2.2⟩) nmp) _ G H (pwk.refl sm) (env_lam hk hd) Q
        subst e
        refine bm_set' (P := fun d => ∃ y : Pour, d = y.d) 10 (em_subK kb (em_ixL' (Pa := (· = .list [.str "right", .str "left"])) (em_lst (am_cons em_str (am_cons em_str am_nil))) (em_callB (n := 1) (P := isIn 2) Ft (hr.mono (by decide)) rfl (am_cons em_int am_nil) fun as e => ⟨⟨2, e, by decide⟩, fun d hd => hd 2 e⟩) fun u v hu ⟨i, hv, i0, i1⟩ => ?_)) (fun d ⟨y, e⟩ => ?_) sc_law.nd
        · have hi : i = 0 ∨ i = 1 := by omega
          rcases hi with rfl | rfl
          · exact ⟨_, _, _, hu, hv, rfl, .right, rfl⟩
          · exact ⟨_, _, _, hu, hv, rfl, .left, rfl⟩
        subst e
        refine bm_set (d := rowD (r ++ [y])) 4 (em_is (em_catT (by rw [List.length_map]; show r.length + 1 ≤ 1000; omega) (em_var 4 rfl) (em_tup (am_cons (em_var 10 rfl) am_nil))) (by show PyData.tuple (r.map Pour.d ++ [y.d]) = .tuple ((r ++ [y]).map Pour.d); rw [List.map_append]; rfl)) ?_ sc_law.nd
        have kvo := kvS_ok hp hs (r := r) (by omega)
        have em : (kvS p q s r).mD ++ [y.d] = (r ++ [y]).map Pour.d := by rw [List.map_append]; rfl
        have es : (kvS p q s r).sD ++ [rt (pour1 p q (pours p q s r) y)] = (shS p q s (r ++ [y])).map rt := by rw [kvS_sD, shS_snoc, List.map_append, pours_snoc]; rfl
        refine bm_meth 5 T hC rfl (Mp.at (kvS p q s r, y)) (hr.mono (by decide)) (Pa := (· = [y.d])) (am_cons (em_var 10 rfl) am_nil) (fun as e => ⟨rfl, rfl, kvS_sD.symm, e, kvo, by show r.length < 100; omega⟩) m1 m2 (foot5 d2 rfl f8 f9 rfl) nmp fun as ms' ss' d e ⟨e1, e2, _⟩ => ?_
        rw [e1, e2, em, es]
        show Bm _ _ _ _ (SK K a ns b p q s (r ++ [y]) (kS k p q s (r ++ [y])) (kS o p q s r) [.dat (.int n), x8, x9, .dat y.d]) _ _ _ _ _
        refine bm_meth 6 T hC' rfl (Mp.at (kvS p q s r, y)) (hr.mono (by decide)) (Pa := (· = [y.d])) (am_cons (em_var 10 rfl) am_nil) (fun as e => ⟨rfl, rfl, kvS_sD.symm, e, kvo, by show r.length < 100; omega⟩) m3 m4 (foot6 d1 rfl f8 f9 rfl) nmp fun as ms' ss' d e ⟨e1, e2, _⟩ => ?_
        rw [e1, e2, em, es]
        exact bm_nil ⟨r ++ [y], _, _, _, by rw [List.length_append]; show r.length + 1 ≤ n + 1; omega, ⟨f8, f9, rfl⟩, rfl⟩
      · subst e
        have sh := ksh p q s r
        refine bm_ifR (x := false) (tm_w (wm_or (x := false) (tm_notB (x := true) (tm_mono (tm_keq 5 6 T Y Me (hr.mono (by decide)) hC hC' rfl rfl sh sh) fun _ e => e.trans (by rw [eqv_same (.pt p q), eqv_same (.ss _), eqv_same (.ms _)]; rfl))) (fun h => nomatch h) fun _ => wm_or (x := false) (tm_keqT 5 Mt (hr.mono (by decide)) hC hnf rfl (em_var 3 rfl)) (fun h => nomatch h) fun _ => wm_or1 (tm_w ?_))) (fun h => nomatch h) fun _ => bm_nil ⟨r, _, _, _, _, by omega, ⟨rfl, f8, f9, f10⟩, rfl⟩
        refine wm_and (x := decide ((r.map Pour.d).length < (30 : Int))) (P := (· = false)) (tm_lt (em_len (as := r.map Pour.d) (em_mono (em_var 4 rfl) fun _ e => .inr e) B.len) em_int) (fun h => rfl) fun h => wm_and1 (tm_notB (x := true) (tm_val (em_callK 5 (Pa := (· = [ptD p q, rt s, rowD r])) hC rfl (Fst.at (AskS.mk p q s r)) (hr.mono (by decide)) (am_cons (em_var 2 rfl) (am_cons (em_var 3 rfl) (am_cons (em_var 4 rfl) am_nil))) fun as e => ⟨⟨rfl, rfl, rfl, e, hp, hs, ?_⟩, fun d h => h⟩)))
        have h := of_decide_eq_true h
        rw [List.length_map] at h
        show r.length ≤ 40
        omega
    · subst e
      have sh := ksh p q s r
      have shn := ksh p q s []
      have eqn : ∀ r : List Pour, (PyData.eqv (ptD p q) (ptD p q) && (PyData.eqv (.list ((shS p q s r).map rt)) (.list [rt s]) && PyData.eqv (.list (r.map Pour.d)) (.list []))) = decide (r = []) := fun r => by
        rw [eqv_ln]
        by_cases c : r = []
        · subst c
          rw [eqv_same (.pt p q), show (shS p q s []).map rt = [rt s] from rfl, show PyData.eqv (.list [rt s]) (.list [rt s]) = true from eqv_same (.ss [s])]
          rfl
        · rw [decide_eq_false c, Bool.and_false, Bool.and_false]
      have shb : ∀ x : Bool, SeqAt.shaped (.bool x) = true := fun x => by cases x <;> decide +kernel
      refine bm_ifR (x := false) (tm_mono (tm_neD (d := .bool (decide (r = []))) (d' := .bool (decide (r = []))) hr (shb _) (shb _) (em_is (em_keqN 5 T Y Me (hr.mono (by decide)) M FI bI (hr.mono (by decide)) mK rfl hC rfl (am_cons (em_var 2 rfl) (am_cons (em_var 3 rfl) am_nil)) ⟨parts_rt hp, share_rt hs⟩ sh shn) (congrArg PyData.bool (eqn r))) (em_is (em_eqD (d := rowD r) (d' := .tuple []) hr (shr _) sh0 (em_var 4 rfl) (em_tup am_nil)) (congrArg PyData.bool (eqv_rn r)))) fun _ e => e.trans (by cases decide (r = []) <;> simp [PyData.eqv])) (fun h => nomatch h) fun _ => ?_
      refine bm_forT (N1 := fun ds' => ∃ x10, x10.foot = [] ∧ ds' = SK K a ns b p q s r (kS k p q s []) (kS o p q s r) [x7, x8, x9, x10]) 10 (em_var 4 rfl) (fun n ds' => n ≤ r.length ∧ ∃ x10, x10.foot = [] ∧ ds' = SK K a ns b p q s r (kS k p q s (r.take (r.length - n))) (kS o p q s r) [x7, x8, x9, x10]) ⟨Nat.zero_le _, x10, f10, by rw [Nat.sub_zero, List.take_length]⟩ PassesOwn.never rfl (fun n d ds' hdd ⟨hn, x10, g10, e⟩ => ?_) (fun ds' ⟨hn, x10, g10, e⟩ => ?_) (fun ds' ⟨x10, g10, e⟩ => ?_) sc_law.nd
      · subst e
        obtain ⟨y, hy, rfl⟩ := row_at hdd
        have hn1 : n < r.length := (List.getElem?_eq_some_iff.mp hy).1
        have l1 : (r.take (r.length - n)).length = r.length - n := by rw [List.length_take]; omega
        have n0 : r.take (r.length - n) ≠ [] := fun z => by
          rw [z] at l1
          have : 0 = r.length - n := l1
          omega
        have hne : (r.take (r.length - n)).map Pour.d ≠ [] := fun z => n0 (List.map_eq_nil_iff.mp z)
        have hne2 : (shS p q s (r.take (r.length - n))).map rt ≠ [] := fun z => by
          have := congrArg List.length z
          rw [List.length_map, shS_len] at this
          cases this
        have dd : (r.take (r.length - n)).dropLast = r.take (r.length - (n + 1)) := by
          rw [List.dropLast_eq_take, l1, List.take_take]
          congr 1
          omega
        refine bm_methN 5 T hC rfl Mb (hr.mono (by decide)) ⟨rfl, hne, hne2⟩ m1 m2 (foot5 d2 f7 f8 f9 rfl) nmb fun ms' ss' d ⟨e1, e2⟩ => bm_nil ⟨by omega, .dat y.d, rfl, ?_⟩
        rw [e1, e2, ← List.map_dropLast, ← List.map_dropLast, shS_drop n0, dd]
        rfl
      · refine ⟨x10, g10, ?_⟩
        rw [e, List.length_map, Nat.sub_self]
        rfl
      · subst e
        have w3 : ∀ n, n < ([s] : List Rat).length → Smq (wayN [s] n) ∧ 0 ≤ wayN [s] n := fun n hn => by
          have : n = 0 := by
            have : n < 1 := hn
            omega
          subst this
          exact ⟨⟨Nat.pow_pos (by decide), sm1.d⟩, by show (0 : Rat) ≤ 0; decide⟩
        refine bm_ifR (x := false) (tm_w (wm_or (x := false) (tm_notB (x := true) (tm_mono (tm_keqN 5 T Y Me (hr.mono (by decide)) M FI bI (hr.mono (by decide)) mK rfl hC rfl (am_cons (em_var 2 rfl) (am_cons (em_var 3 rfl) am_nil)) ⟨parts_rt hp, share_rt hs⟩ shn shn) fun _ e => e.trans (eqn []))) (fun h => nomatch h) fun _ => wm_or (x := false) (tm_mono (tm_neD (d := rt 0) (d' := rt 0) hr (sh1 _) (sh1 _) (em_meth0 5 T hC rfl (Md.at (ptD p q, [], [s])) (hr.mono (by decide)) ⟨rfl, rfl, rfl, rfl, ?_, ?_, w3⟩ (by decide +kernel) fun d h => h) (em_is (em_tup (am_cons em_int (am_cons em_int am_nil))) rt0.symm)) fun _ e => e.trans (neq_same (.rt _))) (fun h => nomatch h) fun _ => wm_or1 (tm_mono (tm_neD (d := rt s) (d' := rt s) hr (sh1 _) (sh1 _) (em_meth0 5 T hC rfl (Ms.at (kvS p q s [])) (hr.mono (by decide)) ⟨rfl, rfl, rfl, rfl⟩ (by decide +kernel) fun d h => h) (em_var 3 rfl)) fun _ e => e.trans (neq_same (.rt _))))) (fun h => nomatch h) fun _ => bm_nil ⟨rfl, rfl⟩
        · intro x hx
          have : x = s := by simpa using hx
          subst this
          exact hs.bq.smq (Nat.lt_of_le_of_lt (Nat.le_of_eq (Nat.mul_one _).symm) (big (n := 0) (by decide)))
        · intro n x y _ hy
          simp at hy
end
end Pb
set_option maxHeartbeats 0
namespace Pb
open PySem PySem.Spec PyProof.Rows L2 Dn
theorem facts {P : Program} {w : World} {K : PySem.W.Frag} {h : Heap} {mg : Str → Option Value} {f : Addr} (X : K.In h) (G : h.Ns mainGlobals mg) (hfa : mg ("law" : Str) = some (.ref f)) (c : He.SaysD fa fn K) (ck : ksB ks K = true) (cx : xfB (["NoParts", "NoShare", "NoRow", "NoMany", "NoLefts", "NoPlace", "NoNumber", "NoDistance", "NoPour", "Full", "NothingLeft"] : List PySem.Str) "PourError" K = true) (cn : neB K = true) (cy : kxB K = true) :
    ∃ fd : FuncData, (∀ (s : Shared) (v : Value), BindsTo s fd ⟨[v], []⟩ [("script", v)]) ∧ ∀ base : Heap, K.In base → base.Ns mainGlobals mg → (∀ p ∈ tf.map (He.cT K), LamX.TabB base mg p.1 p.2) → FnO P w K mg base 11 f fd ["script"] spLaw := by
  have B : Bi mg := ⟨(He.free_ok X G (c.fact 44 (f := .free "isinstance") rfl)), (He.free_ok X G (c.fact 43 (f := .free "int") rfl)), (He.free_ok X G (c.fact 41 (f := .free "bool") rfl)), (He.free_ok X G (c.fact 50 (f := .free "tuple") rfl)), (He.free_ok X G (c.fact 45 (f := .free "len") rfl)), (He.free_ok X G (c.fact 39 (f := .free "abs") rfl)), (He.free_ok X G (c.fact 40 (f := .free "all") rfl))⟩
  have J : Bj mg := ⟨(He.free_ok X G (c.fact 48 (f := .free "range") rfl)), (He.free_ok X G (c.fact 46 (f := .free "max") rfl)), (He.free_ok X G (c.fact 47 (f := .free "min") rfl))⟩
  have C : Cn mg := ⟨He.str_ok X G (c.fact 52 (f := .str "RIGHT" "right") rfl), He.str_ok X G (c.fact 53 (f := .str "LEFT" "left") rfl), He.int_ok X G (c.fact 54 (f := .int "MOST_PART_BOTTOM" 12) rfl), He.int_ok X G (c.fact 55 (f := .int "MOST_SHARE_BOTTOM" 99999999999999999999) rfl)⟩
  have kc_NOUGHT : KC K mg "NOUGHT" [0, 1] := ⟨_, He.glo_ok X G (c.fact 37 (f := .glo "NOUGHT") rfl), ks_at ck 0⟩
  have ex_ValueError : mg "ValueError" = none := (He.free_ok X G (c.fact 38 (f := .free "ValueError") rfl))
  have ex_enumerate : mg "enumerate" = none := (He.free_ok X G (c.fact 42 (f := .free "enumerate") rfl))
  have ex_reversed : mg "reversed" = none := (He.free_ok X G (c.fact 49 (f := .free "reversed") rfl))
  have ex_zip : mg "zip" = none := (He.free_ok X G (c.fact 51 (f := .free "zip") rfl))
  obtain ⟨fd_is_whole, F_is_whole⟩ := c.def_ 0 (d := dd_is_whole) rfl
  have g_is_whole : mg ("is_whole" : Str) = some (.ref (He.ga K "is_whole")) := He.glo_ok X G (c.fact 0 (f := .glo "is_whole") rfl)
  obtain ⟨fd_common_divisor, F_common_divisor⟩ := c.def_ 1 (d := dd_common_divisor) rfl
  have g_common_divisor : mg ("common_divisor" : Str) = some (.ref (He.ga K "common_divisor")) := He.glo_ok X G (c.fact 1 (f := .glo "common_divisor") rfl)
  obtain ⟨fd_lowest, F_lowest⟩ := c.def_ 2 (d := dd_lowest) rfl
  have g_lowest : mg ("lowest" : Str) = some (.ref (He.ga K "lowest")) := He.glo_ok X G (c.fact 2 (f := .glo "lowest") rfl)
  obtain ⟨fd_is_pair, F_is_pair⟩ := c.def_ 3 (d := dd_is_pair) rfl
  have g_is_pair : mg ("is_pair" : Str) = some (.ref (He.ga K "is_pair")) := He.glo_ok X G (c.fact 3 (f := .glo "is_pair") rfl)
  obtain ⟨fd_is_fraction, F_is_fraction⟩ := c.def_ 4 (d := dd_is_fraction) rfl
  have g_is_fraction : mg ("is_fraction" : Str) = some (.ref (He.ga K "is_fraction")) := He.glo_ok X G (c.fact 4 (f := .glo "is_fraction") rfl)
  obtain ⟨fd_apart, F_apart⟩ := c.def_ 5 (d := dd_apart) rfl
  have g_apart : mg ("apart" : Str) = some (.ref (He.ga K "apart")) := He.glo_ok X G (c.fact 5 (f := .glo "apart") rfl)
  obtain ⟨fd_together, F_together⟩ := c.def_ 6 (d := dd_together) rfl
  have g_together : mg ("together" : Str) = some (.ref (He.ga K "together")) := He.glo_ok X G (c.fact 6 (f := .glo "together") rfl)
  obtain ⟨fd_is_part, F_is_part⟩ := c.def_ 7 (d := dd_is_part) rfl
  have g_is_part : mg ("is_part" : Str) = some (.ref (He.ga K "is_part")) := He.glo_ok X G (c.fact 7 (f := .glo "is_part") rfl)
  obtain ⟨fd_are_parts, F_are_parts⟩ := c.def_ 8 (d := dd_are_parts) rfl
  have g_are_parts : mg ("are_parts" : Str) = some (.ref (He.ga K "are_parts")) := He.glo_ok X G (c.fact 8 (f := .glo "are_parts") rfl)
  obtain ⟨fd_is_share, F_is_share⟩ := c.def_ 9 (d := dd_is_share) rfl
  have g_is_share : mg ("is_share" : Str) = some (.ref (He.ga K "is_share")) := He.glo_ok X G (c.fact 9 (f := .glo "is_share") rfl)
  obtain ⟨fd_is_pour, F_is_pour⟩ := c.def_ 10 (d := dd_is_pour) rfl
  have g_is_pour : mg ("is_pour" : Str) = some (.ref (He.ga K "is_pour")) := He.glo_ok X G (c.fact 10 (f := .glo "is_pour") rfl)
  obtain ⟨fd_need_parts, F_need_parts⟩ := c.def_ 11 (d := dd_need_parts) rfl
  have g_need_parts : mg ("need_parts" : Str) = some (.ref (He.ga K "need_parts")) := He.glo_ok X G (c.fact 11 (f := .glo "need_parts") rfl)
  obtain ⟨fd_need_share, F_need_share⟩ := c.def_ 12 (d := dd_need_share) rfl
  have g_need_share : mg ("need_share" : Str) = some (.ref (He.ga K "need_share")) := He.glo_ok X G (c.fact 12 (f := .glo "need_share") rfl)
  obtain ⟨fd_behind_right, F_behind_right⟩ := c.def_ 13 (d := dd_behind_right) rfl
  have g_behind_right : mg ("behind_right" : Str) = some (.ref (He.ga K "behind_right")) := He.glo_ok X G (c.fact 13 (f := .glo "behind_right") rfl)
  obtain ⟨fd_behind_left, F_behind_left⟩ := c.def_ 14 (d := dd_behind_left) rfl
  have g_behind_left : mg ("behind_left" : Str) = some (.ref (He.ga K "behind_left")) := He.glo_ok X G (c.fact 14 (f := .glo "behind_left") rfl)
  obtain ⟨fd_behind_pour, F_behind_pour⟩ := c.def_ 15 (d := dd_behind_pour) rfl
  have g_behind_pour : mg ("behind_pour" : Str) = some (.ref (He.ga K "behind_pour")) := He.glo_ok X G (c.fact 15 (f := .glo "behind_pour") rfl)
  obtain ⟨fd__law_cell_at, F__law_cell_at⟩ := c.def_ 16 (d := dd__law_cell_at) rfl
  have g__law_cell_at : mg ("_law_cell_at" : Str) = some (.ref (He.ga K "_law_cell_at")) := He.glo_ok X G (c.fact 16 (f := .glo "_law_cell_at") rfl)
  obtain ⟨fd__law_draws, F__law_draws⟩ := c.def_ 17 (d := dd__law_draws) rfl
  have g__law_draws : mg ("_law_draws" : Str) = some (.ref (He.ga K "_law_draws")) := He.glo_ok X G (c.fact 17 (f := .glo "_law_draws") rfl)
  obtain ⟨fd__law_bag, F__law_bag⟩ := c.def_ 18 (d := dd__law_bag) rfl
  have g__law_bag : mg ("_law_bag" : Str) = some (.ref (He.ga K "_law_bag")) := He.glo_ok X G (c.fact 18 (f := .glo "_law_bag") rfl)
  obtain ⟨fd__law_bags, F__law_bags⟩ := c.def_ 19 (d := dd__law_bags) rfl
  have g__law_bags : mg ("_law_bags" : Str) = some (.ref (He.ga K "_law_bags")) := He.glo_ok X G (c.fact 19 (f := .glo "_law_bags") rfl)
  obtain ⟨fd__law_take, F__law_take⟩ := c.def_ 20 (d := dd__law_take) rfl
  have g__law_take : mg ("_law_take" : Str) = some (.ref (He.ga K "_law_take")) := He.glo_ok X G (c.fact 20 (f := .glo "_law_take") rfl)
  obtain ⟨fd__law_far_draw, F__law_far_draw⟩ := c.def_ 21 (d := dd__law_far_draw) rfl
  have g__law_far_draw : mg ("_law_far_draw" : Str) = some (.ref (He.ga K "_law_far_draw")) := He.glo_ok X G (c.fact 21 (f := .glo "_law_far_draw") rfl)
  obtain ⟨fd__law_common, F__law_common⟩ := c.def_ 22 (d := dd__law_common) rfl
  have g__law_common : mg ("_law_common" : Str) = some (.ref (He.ga K "_law_common")) := He.glo_ok X G (c.fact 22 (f := .glo "_law_common") rfl)
  obtain ⟨fd__law_made, F__law_made⟩ := c.def_ 23 (d := dd__law_made) rfl
  have g__law_made : mg ("_law_made" : Str) = some (.ref (He.ga K "_law_made")) := He.glo_ok X G (c.fact 23 (f := .glo "_law_made") rfl)
  obtain ⟨fd__law_plus, F__law_plus⟩ := c.def_ 24 (d := dd__law_plus) rfl
  have g__law_plus : mg ("_law_plus" : Str) = some (.ref (He.ga K "_law_plus")) := He.glo_ok X G (c.fact 24 (f := .glo "_law_plus") rfl)
  obtain ⟨fd__law_minus, F__law_minus⟩ := c.def_ 25 (d := dd__law_minus) rfl
  have g__law_minus : mg ("_law_minus" : Str) = some (.ref (He.ga K "_law_minus")) := He.glo_ok X G (c.fact 25 (f := .glo "_law_minus") rfl)
  obtain ⟨fd__law_times, F__law_times⟩ := c.def_ 26 (d := dd__law_times) rfl
  have g__law_times : mg ("_law_times" : Str) = some (.ref (He.ga K "_law_times")) := He.glo_ok X G (c.fact 26 (f := .glo "_law_times") rfl)
  obtain ⟨fd__law_below, F__law_below⟩ := c.def_ 27 (d := dd__law_below) rfl
  have g__law_below : mg ("_law_below" : Str) = some (.ref (He.ga K "_law_below")) := He.glo_ok X G (c.fact 27 (f := .glo "_law_below") rfl)
  obtain ⟨fd__law_away, F__law_away⟩ := c.def_ 28 (d := dd__law_away) rfl
  have g__law_away : mg ("_law_away" : Str) = some (.ref (He.ga K "_law_away")) := He.glo_ok X G (c.fact 28 (f := .glo "_law_away") rfl)
  obtain ⟨fd__law_a_part, F__law_a_part⟩ := c.def_ 29 (d := dd__law_a_part) rfl
  have g__law_a_part : mg ("_law_a_part" : Str) = some (.ref (He.ga K "_law_a_part")) := He.glo_ok X G (c.fact 29 (f := .glo "_law_a_part") rfl)
  obtain ⟨fd__law_two_parts, F__law_two_parts⟩ := c.def_ 30 (d := dd__law_two_parts) rfl
  have g__law_two_parts : mg ("_law_two_parts" : Str) = some (.ref (He.ga K "_law_two_parts")) := He.glo_ok X G (c.fact 30 (f := .glo "_law_two_parts") rfl)
  obtain ⟨fd__law_a_share, F__law_a_share⟩ := c.def_ 31 (d := dd__law_a_share) rfl
  have g__law_a_share : mg ("_law_a_share" : Str) = some (.ref (He.ga K "_law_a_share")) := He.glo_ok X G (c.fact 31 (f := .glo "_law_a_share") rfl)
  obtain ⟨fd__law_end, F__law_end⟩ := c.def_ 32 (d := dd__law_end) rfl
  have g__law_end : mg ("_law_end" : Str) = some (.ref (He.ga K "_law_end")) := He.glo_ok X G (c.fact 32 (f := .glo "_law_end") rfl)
  obtain ⟨fd__law_refused, F__law_refused⟩ := c.def_ 33 (d := dd__law_refused) rfl
  have g__law_refused : mg ("_law_refused" : Str) = some (.ref (He.ga K "_law_refused")) := He.glo_ok X G (c.fact 33 (f := .glo "_law_refused") rfl)
  obtain ⟨fd__law_stands, F__law_stands⟩ := c.def_ 34 (d := dd__law_stands) rfl
  have g__law_stands : mg ("_law_stands" : Str) = some (.ref (He.ga K "_law_stands")) := He.glo_ok X G (c.fact 34 (f := .glo "_law_stands") rfl)
  obtain ⟨fd__law_full_right, F__law_full_right⟩ := c.def_ 35 (d := dd__law_full_right) rfl
  have g__law_full_right : mg ("_law_full_right" : Str) = some (.ref (He.ga K "_law_full_right")) := He.glo_ok X G (c.fact 35 (f := .glo "_law_full_right") rfl)
  obtain ⟨fd_law, F_law⟩ := c.def_ 36 (d := dd_law) rfl
  have e := hfa.symm.trans (He.glo_ok X G (c.fact 36 (f := .glo "law") rfl))
  cases e
  have b := FunD.bindsA (ps := ["script"]) F_law fun _ _ _ _ _ _ us hl => match us, hl with | [_], _ => rfl
  refine ⟨fd_law, fun s v => b s [v] rfl, fun base _ _ TBs => ?_⟩
  have xf : XF K mg := xf_of X G cx (He.glo_ok X G (c.fact 57 (f := .glo "PourError") rfl)) (He.free_ok X G (c.fact 38 (f := .free "ValueError") rfl))
  have ne : (He.cT K ("law", none)).2 ≠ (He.cT K ("_law_full_right", none)).2 := bne_iff_ne.mp cn
  have TB0 := TBs (He.cT K ("law", none)) (List.mem_map.mpr ⟨_, List.mem_of_getElem? (i := 0) rfl, rfl⟩)
  have TB1 := TBs (He.cT K ("_law_full_right", none)) (List.mem_map.mpr ⟨_, List.mem_of_getElem? (i := 1) rfl, rfl⟩)
  have k_is_whole : Fk P w K mg base "is_whole" 1 ["thing"] sp_is_whole := fk_of F_is_whole g_is_whole (ok_is_whole F_is_whole B) fun _ _ _ _ _ _ us hl => match us, hl with | [_], _ => rfl
  have k_common_divisor : Fk P w K mg base "common_divisor" 1 ["one", "other"] sp_gcd := fk_of F_common_divisor g_common_divisor (ok_common_divisor F_common_divisor) fun _ _ _ _ _ _ us hl => match us, hl with | [_, _], _ => rfl
  have k_lowest : Fk P w K mg base "lowest" 2 ["top", "bottom"] sp_lowest := fk_of F_lowest g_lowest (ok_lowest F_lowest k_common_divisor) fun _ _ _ _ _ _ us hl => match us, hl with | [_, _], _ => rfl
  have k_is_pair : Fk P w K mg base "is_pair" 1 ["thing"] sp_is_pair := fk_of F_is_pair g_is_pair (ok_is_pair F_is_pair B) fun _ _ _ _ _ _ us hl => match us, hl with | [_], _ => rfl
  have k_is_fraction : Fk P w K mg base "is_fraction" 2 ["thing"] sp_is_fraction := fk_of F_is_fraction g_is_fraction (ok_is_fraction F_is_fraction B k_is_pair k_is_whole k_common_divisor) fun _ _ _ _ _ _ us hl => match us, hl with | [_], _ => rfl
  have k_apart : Fk P w K mg base "apart" 3 ["one", "other"] (sp2 fun x y => rt (far x y)) := fk_of F_apart g_apart (ok_apart F_apart B k_lowest) fun _ _ _ _ _ _ us hl => match us, hl with | [_, _], _ => rfl
  have k_together : Fk P w K mg base "together" 3 ["one", "other"] (spG (fun v : Rat × Rat => [rt v.1, rt v.2]) (fun v => Smq v.1 ∧ Smq v.2 ∧ 0 ≤ v.1 ∧ 0 ≤ v.2) fun v => rt (v.1 + v.2)) := fk_of F_together g_together (ok_together F_together k_lowest) fun _ _ _ _ _ _ us hl => match us, hl with | [_, _], _ => rfl
  have k_is_part : Fk P w K mg base "is_part" 3 ["thing"] sp_is_part := fk_of F_is_part g_is_part (ok_is_part F_is_part C k_is_fraction) fun _ _ _ _ _ _ us hl => match us, hl with | [_], _ => rfl
  have k_are_parts : Fk P w K mg base "are_parts" 4 ["thing"] sp_are_parts := fk_of F_are_parts g_are_parts (ok_are_parts F_are_parts k_is_pair k_is_part) fun _ _ _ _ _ _ us hl => match us, hl with | [_], _ => rfl
  have k_is_share : Fk P w K mg base "is_share" 3 ["thing"] sp_is_share := fk_of F_is_share g_is_share (ok_is_share F_is_share C k_is_fraction) fun _ _ _ _ _ _ us hl => match us, hl with | [_], _ => rfl
  have k_is_pour : Fk P w K mg base "is_pour" 1 ["thing"] sp_is_pour := fk_of F_is_pour g_is_pour (ok_is_pour F_is_pour C) fun _ _ _ _ _ _ us hl => match us, hl with | [_], _ => rfl
  have k_need_parts : Fk P w K mg base "need_parts" 5 ["parts"] sp_need_parts := fk_of F_need_parts g_need_parts (ok_need_parts F_need_parts k_are_parts) fun _ _ _ _ _ _ us hl => match us, hl with | [_], _ => rfl
  have k_need_share : Fk P w K mg base "need_share" 4 ["share"] sp_need_share := fk_of F_need_share g_need_share (ok_need_share F_need_share k_is_share) fun _ _ _ _ _ _ us hl => match us, hl with | [_], _ => rfl
  have k_behind_right : Fk P w K mg base "behind_right" 3 ["p", "share"] sp_behind_right := fk_of F_behind_right g_behind_right (ok_behind_right F_behind_right k_lowest) fun _ _ _ _ _ _ us hl => match us, hl with | [_, _], _ => rfl
  have k_behind_left : Fk P w K mg base "behind_left" 3 ["q", "share"] sp_behind_left := fk_of F_behind_left g_behind_left (ok_behind_left F_behind_left k_lowest) fun _ _ _ _ _ _ us hl => match us, hl with | [_, _], _ => rfl
  have k_behind_pour : Fk P w K mg base "behind_pour" 4 ["parts", "share", "pour"] sp_behind_pour := fk_of F_behind_pour g_behind_pour (ok_behind_pour F_behind_pour C k_behind_right k_behind_left) fun _ _ _ _ _ _ us hl => match us, hl with | [_, _, _], _ => rfl
  have k__law_cell_at : Fk P w K mg base "_law_cell_at" 1 ["script", "k"] sp_cell := fk_of F__law_cell_at g__law_cell_at (ok__law_cell_at F__law_cell_at B) fun _ _ _ _ _ _ us hl => match us, hl with | [_, _], _ => rfl
  have k__law_draws : Fk P w K mg base "_law_draws" 1 ["cell", "many", "size"] sp_draws := fk_of F__law_draws g__law_draws (ok__law_draws F__law_draws B J) fun _ _ _ _ _ _ us hl => match us, hl with | [_, _, _], _ => rfl
  have k__law_bag : Fk P w K mg base "_law_bag" 2 ["script", "k"] sp_bag := fk_of F__law_bag g__law_bag (ok__law_bag F__law_bag k__law_cell_at k__law_draws) fun _ _ _ _ _ _ us hl => match us, hl with | [_, _], _ => rfl
  have k__law_bags : Fk P w K mg base "_law_bags" 3 ["script", "limit"] spBags := fk_of F__law_bags g__law_bags (ok__law_bags F__law_bags B J k__law_bag) fun _ _ _ _ _ _ us hl => match us, hl with | [_, _], _ => rfl
  have k__law_take : Fk P w K mg base "_law_take" 1 ["bag", "many"] sp_take := fk_of F__law_take g__law_take (ok__law_take F__law_take B) fun _ _ _ _ _ _ us hl => match us, hl with | [_, _], _ => rfl
  have k__law_far_draw : Fk P w K mg base "_law_far_draw" 2 ["bag", "many"] sp_far := fk_of F__law_far_draw g__law_far_draw (ok__law_far_draw F__law_far_draw k__law_take) fun _ _ _ _ _ _ us hl => match us, hl with | [_, _], _ => rfl
  have k__law_common : Fk P w K mg base "_law_common" 1 ["one", "other"] sp_gcd := fk_of F__law_common g__law_common (ok__law_common F__law_common) fun _ _ _ _ _ _ us hl => match us, hl with | [_, _], _ => rfl
  have k__law_made : Fk P w K mg base "_law_made" 2 ["top", "bottom"] sp_made := fk_of F__law_made g__law_made (ok__law_made F__law_made B k__law_common) fun _ _ _ _ _ _ us hl => match us, hl with | [_, _], _ => rfl
  have k__law_plus : Fk P w K mg base "_law_plus" 3 ["one", "other"] (sp2 fun x y => rt (x + y)) := fk_of F__law_plus g__law_plus (ok__law_plus F__law_plus k__law_made) fun _ _ _ _ _ _ us hl => match us, hl with | [_, _], _ => rfl
  have k__law_minus : Fk P w K mg base "_law_minus" 3 ["one", "other"] (sp2 fun x y => rt (x - y)) := fk_of F__law_minus g__law_minus (ok__law_minus F__law_minus k__law_made) fun _ _ _ _ _ _ us hl => match us, hl with | [_, _], _ => rfl
  have k__law_times : Fk P w K mg base "_law_times" 3 ["one", "other"] (sp2 fun x y => rt (x * y)) := fk_of F__law_times g__law_times (ok__law_times F__law_times k__law_made) fun _ _ _ _ _ _ us hl => match us, hl with | [_, _], _ => rfl
  have k__law_below : Fk P w K mg base "_law_below" 1 ["one", "other"] (sp2 fun x y => .bool (decide (x < y))) := fk_of F__law_below g__law_below (ok__law_below F__law_below) fun _ _ _ _ _ _ us hl => match us, hl with | [_, _], _ => rfl
  have k__law_away : Fk P w K mg base "_law_away" 4 ["one", "other"] (sp2 fun x y => rt (far x y)) := fk_of F__law_away g__law_away (ok__law_away F__law_away B k__law_minus) fun _ _ _ _ _ _ us hl => match us, hl with | [_, _], _ => rfl
  have k__law_a_part : Fk P w K mg base "_law_a_part" 3 ["bag"] sp_a_part := fk_of F__law_a_part g__law_a_part (ok__law_a_part F__law_a_part k__law_take k__law_made) fun _ _ _ _ _ _ us hl => match us, hl with | [_], _ => rfl
  have k__law_two_parts : Fk P w K mg base "_law_two_parts" 4 ["bag"] sp_two_parts := fk_of F__law_two_parts g__law_two_parts (ok__law_two_parts F__law_two_parts k__law_take k__law_a_part k__law_minus k__law_plus k__law_below) fun _ _ _ _ _ _ us hl => match us, hl with | [_], _ => rfl
  have k__law_a_share : Fk P w K mg base "_law_a_share" 3 ["bag"] sp_a_share := fk_of F__law_a_share g__law_a_share (ok__law_a_share F__law_a_share k__law_take k__law_far_draw k__law_made) fun _ _ _ _ _ _ us hl => match us, hl with | [_], _ => rfl
  have k__law_end : Fk P w K mg base "_law_end" 4 ["parts", "share", "row"] sp_end := fk_of F__law_end g__law_end (ok__law_end F__law_end k__law_minus k__law_plus k__law_times) fun _ _ _ _ _ _ us hl => match us, hl with | [_, _, _], _ => rfl
  have k__law_refused : Fk P w K mg base "_law_refused" 9 ["call", "one", "two", "three"] (spRf P w mg base 8) := fk_of F__law_refused g__law_refused (ok__law_refused F__law_refused B xf) fun _ _ _ _ _ _ us hl => match us, hl with | [_, _, _, _], _ => rfl
  have fx_need_parts : Fx P w K mg base "need_parts" 5 ["parts"] (spX prx_parts "NoParts") := fx_of F_need_parts g_need_parts (okx_need_parts F_need_parts (xf.x "NoParts" (by decide)) k_are_parts) fun _ _ _ _ _ _ us hl => match us, hl with | [_], _ => rfl
  have fx_need_share : Fx P w K mg base "need_share" 4 ["share"] (spX prx_share "NoShare") := fx_of F_need_share g_need_share (okx_need_share F_need_share (xf.x "NoShare" (by decide)) k_is_share) fun _ _ _ _ _ _ us hl => match us, hl with | [_], _ => rfl
  have k__law_refused_at_n : Fk P w K mg base "_law_refused" 9 ["call", "one", "two", "three"] (spRfN P w mg base 8) := fk_of F__law_refused g__law_refused (okn__law_refused F__law_refused xf) fun _ _ _ _ _ _ us hl => match us, hl with | [_, _, _, _], _ => rfl
  skip
  skip
  have T : KCl K := ⟨He.cls_ok (c.fact 59 (f := .cls "Kept") rfl), He.noat_ok (c.fact 61 (f := .noat "Kept" "parts") rfl), He.noat_ok (c.fact 62 (f := .noat "Kept" "made") rfl), He.noat_ok (c.fact 63 (f := .noat "Kept" "shares") rfl)⟩
  have mK : mg "Kept" = some (.ref (kC K)) := He.glo_ok X G (c.fact 58 (f := .glo "Kept") rfl)
  have M := He.mkr_ok (c.fact 60 (f := .mkr "Kept") rfl)
  obtain ⟨cyt, hnf⟩ := He.ba cy
  have Y : KTy K := ktyB_ok cyt
  obtain ⟨fd_Kept___init__, F_Kept___init__⟩ := c.def_ 37 (d := dd_Kept___init__) rfl
  have fo___init__ : FnO P w K mg base 6 (He.fAd K ("Kept", some "__init__")) fd_Kept___init__ ["self", "parts", "share"] (spI fun pt sh => arePartsD pt = true ∧ isShareD sh = true) := ok_Kept___init__ F_Kept___init__ T k_need_parts k_need_share
  have b___init__ : Binds K fd_Kept___init__ ["self", "parts", "share"] [] := F_Kept___init__.bindsN fun _ _ _ _ _ _ us hl => match us, hl with | [_, _, _], _ => rfl
  obtain ⟨fd_Kept_pour, F_Kept_pour⟩ := c.def_ 38 (d := dd_Kept_pour) rfl
  have fo_pour : FnO P w K mg base 5 (He.fAd K ("Kept", some "pour")) fd_Kept_pour ["self", "pour"] sp_kpour := ok_Kept_pour F_Kept_pour T B.len (He.int_ok X G (c.fact 56 (f := .int "MOST_KEPT" 100) rfl)) k_is_pour k_behind_pour
  have b_pour : Binds K fd_Kept_pour ["self", "pour"] [] := F_Kept_pour.bindsN fun _ _ _ _ _ _ us hl => match us, hl with | [_, _], _ => rfl
  have m_pour : Mk1 P w K mg base "pour" 5 ["self", "pour"] sp_kpour := ⟨_, fd_Kept_pour, fo_pour, He.meth_ok (c.fact 64 (f := .meth "Kept" "pour") rfl), b_pour⟩
  obtain ⟨fd_Kept_back, F_Kept_back⟩ := c.def_ 39 (d := dd_Kept_back) rfl
  have fo_back : FnO P w K mg base 1 (He.fAd K ("Kept", some "back")) fd_Kept_back ["self"] sp_kback := ok_Kept_back F_Kept_back T B.len
  have b_back : Binds K fd_Kept_back ["self"] [] := F_Kept_back.bindsN fun _ _ _ _ _ _ us hl => match us, hl with | [_], _ => rfl
  have m_back : Mk1 P w K mg base "back" 1 ["self"] sp_kback := ⟨_, fd_Kept_back, fo_back, He.meth_ok (c.fact 65 (f := .meth "Kept" "back") rfl), b_back⟩
  obtain ⟨fd_Kept_share, F_Kept_share⟩ := c.def_ 40 (d := dd_Kept_share) rfl
  have fo_share : FnO P w K mg base 1 (He.fAd K ("Kept", some "share")) fd_Kept_share ["self"] sp_kshare := ok_Kept_share F_Kept_share T
  have b_share : Binds K fd_Kept_share ["self"] [] := F_Kept_share.bindsN fun _ _ _ _ _ _ us hl => match us, hl with | [_], _ => rfl
  have m_share : Mk1 P w K mg base "share" 1 ["self"] sp_kshare := ⟨_, fd_Kept_share, fo_share, He.meth_ok (c.fact 66 (f := .meth "Kept" "share") rfl), b_share⟩
  obtain ⟨fd_Kept_pours, F_Kept_pours⟩ := c.def_ 41 (d := dd_Kept_pours) rfl
  have fo_pours : FnO P w K mg base 1 (He.fAd K ("Kept", some "pours")) fd_Kept_pours ["self"] sp_kpours := ok_Kept_pours F_Kept_pours T B.tuple
  have b_pours : Binds K fd_Kept_pours ["self"] [] := F_Kept_pours.bindsN fun _ _ _ _ _ _ us hl => match us, hl with | [_], _ => rfl
  have m_pours : Mk1 P w K mg base "pours" 1 ["self"] sp_kpours := ⟨_, fd_Kept_pours, fo_pours, He.meth_ok (c.fact 67 (f := .meth "Kept" "pours") rfl), b_pours⟩
  obtain ⟨fd_Kept_poured, F_Kept_poured⟩ := c.def_ 42 (d := dd_Kept_poured) rfl
  have fo_poured : FnO P w K mg base 4 (He.fAd K ("Kept", some "poured")) fd_Kept_poured ["self"] sp_kpoured := ok_Kept_poured F_Kept_poured T ex_zip kc_NOUGHT k_apart k_together
  have b_poured : Binds K fd_Kept_poured ["self"] [] := F_Kept_poured.bindsN fun _ _ _ _ _ _ us hl => match us, hl with | [_], _ => rfl
  have m_poured : Mk1 P w K mg base "poured" 4 ["self"] sp_kpoured := ⟨_, fd_Kept_poured, fo_poured, He.meth_ok (c.fact 68 (f := .meth "Kept" "poured") rfl), b_poured⟩
  obtain ⟨fd_Kept___len__, F_Kept___len__⟩ := c.def_ 43 (d := dd_Kept___len__) rfl
  have fo___len__ : FnO P w K mg base 1 (He.fAd K ("Kept", some "__len__")) fd_Kept___len__ ["self"] sp_klen := ok_Kept___len__ F_Kept___len__ T B.len
  have b___len__ : Binds K fd_Kept___len__ ["self"] [] := F_Kept___len__.bindsN fun _ _ _ _ _ _ us hl => match us, hl with | [_], _ => rfl
  have m___len__ : Mk1 P w K mg base "__len__" 1 ["self"] sp_klen := ⟨_, fd_Kept___len__, fo___len__, He.meth_ok (c.fact 69 (f := .meth "Kept" "__len__") rfl), b___len__⟩
  obtain ⟨fd_Kept___eq__, F_Kept___eq__⟩ := c.def_ 44 (d := dd_Kept___eq__) rfl
  have fo___eq__ : FnO P w K mg base 1 (He.fAd K ("Kept", some "__eq__")) fd_Kept___eq__ ["self", "other"] spEqK := ok_Kept___eq__ F_Kept___eq__ B T Y mK
  have b___eq__ : Binds K fd_Kept___eq__ ["self", "other"] [] := F_Kept___eq__.bindsN fun _ _ _ _ _ _ us hl => match us, hl with | [_, _], _ => rfl
  have m___eq__ : Mk1 P w K mg base "__eq__" 1 ["self", "other"] spEqK := ⟨_, fd_Kept___eq__, fo___eq__, He.meth_ok (c.fact 70 (f := .meth "Kept" "__eq__") rfl), b___eq__⟩
  have mx_pour : Mx1 P w K mg base "pour" 2 ["self", "pour"] (spMX (fun _ _ _ as => ∃ d, as = [d] ∧ SeqAt.shaped d = true ∧ isPourD d = false) "NoPour") := ⟨_, fd_Kept_pour, okx_Kept_pour F_Kept_pour (xf.x "NoPour" (by decide)) k_is_pour, He.meth_ok (c.fact 64 (f := .meth "Kept" "pour") rfl), b_pour⟩
  have mf_pour : Mx1 P w K mg base "pour" 2 ["self", "pour"] (spMX (fun _ ms _ as => ∃ x : Pour, as = [x.d] ∧ 100 ≤ ms.length) "Full") := ⟨_, fd_Kept_pour, oky_Kept_pour F_Kept_pour T B.len (He.int_ok X G (c.fact 56 (f := .int "MOST_KEPT" 100) rfl)) (xf.x "Full" (by decide)) k_is_pour, He.meth_ok (c.fact 64 (f := .meth "Kept" "pour") rfl), b_pour⟩
  have mx_back : Mx1 P w K mg base "back" 1 ["self"] (spMX (fun _ ms _ as => as = [] ∧ ms = []) "NothingLeft") := ⟨_, fd_Kept_back, okx_Kept_back F_Kept_back T B.len (xf.x "NothingLeft" (by decide)), He.meth_ok (c.fact 65 (f := .meth "Kept" "back") rfl), b_back⟩
  have mt_eq : Mk1 P w K mg base "__eq__" 1 ["self", "other"] spEqT := ⟨_, fd_Kept___eq__, okt_Kept___eq__ F_Kept___eq__ B Y mK, He.meth_ok (c.fact 70 (f := .meth "Kept" "__eq__") rfl), b___eq__⟩
  have k_stands : Fk P w K mg base "_law_stands" 6 ["kept", "parts", "share", "row"] sp_stands := fk_of F__law_stands g__law_stands (ok__law_stands F__law_stands B T k__law_end k__law_plus k__law_away m_share m_pours m_poured m___len__) fun _ _ _ _ _ _ us hl => match us, hl with | [_, _, _, _], _ => rfl
  have k_full : Fk P w K mg base "_law_full_right" 10 [] sp_full := fk_of F__law_full_right g__law_full_right (ok__law_full_right F__law_full_right TB1 J T M mK fo___init__ (okx_Kept___init__ F_Kept___init__ fx_need_parts) (oky_Kept___init__ F_Kept___init__ k_need_parts fx_need_share) b___init__ m_pour mf_pour m_share k__law_refused) fun _ _ _ _ _ _ us hl => match us, hl with | [], _ => rfl
  exact ok_law F_law TB0 ne B J T Y hnf M mK fo___init__ b___init__ m_pour mx_pour m_back mx_back m_share m_poured m___eq__ mt_eq k__law_bags k__law_take k__law_two_parts k__law_a_share k__law_refused k__law_refused_at_n k_stands k_full
end Pb
open PySem PySem.W PySem.Calls PyProof.Rows
set_option maxRecDepth 100000 in
set_option maxHeartbeats 0 in
theorem PySem.Challenge.cw_pourback_k10_whole_tubs_kept_deed_by_dee_holds : PySem.Challenge.rw_pourback_k10_whole_tubs_kept_deed_by_dee.Holds := by
  w_on; o_law
  refine HandSHeadRun.head_any (r := Pb.RR) (q := view Pb.RR.prog [60]) (H := Pb.hk) (ob := Pb.ob) (M := 12000) (loose := Pb.loose) (d := HandSHeadRun.topDef Pb.RR.prog 60) (kwd := []) Pb.ob_eq
    (by kernel_rfl) (fun s => by kernel_rfl) Pb.run (by kernel_rfl) (by kernel_rfl) (by kernel_rfl) (by rfl) (by first | assumption | decide +kernel) (by decide +kernel) ⟨rfl, rfl, rfl, rfl, rfl, by decide +kernel⟩ ?hw ?hc
  case hw => w_witness2
  case hc =>
    refine Dn.walk_ofTE (l := PySem.Challenge.rw_pourback_k10_whole_tubs_kept_deed_by_dee) (n := 63) (k := 11) (x := "script") (CX := L2.CX0) rfl (by decide) (by kernel_rfl) ⟨rfl, by decide, by decide⟩ ?F (fun _ _ _ _ z => z)
    intro w mg fa h Y G hmg0
    obtain ⟨K, KX, c⟩ := Y
    have hmg : mg ("law" : PySem.Str) = some (.ref fa) := by
      have e : (HandSHeadRun.topDef Pb.RR.prog 60).name = ("law" : PySem.Str) := by kernel_rfl
      rw [← e]
      exact hmg0
    obtain ⟨cyy, cy⟩ := He.ba c.more
    obtain ⟨cxx, cn⟩ := He.ba cyy
    obtain ⟨ck, cx⟩ := He.ba cxx
    obtain ⟨fd, hb, hF⟩ := Pb.facts (P := (PySem.Challenge.rw_pourback_k10_whole_tubs_kept_deed_by_dee).prog) (w := w) KX G hmg c.t.d ck cx cn cy
    refine ⟨K, fd, Pb.tf.map (He.cT K), Pb.spLaw K, KX, fun p hp => ?_, fun p hp => ?_, fun p hp => ?_, hb, fun H a ns hl hT hS => ⟨a, ns, rfl, hT (He.cT K ("law", none)) (List.mem_map.mpr ⟨_, List.mem_of_getElem? (i := 0) rfl, rfl⟩), hT (He.cT K ("_law_full_right", none)) (List.mem_map.mpr ⟨_, List.mem_of_getElem? (i := 1) rfl, rfl⟩), hS, fun _ => rfl⟩, hF⟩
    all_goals
      obtain ⟨d, hd, rfl⟩ := List.mem_map.mp hp
    · exact c.empty d hd
    · exact c.out d hd
    · exact PySem.W.codeHd_of_K KX (c.hd d hd)
