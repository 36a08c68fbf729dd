import PyProof.Rows.All
import Wide.All
import OpenK.AllK
import Wide.FinOn
import KE.KStateDown
import HandS.ForMost
import HandS.More
import HandS.WordsExc
import HandS.Defaults
import HandS.Wide
import HandS.TupAny
import HandS.IsInst
import HandS.Head0
import HandS.Head1
import HandS.Head2
import HandS.HeadEnd
import HandS.HeadHook1
import HandS.HeadHook2
import HandS.TupMul
import HandS.Deep
import HandS.Style
import KE.LtData
import KE.DataFind
import KE.KRevSl
import PySem.Challenge.RW_pourback_k01_parts_shares_rows_known
set_option Elab.async false
set_option linter.all false
set_option maxRecDepth 100000
set_option maxHeartbeats 8000000
namespace Dn
open PySem PySem.Spec PyProof.Rows L2

/-! ## data and heaps that grow -/
/-- a tuple, or one whose object is known -/
def tp : Option Obj → List V → HO
  | none, xs => .tup xs
  | some o, xs => .frz o (.tup xs)
theorem rdt {H : Hp} {a : Addr} {xs : List V} : ∀ {o : Option Obj}, H a = some (tp o xs) → Rd H a (.tup xs)
  | none, h => .inl h
  | some o, h => .inr ⟨o, h⟩
mutual
/-- a value and the data that it stands for in a heap -/
inductive Dd (H : Hp) : V → PyData → Prop
  | non : Dd H .non .none
  | bl (b : Bool) : Dd H (.bl b) (.bool b)
  | int (i : Int) : Dd H (.int i) (.int i)
  | str (x : Str) : Dd H (.str x) (.str x)
  | lst {a : Addr} {xs : List V} {ds : List PyData} (h : H a = some (.lst xs)) (hs : Ds H xs ds) : Dd H (.ref a) (.list ds)
  | tup {a : Addr} {o : Option Obj} {xs : List V} {ds : List PyData} (h : H a = some (tp o xs)) (hs : Ds H xs ds) : Dd H (.ref a) (.tuple ds)
inductive Ds (H : Hp) : List V → List PyData → Prop
  | nil : Ds H [] []
  | cons {v : V} {vs : List V} {d : PyData} {ds : List PyData} (h : Dd H v d) (hs : Ds H vs ds) : Ds H (v :: vs) (d :: ds)
end
mutual
theorem dmono {G G' : Hp} (e : Same G G') : ∀ (d : PyData) (v : V), Dd G v d → Dd G' v d
  | .none, _, h => by cases h; exact .non
  | .bool _, _, h => by cases h; exact .bl _
  | .int _, _, h => by cases h; exact .int _
  | .str _, _, h => by cases h; exact .str _
  | .list ds, _, h => by cases h with | lst a b => exact .lst (e _ _ a) (dmonoAll e ds _ b)
  | .tuple ds, _, h => by cases h with | tup a b => exact .tup (e _ _ a) (dmonoAll e ds _ b)
  | .dict _, _, h => by cases h
theorem dmonoAll {G G' : Hp} (e : Same G G') : ∀ (ds : List PyData) (vs : List V), Ds G vs ds → Ds G' vs ds
  | [], _, h => by cases h; exact .nil
  | d :: ds, _, h => by cases h with | cons a b => exact .cons (dmono e d _ a) (dmonoAll e ds _ b)
end
mutual
theorem ddp {K : PySem.W.Frag} {G : Hp} : ∀ (d : PyData) (v : V), Dd G v d → Dp K G v d
  | .none, _, h => by cases h; exact .non
  | .bool _, _, h => by cases h; exact .bl _
  | .int _, _, h => by cases h; exact .int _
  | .str _, _, h => by cases h; exact .str _
  | .list ds, _, h => by cases h with | lst a b => exact .lst (.inl (.inl a)) (ddpAll ds _ b)
  | .tuple ds, _, h => by cases h with | tup a b => exact .tup (.inl (rdt a)) (ddpAll ds _ b)
  | .dict _, _, h => by cases h
theorem ddpAll {K : PySem.W.Frag} {G : Hp} : ∀ (ds : List PyData) (vs : List V), Ds G vs ds → DpAll K G vs ds
  | [], _, h => by cases h; exact .nil
  | d :: ds, _, h => by cases h with | cons a b => exact .cons (ddp d _ a) (ddpAll ds _ b)
end
theorem Ds.len {G : Hp} : ∀ {vs : List V} {ds : List PyData}, Ds G vs ds → vs.length = ds.length
  | _, _, .nil => rfl
  | _, _, .cons _ h => congrArg (· + 1) (Ds.len h)
theorem Ds.at {G : Hp} : ∀ {vs : List V} {ds : List PyData} {i : Nat} {d : PyData}, Ds G vs ds → ds[i]? = some d → ∃ v, vs[i]? = some v ∧ Dd G v d
  | _, _, i, d, .nil, h => by simp at h
  | _, _, 0, d, .cons a _, h => by
    have e := Option.some.inj h
    subst e
    exact ⟨_, rfl, a⟩
  | _, _, i + 1, d, .cons _ b, h => Ds.at (i := i) b h
theorem Ds.atV {G : Hp} : ∀ {vs : List V} {ds : List PyData} {i : Nat} {v : V}, Ds G vs ds → vs[i]? = some v → ∃ d, ds[i]? = some d ∧ Dd G v d
  | _, _, i, d, .nil, h => by simp at h
  | _, _, 0, d, .cons a _, h => by
    have e := Option.some.inj h
    subst e
    exact ⟨_, rfl, a⟩
  | _, _, i + 1, d, .cons _ b, h => Ds.atV (i := i) b h
theorem Ds.app {G : Hp} : ∀ {vs us : List V} {ds es : List PyData}, Ds G vs ds → Ds G us es → Ds G (vs ++ us) (ds ++ es)
  | _, _, _, _, .nil, h => h
  | _, _, _, _, .cons a b, h => .cons a (Ds.app b h)
theorem Ds.one {G : Hp} {v : V} {d : PyData} (h : Dd G v d) : Ds G [v] [d] := .cons h .nil
theorem Ds.drop {G : Hp} : ∀ (n : Nat) {vs : List V} {ds : List PyData}, Ds G vs ds → Ds G (vs.drop n) (ds.drop n)
  | 0, _, _, h => h
  | n + 1, _, _, .nil => .nil
  | n + 1, _, _, .cons _ b => Ds.drop n b
theorem Ds.take {G : Hp} : ∀ (n : Nat) {vs : List V} {ds : List PyData}, Ds G vs ds → Ds G (vs.take n) (ds.take n)
  | 0, _, _, h => .nil
  | n + 1, _, _, .nil => .nil
  | n + 1, _, _, .cons a b => .cons a (Ds.take n b)
theorem Ds.ints {G : Hp} : ∀ (ns : List Int), Ds G (ns.map V.int) (ns.map PyData.int)
  | [] => .nil
  | n :: r => .cons (.int n) (Ds.ints r)
theorem Ds.intsV {G : Hp} : ∀ {ns : List Int} {vs : List V}, Ds G vs (ns.map PyData.int) → vs = ns.map V.int
  | [], _, .nil => rfl
  | n :: r, _, .cons a b => by
    cases a
    rw [Ds.intsV b]
    rfl
theorem Ds.bls {G : Hp} : ∀ {ns : List Bool} {vs : List V}, Ds G vs (ns.map PyData.bool) → vs = ns.map V.bl
  | [], _, .nil => rfl
  | n :: r, _, .cons a b => by
    cases a
    rw [Ds.bls b]
    rfl
theorem same_upd {H : Hp} {p : Addr} {o : HO} (h : H p = none) : Same H (upd H p o) := fun b x e => by
  rw [upd_ne (ne_of_none e h)]
  exact e
theorem same_upd2 {G H : Hp} {p : Addr} {o : HO} (e : Same G H) (h : G p = none) : Same G (upd H p o) := fun b x q => by
  rw [upd_ne (ne_of_none q h)]
  exact e b x q
theorem same_both {G H : Hp} {p : Addr} {o : HO} (e : Same G H) : Same (upd G p o) (upd H p o) := fun b x q => by
  by_cases hb : b = p
  · subst hb
    rw [upd_same] at q ⊢
    exact q
  · rw [upd_ne hb] at q ⊢
    exact e b x q
theorem same_in {G H : Hp} {p : Addr} {o : HO} (e : Same G H) (h : H p = some o) : Same (upd G p o) H := fun b x q => by
  by_cases hb : b = p
  · subst hb
    rw [upd_same] at q
    rw [← q]
    exact h
  · rw [upd_ne hb] at q
    exact e b x q

/-! ## steps of a world: what stands still (G) within all (H) -/
structure Stp (G H G' H' : Hp) : Prop where
  g : Same G G'
  i : Same G' H'
  h : Same H H'
  k : ∀ a, H a ≠ none → G a = none → G' a = none
theorem Stp.refl {G H : Hp} (e : Same G H) : Stp G H G H := ⟨.refl _, e, .refl _, fun _ _ h => h⟩
theorem Stp.trans {G H G1 H1 G2 H2 : Hp} (a : Stp G H G1 H1) (b : Stp G1 H1 G2 H2) : Stp G H G2 H2 :=
  ⟨a.g.trans b.g, b.i, a.h.trans b.h, fun x hx gx => b.k x (fun z => by
    cases q : H x with
    | none => exact hx q
    | some o =>
      rw [a.h x o q] at z
      cases z) (a.k x hx gx)⟩
theorem Stp.new {G H : Hp} {p : Addr} {o : HO} (e : Same G H) (h : H p = none) : Stp G H (upd G p o) (upd H p o) :=
  ⟨same_upd (e.free h), same_both e, same_upd h, fun a ha ga => by
    rw [upd_ne (fun z => ha (by rw [z]; exact h))]
    exact ga⟩
/-- an object that came with the step, taken to what stands still -/
theorem Stp.freeze {G H G1 H1 : Hp} {p : Addr} {o : HO} (s : Stp G H G1 H1) (hp : H p = none) (g : G1 p = none) (h : H1 p = some o) : Stp G H (upd G1 p o) H1 :=
  ⟨s.g.trans (same_upd g), same_in s.i h, s.h, fun a ha ga => by
    rw [upd_ne (fun z => ha (by rw [z]; exact hp))]
    exact s.k a ha ga⟩
structure Wr where
  ok : Hp → Hp → Prop
  R : Hp → Hp → Hp → Hp → Prop
  stb : Addr → Prop
  refl : ∀ {G H}, ok G H → R G H G H
  trans : ∀ {G H G1 H1 G2 H2}, R G H G1 H1 → R G1 H1 G2 H2 → R G H G2 H2
  step : ∀ {G H G1 H1}, ok G H → Stp G H G1 H1 → R G H G1 H1
  oks : ∀ {G H G1 H1}, R G H G1 H1 → ok G1 H1
  sub : ∀ {G H}, ok G H → Same G H
  g : ∀ {G H G1 H1}, R G H G1 H1 → Same G G1
  own : ∀ {G H G1 H1 a o}, R G H G1 H1 → stb a → G a = none → H a = some o → H1 a = some o ∧ G1 a = none
  fresh : ∀ {G H G1 H1 a}, R G H G1 H1 → H1 a = none → H a = none
  new : ∀ {G H a}, ok G H → H a = none → stb a
  frz : ∀ {G H G1 H1 a o}, R G H G1 H1 → stb a → H a = none → G1 a = none → H1 a = some o → R G H (upd G1 a o) H1
  chg : ∀ {G H G1 H1 a o o'}, R G H G1 H1 → stb a → H a = none → G1 a = none → H1 a = some o → R G H G1 (upd H1 a o')
/-- nothing changes but what is made -/
def pw : Wr where
  ok := fun G H => Same G H
  R := fun G H G1 H1 => Stp G H G1 H1
  stb := fun _ => True
  refl := fun h => .refl h
  trans := Stp.trans
  step := fun _ h => h
  oks := fun h => h.i
  sub := fun h => h
  g := fun h => h.g
  own := fun s _ g h => ⟨s.h _ _ h, s.k _ (by rw [h]; exact fun z => nomatch z) g⟩
  fresh := fun s h => s.h.free h
  new := fun _ _ => trivial
  frz := fun s _ h0 g1 h1 => s.freeze h0 g1 h1
  chg := fun s _ h0 g1 h1 => ⟨s.g, same_upd2 s.i g1, same_upd2 s.h h0, s.k⟩
/-- a bag at b: a list of draws and a number -/
def BagOk (b : Addr) (G H : Hp) : Prop := Same G H ∧ G b = none ∧ ∃ (l : Addr) (k : Int) (ns : List Int), H b = some (.lst [.ref l, .int k]) ∧ G l = some (.lst (ns.map V.int)) ∧ ns.length = 400
structure BagR (b : Addr) (G H G1 H1 : Hp) : Prop where
  g : Same G G1
  ok : BagOk b G1 H1
  h : ∀ a o, a ≠ b → H a = some o → H1 a = some o
  k : ∀ a, H a ≠ none → G a = none → G1 a = none
def bw (b : Addr) : Wr where
  ok := fun G H => BagOk b G H
  R := BagR b
  stb := fun a => a ≠ b
  refl := fun h => ⟨.refl _, h, fun _ _ _ q => q, fun _ _ q => q⟩
  trans := fun {G H G1 H1 G2 H2} a c => ⟨a.g.trans c.g, c.ok, fun x o hx q => c.h x o hx (a.h x o hx q), fun x hx gx => c.k x (fun z => by
    by_cases hb : x = b
    · obtain ⟨_, _, l, k, ns, e, _⟩ := a.ok
      rw [hb, e] at z
      cases z
    · cases q : H x with
      | none => exact hx q
      | some o =>
        rw [a.h x o hb q] at z
        cases z) (a.k x hx gx)⟩
  step := fun o s => ⟨s.g, by
    obtain ⟨i, gb, l, k, ns, e, hl, n⟩ := o
    exact ⟨s.i, s.k b (by rw [e]; exact fun z => nomatch z) gb, l, k, ns, s.h _ _ e, s.g _ _ hl, n⟩, fun a o _ q => s.h a o q, s.k⟩
  oks := fun h => h.ok
  sub := fun h => h.1
  g := fun h => h.g
  own := fun s ha g h => ⟨s.h _ _ ha h, s.k _ (by rw [h]; exact fun z => nomatch z) g⟩
  fresh := fun {G H G1 H1 a} s h => by
    cases q : H a with
    | none => rfl
    | some o =>
      by_cases hb : a = b
      · obtain ⟨_, _, l, k, ns, e, _⟩ := s.ok
        rw [hb, e] at h
        cases h
      · rw [s.h a o hb q] at h
        cases h
  new := fun {G H a} o h z => by
    obtain ⟨_, _, l, k, ns, e, _⟩ := o
    rw [z, e] at h
    cases h
  frz := fun {G H G1 H1 a o} s ha h0 g1 h1 => ⟨s.g.trans (same_upd g1), by
    obtain ⟨i, gb, l, k, ns, e, hl, n⟩ := s.ok
    exact ⟨same_in i h1, by rw [upd_ne (Ne.symm ha)]; exact gb, l, k, ns, e, same_upd g1 _ _ hl, n⟩, s.h, fun x hx gx => by
      rw [upd_ne (fun z => hx (by rw [z]; exact h0))]
      exact s.k x hx gx⟩
  chg := fun {G H G1 H1 a o o'} s ha h0 g1 h1 => ⟨s.g, by
    obtain ⟨i, gb, l, k, ns, e, hl, n⟩ := s.ok
    exact ⟨same_upd2 i g1, gb, l, k, ns, by rw [upd_ne (Ne.symm ha)]; exact e, hl, n⟩, fun x o hx q => by
      rw [upd_ne (fun z => by rw [z, h0] at q; cases q)]
      exact s.h x o hx q, s.k⟩

/-! ## slots -/
inductive Sl where
  | un
  | dat (d : PyData)
  | raw (v : V)
  | own (a : Addr) (xs : List PyData)
  | scr (K : PySem.W.Frag) (a : Addr) (ns : List Int)
  | fz (d : PyData)
/-- a tuple whose object is known, and has no dict -/
def Fz (G : Hp) (v : V) : Prop := ∃ a ob us, v = .ref a ∧ G a = some (tp (some ob) us) ∧ ob.dict = none
theorem Fz.mono {G G1 : Hp} {v : V} (e : Same G G1) : Fz G v → Fz G1 v := fun ⟨a, ob, us, h1, h2, h3⟩ => ⟨a, ob, us, h1, e _ _ h2, h3⟩
def SlOk (W : Wr) (G H : Hp) : Sl → Option V → Prop
  | .un, _ => True
  | .dat d, x => ∃ v, x = some v ∧ Dd G v d
  | .raw v, x => x = some v
  | .own a xs, x => x = some (.ref a) ∧ G a = none ∧ W.stb a ∧ ∃ vs, H a = some (.lst vs) ∧ Ds G vs xs
  | .scr K a ns, x => x = some (.ref a) ∧ SqL K G a (ns.map V.int)
  | .fz d, x => ∃ v, x = some v ∧ Dd G v d ∧ Fz G v
theorem SlOk.dat {W : Wr} {G H : Hp} {v : V} {d : PyData} (h : Dd G v d) : SlOk W G H (.dat d) (some v) := ⟨v, rfl, h⟩
theorem SlOk.own {W : Wr} {G H : Hp} {a : Addr} {vs : List V} {xs : List PyData} (g : G a = none) (sb : W.stb a) (h : H a = some (.lst vs)) (hd : Ds G vs xs) : SlOk W G H (.own a xs) (some (.ref a)) := ⟨rfl, g, sb, vs, h, hd⟩
def EnvOk (W : Wr) (G H : Hp) (ds : List Sl) (σ : L2.St) : Prop := ds.length = σ.length ∧ ∀ (i : Nat) (s : Sl) (x : Option V), ds[i]? = some s → σ[i]? = some x → SlOk W G H s x
theorem SlOk.mono {W : Wr} {G H G1 H1 : Hp} (r : W.R G H G1 H1) {s : Sl} {x : Option V} (h : SlOk W G H s x) : SlOk W G1 H1 s x := by
  cases s with
  | un => trivial
  | dat d =>
    obtain ⟨v, e, q⟩ := h
    exact ⟨v, e, dmono (W.g r) d v q⟩
  | raw v => exact h
  | own a xs =>
    obtain ⟨e, g, st, vs, hv, q⟩ := h
    obtain ⟨h1, g1⟩ := W.own r st g hv
    exact ⟨e, g1, st, vs, h1, dmonoAll (W.g r) xs vs q⟩
  | scr K a ns => exact ⟨h.1, (W.g r).seq h.2⟩
  | fz d =>
    obtain ⟨v, e, q, z⟩ := h
    exact ⟨v, e, dmono (W.g r) d v q, z.mono (W.g r)⟩
theorem EnvOk.mono {W : Wr} {G H G1 H1 : Hp} (r : W.R G H G1 H1) {ds : List Sl} {σ : L2.St} (h : EnvOk W G H ds σ) : EnvOk W G1 H1 ds σ := ⟨h.1, fun i s x a b => (h.2 i s x a b).mono r⟩
theorem EnvOk.set {W : Wr} {G H : Hp} {ds : List Sl} {σ : L2.St} (h : EnvOk W G H ds σ) (i : Nat) {s : Sl} {x : Option V} (hs : SlOk W G H s x) : EnvOk W G H (ds.set i s) (σ.set i x) := by
  refine ⟨by rw [List.length_set, List.length_set]; exact h.1, fun j t y a b => ?_⟩
  by_cases e : i = j
  · subst e
    rw [List.getElem?_set_self'] at a b
    cases qa : ds[i]? with
    | none => rw [qa] at a; cases a
    | some _ => cases qb : σ[i]? with
      | none => rw [qb] at b; cases b
      | some _ =>
        rw [qa] at a
        rw [qb] at b
        cases a
        cases b
        exact hs
  · rw [List.getElem?_set_ne e] at a b
    exact h.2 j t y a b
theorem EnvOk.at {W : Wr} {G H : Hp} {ds : List Sl} {σ : L2.St} (h : EnvOk W G H ds σ) {i : Nat} {s : Sl} (e : ds[i]? = some s) : ∃ x, σ[i]? = some x ∧ SlOk W G H s x := by
  have l : i < σ.length := by
    rw [← h.1]
    exact (List.getElem?_eq_some_iff.mp e).1
  exact ⟨σ[i], List.getElem?_eq_getElem l, h.2 i s _ e (List.getElem?_eq_getElem l)⟩
/-- a slot's own list changed -/
theorem EnvOk.put {W : Wr} {G H : Hp} {ds : List Sl} {σ : L2.St} {a : Addr} {vs : List V} {xs ys : List PyData} {i : Nat} (h : EnvOk W G H ds σ) (hi : ds[i]? = some (.own a xs)) (hn : ∀ j zs, ds[j]? = some (.own a zs) → j = i)
    (hy : Ds G vs ys) : EnvOk W G (upd H a (.lst vs)) (ds.set i (.own a ys)) σ := by
  refine ⟨by rw [List.length_set]; exact h.1, fun j t y p q => ?_⟩
  by_cases e : i = j
  · subst e
    rw [List.getElem?_set_self', hi] at p
    cases p
    obtain ⟨e1, g, st, _, _, _⟩ := h.2 i _ _ hi q
    exact ⟨e1, g, st, vs, upd_same, hy⟩
  · rw [List.getElem?_set_ne e] at p
    have z := h.2 j t y p q
    cases t with
    | un => trivial
    | dat d => exact z
    | raw v => exact z
    | scr K a ns => exact z
    | fz d => exact z
    | own a' zs =>
      obtain ⟨e1, g, st, us, hu, hd⟩ := z
      refine ⟨e1, g, st, us, ?_, hd⟩
      rw [upd_ne (fun z => e (by rw [z] at p; exact (hn j zs p).symm))]
      exact hu

/-! ## the reading that says all -/
section
variable {X : Cx}
def uE (X : Cx) (e : Expr) : TE := fun σ H Q => ∃ t, PE X e t ∧ t σ H Q
def uT (X : Cx) (e : Expr) : TT := fun σ H Q => ∃ t, PT X e t ∧ t σ H Q
def uW (X : Cx) (e : Expr) : TT := fun σ H Q => ∃ t, PW X e t ∧ t σ H Q
def uA (X : Cx) (es : List Expr) : TA := fun σ H Q => ∃ t, PA X es t ∧ t σ H Q
def uS (X : Cx) (st : Stmt) : TS := fun D σ H => ∃ t, PS X st t ∧ t D σ H
def uB (X : Cx) (sts : List Stmt) : TS := fun D σ H => ∃ t, PSs X sts t ∧ t D σ H
theorem pe_u {e : Expr} : PE X e (uE X e) := ⟨fun pins s σ H Q I ⟨_, p, h⟩ => p.run pins s σ H Q I h⟩
theorem pt_u {e : Expr} : PT X e (uT X e) := ⟨fun pins s σ H Q I ⟨_, p, h⟩ => p.run pins s σ H Q I h⟩
theorem pw_u {e : Expr} : PW X e (uW X e) := ⟨fun w pins s σ H Q I ⟨_, p, h⟩ => p.run w pins s σ H Q I h⟩
theorem pa_u {es : List Expr} : PA X es (uA X es) := ⟨fun pos pins s σ H Q I ⟨_, p, h⟩ => p.run pos pins s σ H Q I h⟩
theorem ps_u {st : Stmt} : PS X st (uS X st) := ⟨fun pins s σ H D I ⟨_, p, h⟩ => p.run pins s σ H D I h⟩
theorem pss_u {sts : List Stmt} : PSs X sts (uB X sts) := ⟨fun pins s σ H D I ⟨_, p, h⟩ => p.run pins s σ H D I h⟩
end

/-! ## judgements -/
section
variable (X : Cx) (W : Wr) (ds : List Sl)
def EmR (t : TE) (P : PyData → Prop) : Prop := ∀ σ G H, W.ok G H → EnvOk W G H ds σ → ∀ Q : VK, (∀ v d G2 H2, W.R G H G2 H2 → Dd G2 v d → P d → Q v H2) → t σ H Q
def TmR (t : TT) (P : Bool → Prop) : Prop := ∀ σ G H, W.ok G H → EnvOk W G H ds σ → ∀ Q : Bool → Hp → Prop, (∀ b G2 H2, W.R G H G2 H2 → P b → Q b H2) → t σ H Q
def AmR (t : TA) (P : List PyData → Prop) : Prop := ∀ σ G H, W.ok G H → EnvOk W G H ds σ → ∀ Q : List V → Hp → Prop, (∀ vs as G2 H2, W.R G H G2 H2 → Ds G2 vs as → P as → Q vs H2) → t σ H Q
def Em (e : Expr) (P : PyData → Prop) : Prop := EmR W ds (uE X e) P
def Tm (e : Expr) (P : Bool → Prop) : Prop := TmR W ds (uT X e) P
def Wm (e : Expr) (P : Bool → Prop) : Prop := TmR W ds (uW X e) P
def Am (es : List Expr) (P : List PyData → Prop) : Prop := AmR W ds (uA X es) P
end
abbrev NX := List Sl → Prop
abbrev RT := V → Hp → Hp → Prop
/-- where one stands: reached from the entry (G0, H0), all of Gb still there -/
structure At (W : Wr) (Gb G0 H0 G H : Hp) : Prop where
  b : Same Gb G
  r : W.R G0 H0 G H
section
variable {W : Wr} {Gb G0 H0 G H G2 H2 : Hp} {a : Addr} {o o' : HO}
theorem At.ok (s : At W Gb G0 H0 G H) : W.ok G H := W.oks s.r
theorem At.to (s : At W Gb G0 H0 G H) (r : W.R G H G2 H2) : At W Gb G0 H0 G2 H2 := ⟨s.b.trans (W.g r), W.trans s.r r⟩
theorem At.fresh (s : At W Gb G0 H0 G H) (h : H a = none) : H0 a = none := W.fresh s.r h
theorem At.chg (s : At W Gb G0 H0 G H) (sb : W.stb a) (h0 : H0 a = none) (g : G a = none) (h : H a = some o) : At W Gb G0 H0 G (upd H a o') := ⟨s.b, W.chg s.r sb h0 g h⟩
theorem At.frz (s : At W Gb G0 H0 G H) (sb : W.stb a) (h0 : H0 a = none) (g : G a = none) (h : H a = some o) : At W Gb G0 H0 (upd G a o) H := ⟨s.b.trans (same_upd g), W.frz s.r sb h0 g h⟩
end
/-- statements: from the entry (G0, H0) -/
def SmR (W : Wr) (G0 H0 : Hp) (ds : List Sl) (t : TS) (N : NX) (B C : NX) (r : RT) : Prop := ∀ Gb σ G H (D : Ends), At W Gb G0 H0 G H → EnvOk W G H ds σ →
  (∀ ds' σ' G2 H2, At W Gb G0 H0 G2 H2 → EnvOk W G2 H2 ds' σ' → N ds' → D.nx σ' H2) →
  (∀ ds' σ' G2 H2, At W Gb G0 H0 G2 H2 → EnvOk W G2 H2 ds' σ' → B ds' → D.bk σ' H2) →
  (∀ ds' σ' G2 H2, At W Gb G0 H0 G2 H2 → EnvOk W G2 H2 ds' σ' → C ds' → D.ct σ' H2) →
  (∀ v G2 H2, W.R G0 H0 G2 H2 → r v G2 H2 → D.rt v H2) → t D σ H
section
variable (X : Cx) (W : Wr) (G0 H0 : Hp) (ds : List Sl)
def Sm (st : Stmt) (N B C : NX) (r : RT) : Prop := SmR W G0 H0 ds (uS X st) N B C r
def Bm (sts : List Stmt) (N B C : NX) (r : RT) : Prop := SmR W G0 H0 ds (uB X sts) N B C r
end
abbrev nono : NX := fun _ => False
/-- returned: data of which P holds -/
def rD (P : PyData → Prop) : RT := fun v G _ => ∃ d, Dd G v d ∧ P d
/-- returned: a new list -/
def rL (H0 : Hp) (P : List PyData → Prop) : RT := fun v G H => ∃ p vs xs, v = .ref p ∧ H0 p = none ∧ G p = none ∧ H p = some (.lst vs) ∧ Ds G vs xs ∧ P xs

/-! ## promises -/
/-- of data, to data -/
def spP (pre : List PyData → Prop) (post : List PyData → PyData → Prop) : Sp := fun vs H Q _ => ∃ G as, Same G H ∧ Ds G vs as ∧ pre as ∧ ∀ v d G' H', Stp G H G' H' → Dd G' v d → post as d → Q v H'
/-- of data, to a new list -/
def spL (pre : List PyData → Prop) (post : List PyData → List PyData → Prop) : Sp := fun vs H Q _ => ∃ G as, Same G H ∧ Ds G vs as ∧ pre as ∧ ∀ p us xs G' H', Stp G H G' H' → H p = none → G' p = none → H' p = some (.lst us) → Ds G' us xs → post as xs → Q (.ref p) H'
/-- of a bag and data, to data -/
def spB (pre : List PyData → Prop) (post : List PyData → PyData → Prop) : Sp := fun vs H Q _ => ∃ b us G as, vs = .ref b :: us ∧ BagOk b G H ∧ Ds G us as ∧ pre as ∧ ∀ v d G' H', BagR b G H G' H' → Dd G' v d → post as d → Q v H'
end Dn
namespace Dn
open PySem PySem.Spec PyProof.Rows L2
section
variable {X : Cx} {W : Wr} {ds : List Sl} {e a b c : Expr} {es : List Expr} {pos p2 p3 : Pos} {P : PyData → Prop} {d : PyData} {i j : Int}
theorem em_of {t : TE} (h : PE X e t) (m : EmR W ds t P) : Em X W ds e P := fun σ G H ok env Q q => ⟨t, h, m σ G H ok env Q q⟩
theorem tm_of {t : TT} {P : Bool → Prop} (h : PT X e t) (m : TmR W ds t P) : Tm X W ds e P := fun σ G H ok env Q q => ⟨t, h, m σ G H ok env Q q⟩
theorem wm_of {t : TT} {P : Bool → Prop} (h : PW X e t) (m : TmR W ds t P) : Wm X W ds e P := fun σ G H ok env Q q => ⟨t, h, m σ G H ok env Q q⟩
theorem am_of {t : TA} {P : List PyData → Prop} (h : PA X es t) (m : AmR W ds t P) : Am X W ds es P := fun σ G H ok env Q q => ⟨t, h, m σ G H ok env Q q⟩
theorem em_mono {P' : PyData → Prop} (h : Em X W ds e P) (k : ∀ d, P d → P' d) : Em X W ds e P' := fun σ G H ok env Q q => h σ G H ok env Q fun v d G2 H2 r hd p => q v d G2 H2 r hd (k d p)
theorem em_is {d' : PyData} (h : Em X W ds e (· = d)) (k : d = d') : Em X W ds e (· = d') := k ▸ h
theorem tm_mono {P P' : Bool → Prop} (h : Tm X W ds e P) (k : ∀ d, P d → P' d) : Tm X W ds e P' := fun σ G H ok env Q q => h σ G H ok env Q fun b G2 H2 r p => q b G2 H2 r (k b p)
/-! ### names and constants -/
theorem em_var (i : Nat) {x : Str} (hi : ds[i]? = some (.dat d)) (hN : X.N[i]? = some x := by rfl) (hv : Vis X.env.scope x := by first | exact Or.inl rfl | exact Or.inr (Or.inl rfl) | exact Or.inr (Or.inr rfl)) (hd : (x == ("__debug__" : Str)) = false := by decide)
    (hcd : (x == ("__classdict__" : Str)) = false := by decide) : Em X W ds (.Name x pos) (· = d) := em_of (pv i hN hv hd hcd) fun σ G H ok env Q q => by
  obtain ⟨x, e, v, ev, hv⟩ := env.at hi
  exact ⟨v, by rw [e, ev], q v d G H (W.refl ok) hv rfl⟩
theorem em_int {n : Nat} : Em X W ds (.Constant (.int i) n pos) (· = .int i) := em_of pe_int fun σ G H ok env Q q => q _ _ G H (W.refl ok) (.int i) rfl
theorem em_str {x : Str} {n : Nat} : Em X W ds (.Constant (.str x) n pos) (· = .str x) := em_of pe_str fun σ G H ok env Q q => q _ _ G H (W.refl ok) (.str x) rfl
theorem em_bl {x : Bool} {n : Nat} : Em X W ds (.Constant (.bool x) n pos) (· = .bool x) := em_of pe_bl fun σ G H ok env Q q => q _ _ G H (W.refl ok) (.bl x) rfl
theorem em_non {n : Nat} : Em X W ds (.Constant .none n pos) (· = .none) := em_of pe_non fun σ G H ok env Q q => q _ _ G H (W.refl ok) .non rfl
theorem em_gint {x : Str} {t : Tok} (hm : X.mg x = some (.int i t)) (hg : Gl X x := by rfl) (hd : (x == ("__debug__" : Str)) = false := by decide) : Em X W ds (.Name x pos) (· = .int i) :=
  em_of (pe_glob (v := .int i) hg hm ⟨_, rfl⟩ hd) fun σ G H ok env Q q => q _ _ G H (W.refl ok) (.int i) rfl
theorem em_gstr {x z : Str} {t : Tok} (hm : X.mg x = some (.str z t)) (hg : Gl X x := by rfl) (hd : (x == ("__debug__" : Str)) = false := by decide) : Em X W ds (.Name x pos) (· = .str z) :=
  em_of (pe_glob (v := .str z) hg hm ⟨_, rfl⟩ hd) fun σ G H ok env Q q => q _ _ G H (W.refl ok) (.str z) rfl
/-! ### two operands -/
theorem em_op2 {r : R2} {ta tb : TE} {Pa Pb : PyData → Prop} (ha : EmR W ds ta Pa) (hb : EmR W ds tb Pb)
    (hr : ∀ G H x y dx dy, W.ok G H → Dd G x dx → Dd G y dy → Pa dx → Pb dy → ∀ Q : VK, (∀ v d G2 H2, W.R G H G2 H2 → Dd G2 v d → P d → Q v H2) → r x y H Q) : EmR W ds (tOp r ta tb) P := fun σ G H ok env Q q =>
  ha σ G H ok env _ fun x dx G1 H1 r1 hx px => hb σ G1 H1 (W.oks r1) (env.mono r1) _ fun y dy G2 H2 r2 hy py =>
    hr G2 H2 x y dx dy (W.oks r2) (dmono (W.g r2) _ _ hx) hy px py Q fun v d G3 H3 r3 hv pv => q v d G3 H3 (W.trans (W.trans r1 r2) r3) hv pv
theorem em_opI0 {op : Operator} {g : Int → Int → V} (f : Int → Int → PyData) (ho : OpR X (binaryOp op) (rI0 g)) (hf : ∀ (H : Hp) i j, Dd H (g i j) (f i j)) {Pa Pb : PyData → Prop} (ha : Em X W ds a Pa) (hb : Em X W ds b Pb)
    (k : ∀ x y, Pa x → Pb y → ∃ i j, x = .int i ∧ y = .int j ∧ P (f i j)) : Em X W ds (.BinOp a op b pos) P := em_of (pe_op ho pe_u pe_u) (em_op2 ha hb fun G H x y dx dy ok hx hy px py Q q => by
  obtain ⟨i, j, rfl, rfl, p⟩ := k dx dy px py
  cases hx
  cases hy
  exact ⟨i, j, rfl, rfl, q _ _ G H (W.refl ok) (hf G i j) p⟩)
theorem em_opI {op : Operator} {C : Int → Int → Prop} {g : Int → Int → V} (f : Int → Int → PyData) (ho : OpR X (binaryOp op) (rI C g)) (hf : ∀ (H : Hp) i j, Dd H (g i j) (f i j)) {Pa Pb : PyData → Prop} (ha : Em X W ds a Pa) (hb : Em X W ds b Pb)
    (k : ∀ x y, Pa x → Pb y → ∃ i j, x = .int i ∧ y = .int j ∧ C i j ∧ P (f i j)) : Em X W ds (.BinOp a op b pos) P := em_of (pe_op ho pe_u pe_u) (em_op2 ha hb fun G H x y dx dy ok hx hy px py Q q => by
  obtain ⟨i, j, rfl, rfl, c, p⟩ := k dx dy px py
  cases hx
  cases hy
  exact ⟨i, j, rfl, rfl, c, q _ _ G H (W.refl ok) (hf G i j) p⟩)
theorem em_cmpI0 {op : CmpOp} {g : Int → Int → Bool} (ho : OpR X (compareOp op) (rI0 fun i j => .bl (g i j))) {Pa Pb : PyData → Prop} (ha : Em X W ds a Pa) (hb : Em X W ds b Pb)
    (k : ∀ x y, Pa x → Pb y → ∃ i j, x = .int i ∧ y = .int j ∧ P (.bool (g i j))) (hm : behindInMarks op b = false) : Em X W ds (.Compare a [op] [b] pos) P := em_of (pe_cmpR ho pe_u pe_u hm) (em_op2 ha hb fun G H x y dx dy ok hx hy px py Q q => by
  obtain ⟨i, j, rfl, rfl, p⟩ := k dx dy px py
  cases hx
  cases hy
  exact ⟨i, j, rfl, rfl, q _ _ G H (W.refl ok) (.bl _) p⟩)
theorem two {f : Int → Int → PyData} {x y : PyData} (hx : x = .int i) (hy : y = .int j) : ∃ i' j', x = .int i' ∧ y = .int j' ∧ f i' j' = f i j := ⟨i, j, hx, hy, rfl⟩
theorem twoC {f : Int → Int → PyData} {C : Int → Int → Prop} {x y : PyData} (c : C i j) (hx : x = .int i) (hy : y = .int j) : ∃ i' j', x = .int i' ∧ y = .int j' ∧ C i' j' ∧ f i' j' = f i j := ⟨i, j, hx, hy, c, rfl⟩
theorem em_add (ha : Em X W ds a (· = .int i)) (hb : Em X W ds b (· = .int j)) : Em X W ds (.BinOp a .Add b pos) (· = .int (i + j)) := em_opI0 (fun i j => .int (i + j)) op_add (fun _ _ _ => .int _) ha hb fun _ _ hx hy => two hx hy
theorem em_sub (ha : Em X W ds a (· = .int i)) (hb : Em X W ds b (· = .int j)) : Em X W ds (.BinOp a .Sub b pos) (· = .int (i - j)) := em_opI0 (fun i j => .int (i - j)) op_sub (fun _ _ _ => .int _) ha hb fun _ _ hx hy => two hx hy
theorem em_mul (h : CMulW i j) (ha : Em X W ds a (· = .int i)) (hb : Em X W ds b (· = .int j)) : Em X W ds (.BinOp a .Mult b pos) (· = .int (i * j)) := em_opI (fun i j => .int (i * j)) op_mulW (fun _ _ _ => .int _) ha hb fun _ _ hx hy => twoC h hx hy
theorem em_mulS (h : CMul i j) (ha : Em X W ds a (· = .int i)) (hb : Em X W ds b (· = .int j)) : Em X W ds (.BinOp a .Mult b pos) (· = .int (i * j)) := em_opI (fun i j => .int (i * j)) op_mul (fun _ _ _ => .int _) ha hb fun _ _ hx hy => twoC h hx hy
theorem em_fdiv (h : CDivW i j) (ha : Em X W ds a (· = .int i)) (hb : Em X W ds b (· = .int j)) : Em X W ds (.BinOp a .FloorDiv b pos) (· = .int (i / j)) := em_opI (fun i j => .int (i / j)) op_fdivW (fun _ _ _ => .int _) ha hb fun _ _ hx hy => twoC h hx hy
theorem em_mod (h : 0 < j) (ha : Em X W ds a (· = .int i)) (hb : Em X W ds b (· = .int j)) : Em X W ds (.BinOp a .Mod b pos) (· = .int (i % j)) := em_opI (fun i j => .int (i % j)) op_mod (fun _ _ _ => .int _) ha hb fun _ _ hx hy => twoC (C := fun _ j => 0 < j) h hx hy
theorem em_pow (h : CPow i j) (ha : Em X W ds a (· = .int i)) (hb : Em X W ds b (· = .int j)) : Em X W ds (.BinOp a .Pow b pos) (· = .int (i ^ j.toNat)) := em_opI (fun i j => .int (i ^ j.toNat)) op_pow (fun _ _ _ => .int _) ha hb fun _ _ hx hy => twoC h hx hy
/-- the same where the operands are only partly known -/
theorem em_add' {Pa Pb : PyData → Prop} (ha : Em X W ds a Pa) (hb : Em X W ds b Pb) (k : ∀ x y, Pa x → Pb y → ∃ i j, x = .int i ∧ y = .int j ∧ P (.int (i + j))) : Em X W ds (.BinOp a .Add b pos) P := em_opI0 (fun i j => .int (i + j)) op_add (fun _ _ _ => .int _) ha hb k
theorem em_mod' {Pa Pb : PyData → Prop} (ha : Em X W ds a Pa) (hb : Em X W ds b Pb) (k : ∀ x y, Pa x → Pb y → ∃ i j, x = .int i ∧ y = .int j ∧ 0 < j ∧ P (.int (i % j))) : Em X W ds (.BinOp a .Mod b pos) P := em_opI (fun i j => .int (i % j)) op_mod (fun _ _ _ => .int _) ha hb k
theorem em_mul' {Pa Pb : PyData → Prop} (ha : Em X W ds a Pa) (hb : Em X W ds b Pb) (k : ∀ x y, Pa x → Pb y → ∃ i j, x = .int i ∧ y = .int j ∧ CMulW i j ∧ P (.int (i * j))) : Em X W ds (.BinOp a .Mult b pos) P := em_opI (fun i j => .int (i * j)) op_mulW (fun _ _ _ => .int _) ha hb k
theorem em_neg (ha : Em X W ds a (· = .int i)) : Em X W ds (.UnaryOp .USub a pos) (· = .int (-i)) := em_of (pe_un un_neg pe_u) fun σ G H ok env Q q => ha σ G H ok env _ fun v d G2 H2 r hd e => by
  subst e
  cases hd
  exact ⟨i, rfl, q _ _ G2 H2 r (.int _) rfl⟩
/-! ### comparisons -/
theorem em_lt (ha : Em X W ds a (· = .int i)) (hb : Em X W ds b (· = .int j)) : Em X W ds (.Compare a [.Lt] [b] pos) (· = .bool (decide (i < j))) := em_cmpI0 op_lt ha hb (fun _ _ hx hy => ⟨i, j, hx, hy, rfl⟩) (nomark _)
theorem em_le (ha : Em X W ds a (· = .int i)) (hb : Em X W ds b (· = .int j)) : Em X W ds (.Compare a [.LtE] [b] pos) (· = .bool (decide (i ≤ j))) := em_cmpI0 op_le ha hb (fun _ _ hx hy => ⟨i, j, hx, hy, rfl⟩) (nomark _)
theorem em_gt (ha : Em X W ds a (· = .int i)) (hb : Em X W ds b (· = .int j)) : Em X W ds (.Compare a [.Gt] [b] pos) (· = .bool (decide (j < i))) := em_cmpI0 op_gt ha hb (fun _ _ hx hy => ⟨i, j, hx, hy, rfl⟩) (nomark _)
theorem em_ge (ha : Em X W ds a (· = .int i)) (hb : Em X W ds b (· = .int j)) : Em X W ds (.Compare a [.GtE] [b] pos) (· = .bool (decide (j ≤ i))) := em_cmpI0 op_ge ha hb (fun _ _ hx hy => ⟨i, j, hx, hy, rfl⟩) (nomark _)
theorem em_eqI (ha : Em X W ds a (· = .int i)) (hb : Em X W ds b (· = .int j)) : Em X W ds (.Compare a [.Eq] [b] pos) (· = .bool (decide (i = j))) := em_of (pe_cmpR op_eq pe_u pe_u (nomark _)) (em_op2 ha hb fun G H x y dx dy ok hx hy px py Q q => by
  subst px
  subst py
  cases hx
  cases hy
  exact ⟨rfl, q _ _ G H (W.refl ok) (.bl _) (by rw [dec_int, Bool.beq_eq_decide_eq])⟩)
theorem em_neI (ha : Em X W ds a (· = .int i)) (hb : Em X W ds b (· = .int j)) : Em X W ds (.Compare a [.NotEq] [b] pos) (· = .bool (!decide (i = j))) := em_of (pe_cmpR op_ne pe_u pe_u (nomark _)) (em_op2 ha hb fun G H x y dx dy ok hx hy px py Q q => by
  subst px
  subst py
  cases hx
  cases hy
  exact ⟨rfl, q _ _ G H (W.refl ok) (.bl _) (by rw [dec_int, Bool.beq_eq_decide_eq])⟩)
theorem em_eqS {x y : Str} (ha : Em X W ds a (· = .str x)) (hb : Em X W ds b (· = .str y)) : Em X W ds (.Compare a [.Eq] [b] pos) (· = .bool (decide (x = y))) := em_of (pe_cmpR op_eq pe_u pe_u (nomark _)) (em_op2 ha hb fun G H u v dx dy ok hx hy px py Q q => by
  subst px
  subst py
  cases hx
  cases hy
  exact ⟨rfl, q _ _ G H (W.refl ok) (.bl _) (by rw [dec_str]; rw [Bool.beq_eq_decide_eq])⟩)
theorem em_eqD {k : Nat} {d d' : PyData} (hr : Room k X.A) (s : SeqAt.shaped d = true) (s' : SeqAt.shaped d' = true) (ha : Em X W ds a (· = d)) (hb : Em X W ds b (· = d')) : Em X W ds (.Compare a [.Eq] [b] pos) (· = .bool (PyData.eqv d d')) := em_of (pe_cmpR (op_eqD hr.units) pe_u pe_u (nomark _)) (em_op2 ha hb fun G H u v dx dy ok hx hy px py Q q => by
  subst px
  subst py
  exact ⟨_, _, ddp _ _ (dmono (W.sub ok) _ _ hx), ddp _ _ (dmono (W.sub ok) _ _ hy), s, s', q _ _ G H (W.refl ok) (.bl _) rfl⟩)
theorem em_neD {k : Nat} {d d' : PyData} (hr : Room k X.A) (s : SeqAt.shaped d = true) (s' : SeqAt.shaped d' = true) (ha : Em X W ds a (· = d)) (hb : Em X W ds b (· = d')) : Em X W ds (.Compare a [.NotEq] [b] pos) (· = .bool (!PyData.eqv d d')) := em_of (pe_cmpR (op_neD hr.units) pe_u pe_u (nomark _)) (em_op2 ha hb fun G H u v dx dy ok hx hy px py Q q => by
  subst px
  subst py
  exact ⟨_, _, ddp _ _ (dmono (W.sub ok) _ _ hx), ddp _ _ (dmono (W.sub ok) _ _ hy), s, s', q _ _ G H (W.refl ok) (.bl _) rfl⟩)
theorem em_isN (ha : Em X W ds a (· = d)) {n : Nat} : Em X W ds (.Compare a [.Is] [.Constant .none n p2] pos) (· = .bool (match d with | .none => true | _ => false)) := em_of (pe_cmp (pc_isN pe_u)) fun σ G H ok env Q q => ha σ G H ok env _ fun v d' G2 H2 r hd e => by
  subst e
  refine q _ _ G2 H2 r (.bl _) ?_
  cases hd <;> rfl
theorem em_notN (ha : Em X W ds a (· = d)) {n : Nat} : Em X W ds (.Compare a [.IsNot] [.Constant .none n p2] pos) (· = .bool (match d with | .none => false | _ => true)) := em_of (pe_cmp (pc_notN pe_u)) fun σ G H ok env Q q => ha σ G H ok env _ fun v d' G2 H2 r hd e => by
  subst e
  refine q _ _ G2 H2 r (.bl _) ?_
  cases hd <;> rfl
/-- x < y < z of ints -/
theorem em_chain {op op' : CmpOp} {g g' : Int → Int → Bool} {l : Int} (ho : OpR X (compareOp op) (rI0 fun i j => .bl (g i j))) (ho' : OpR X (compareOp op') (rI0 fun i j => .bl (g' i j))) (ha : Em X W ds a (· = .int i)) (hb : Em X W ds b (· = .int j)) (hc : Em X W ds c (· = .int l))
    (hm : lastMarks [op, op'] [b, c] = false := by with_unfolding_all rfl) : Em X W ds (.Compare a [op, op'] [b, c] pos) (· = .bool (g i j && g' j l)) := em_of (pe_chain ho ho' pe_u pe_u pe_u hm) fun σ G H ok env Q q =>
  ha σ G H ok env _ fun x dx G1 H1 r1 hx px => hb σ G1 H1 (W.oks r1) (env.mono r1) _ fun y dy G2 H2 r2 hy py => by
    subst px
    subst py
    cases hx
    cases hy
    refine ⟨i, j, rfl, rfl, _, rfl, ?_⟩
    cases e : g i j with
    | true =>
      rw [if_pos rfl]
      refine hc σ G2 H2 (W.oks r2) ((env.mono r1).mono r2) _ fun z dz G3 H3 r3 hz pz => ?_
      subst pz
      cases hz
      exact ⟨j, l, rfl, rfl, q _ _ G3 H3 (W.trans (W.trans r1 r2) r3) (.bl _) (by rw [e] <;> rfl)⟩
    | false =>
      rw [if_neg Bool.false_ne_true]
      exact q _ _ G2 H2 (W.trans r1 r2) (.bl _) (by rw [e] <;> rfl)
/-- a op1 b op2 c op3 e -/
def tChain3 (r r' r'' : R2) (ta tb tc te : TE) : TE := fun σ H Q => ta σ H fun x H1 => tb σ H1 fun y H2 => r x y H2 fun z H3 => ∃ k, z = .bl k ∧
  (if k = true then tc σ H3 fun u H4 => r' y u H4 fun z' H5 => ∃ k', z' = .bl k' ∧ (if k' = true then te σ H5 fun u' H6 => r'' u u' H6 Q else Q (.bl false) H5) else Q (.bl false) H3)
theorem pe_chain3 {op op' op'' : CmpOp} {r r' r'' : R2} {ta tb tc te : TE} (ho : OpR X (compareOp op) r) (ho' : OpR X (compareOp op') r') (ho'' : OpR X (compareOp op'') r'') (ha : PE X a ta) (hb : PE X b tb) (hc : PE X c tc) (he : PE X e te)
    (hm : lastMarks [op, op', op''] [b, c, e] = false := by with_unfolding_all rfl) : PE X (.Compare a [op, op', op''] [b, c, e] pos) (tChain3 r r' r'' ta tb tc te) := by
  refine ⟨fun pins s σ H Q I h => ?_⟩
  refine Compare_chain (thn (ha.run pins s σ H _ I h) fun v s1 ⟨x, H1, I1, r1, q1⟩ => chain_link (thn (hb.run pins s1 σ H1 _ I1 q1) fun u s2 ⟨y, H2, I2, r2, q2⟩ =>
    thn (ho pins s2 σ H2 x y v u _ I2 r1 r2 q2) fun d s3 ⟨z, H3, I3, r3, k, e3, q3⟩ => ?_)) hm
  subst e3
  cases r3
  refine wpAny_truthy_bool ?_
  cases k with
  | false => exact ite_ff ⟨.bl false, H3, I3, rfl, q3⟩
  | true =>
    refine ite_tt (chain_link (thn (hc.run pins s3 σ H3 _ I3 q3) fun u4 s4 ⟨y4, H4, I4, r4, q4⟩ => thn (ho' pins s4 σ H4 y y4 u u4 _ I4 r2 r4 q4) fun d5 s5 ⟨z5, H5, I5, r5, k5, e5, q5⟩ => ?_))
    subst e5
    cases r5
    refine wpAny_truthy_bool ?_
    cases k5 with
    | false => exact ite_ff ⟨.bl false, H5, I5, rfl, q5⟩
    | true => exact ite_tt (chain_last (thn (he.run pins s5 σ H5 _ I5 q5) fun w' s6 ⟨z', H6, I6, r6, q6⟩ => ho'' pins s6 σ H6 y4 z' u4 w' Q I6 r4 r6 q6))
theorem em_chain3 {op op' op'' : CmpOp} {g g' g'' : Int → Int → Bool} {l m : Int} (ho : OpR X (compareOp op) (rI0 fun i j => .bl (g i j))) (ho' : OpR X (compareOp op') (rI0 fun i j => .bl (g' i j))) (ho'' : OpR X (compareOp op'') (rI0 fun i j => .bl (g'' i j)))
    (ha : Em X W ds a (· = .int i)) (hb : Em X W ds b (· = .int j)) (hc : Em X W ds c (· = .int l)) (he : Em X W ds e (· = .int m)) (hm : lastMarks [op, op', op''] [b, c, e] = false := by with_unfolding_all rfl) :
    Em X W ds (.Compare a [op, op', op''] [b, c, e] pos) (· = .bool (g i j && (g' j l && g'' l m))) := em_of (pe_chain3 ho ho' ho'' pe_u pe_u pe_u pe_u hm) fun σ G H ok env Q q =>
  ha σ G H ok env _ fun x dx G1 H1 r1 hx px => hb σ G1 H1 (W.oks r1) (env.mono r1) _ fun y dy G2 H2 r2 hy py => by
    subst px
    subst py
    cases hx
    cases hy
    refine ⟨i, j, rfl, rfl, _, rfl, ?_⟩
    cases e1 : g i j with
    | true =>
      rw [if_pos rfl]
      refine hc σ G2 H2 (W.oks r2) ((env.mono r1).mono r2) _ fun z dz G3 H3 r3 hz pz => ?_
      subst pz
      cases hz
      refine ⟨j, l, rfl, rfl, _, rfl, ?_⟩
      cases e2 : g' j l with
      | true =>
        rw [if_pos rfl]
        refine he σ G3 H3 (W.oks r3) (((env.mono r1).mono r2).mono r3) _ fun z dz G4 H4 r4 hz pz => ?_
        subst pz
        cases hz
        exact ⟨l, m, rfl, rfl, q _ _ G4 H4 (W.trans (W.trans (W.trans r1 r2) r3) r4) (.bl _) (by rw [e1, e2] <;> rfl)⟩
      | false =>
        rw [if_neg Bool.false_ne_true]
        exact q _ _ G3 H3 (W.trans (W.trans r1 r2) r3) (.bl _) (by rw [e1, e2] <;> rfl)
    | false =>
      rw [if_neg Bool.false_ne_true]
      exact q _ _ G2 H2 (W.trans r1 r2) (.bl _) (by rw [e1] <;> rfl)
/-! ### and, or, not as values -/
theorem em_one {op : BoolOp} (h : Em X W ds a P) : Em X W ds (.BoolOp op [a] pos) P := em_of (pe_one pe_u) h
theorem em_and {rest : List Expr} {x : Bool} {P : PyData → Prop} (ha : Em X W ds a (· = .bool x)) (hf : x = false → P (.bool false)) (hb : x = true → Em X W ds (.BoolOp .And (b :: rest) pos) P) : Em X W ds (.BoolOp .And (a :: b :: rest) pos) P := em_of (pe_and pe_u pe_u) fun σ G H ok env Q q =>
  ha σ G H ok env _ fun v d G1 H1 r1 hd e => by
    subst e
    cases hd
    refine ⟨x, rfl, ?_⟩
    cases x with
    | true =>
      rw [if_pos rfl]
      exact hb rfl σ G1 H1 (W.oks r1) (env.mono r1) _ fun v d G2 H2 r2 hd p => q v d G2 H2 (W.trans r1 r2) hd p
    | false =>
      rw [if_neg Bool.false_ne_true]
      exact q _ _ G1 H1 r1 (.bl _) (hf rfl)
theorem em_or {rest : List Expr} {x : Bool} {P : PyData → Prop} (ha : Em X W ds a (· = .bool x)) (hf : x = true → P (.bool true)) (hb : x = false → Em X W ds (.BoolOp .Or (b :: rest) pos) P) : Em X W ds (.BoolOp .Or (a :: b :: rest) pos) P := em_of (pe_or pe_u pe_u) fun σ G H ok env Q q =>
  ha σ G H ok env _ fun v d G1 H1 r1 hd e => by
    subst e
    cases hd
    refine ⟨x, rfl, ?_⟩
    cases x with
    | false =>
      rw [if_neg Bool.false_ne_true]
      exact hb rfl σ G1 H1 (W.oks r1) (env.mono r1) _ fun v d G2 H2 r2 hd p => q v d G2 H2 (W.trans r1 r2) hd p
    | true =>
      rw [if_pos rfl]
      exact q _ _ G1 H1 r1 (.bl _) (hf rfl)
theorem em_not {x : Bool} (ha : Em X W ds a (· = .bool x)) : Em X W ds (.UnaryOp .Not a pos) (· = .bool (!x)) := em_of (pe_not pe_u) fun σ G H ok env Q q => ha σ G H ok env _ fun v d G1 H1 r1 hd e => by
  subst e
  cases hd
  exact ⟨x, rfl, q _ _ G1 H1 r1 (.bl _) rfl⟩
/-! ### tests -/
theorem tm_val {x : Bool} (h : Em X W ds e (· = .bool x)) (he : ∀ whole, isTrue e X.env whole = (do let v ← whole; standAt e.pos; holding [v] (truthy v)) := by intro _; rfl) : Tm X W ds e (· = x) := tm_of (pt_val pe_u he) fun σ G H ok env Q q =>
  h σ G H ok env _ fun v d G1 H1 r1 hd e => by
    subst e
    cases hd
    exact ⟨x, rfl, q _ G1 H1 r1 rfl⟩
theorem tm_cmp {op : CmpOp} {r : R2} {P : Bool → Prop} (ho : OpR X (compareOp op) r) (hm : behindInMarks op b = false) (h : EmR W ds (tOp r (uE X a) (uE X b)) (fun d => ∃ x, d = .bool x ∧ P x)) : Tm X W ds (.Compare a [op] [b] pos) P := tm_of (pt_cmpR ho pe_u pe_u hm) fun σ G H ok env Q q =>
  h σ G H ok env _ fun v d G1 H1 r1 hd ⟨x, e, p⟩ => by
    subst e
    cases hd
    exact ⟨x, rfl, q _ G1 H1 r1 p⟩
theorem tm_I {op : CmpOp} {g : Int → Int → Bool} (ho : OpR X (compareOp op) (rI0 fun i j => .bl (g i j))) (hm : behindInMarks op b = false) (ha : Em X W ds a (· = .int i)) (hb : Em X W ds b (· = .int j)) : Tm X W ds (.Compare a [op] [b] pos) (· = g i j) :=
  tm_cmp ho hm (em_op2 ha hb fun G H x y dx dy ok hx hy px py Q q => by
    subst px
    subst py
    cases hx
    cases hy
    exact ⟨i, j, rfl, rfl, q _ _ G H (W.refl ok) (.bl _) ⟨_, rfl, rfl⟩⟩)
theorem tm_lt (ha : Em X W ds a (· = .int i)) (hb : Em X W ds b (· = .int j)) : Tm X W ds (.Compare a [.Lt] [b] pos) (· = decide (i < j)) := tm_I op_lt (nomark _) ha hb
theorem tm_le (ha : Em X W ds a (· = .int i)) (hb : Em X W ds b (· = .int j)) : Tm X W ds (.Compare a [.LtE] [b] pos) (· = decide (i ≤ j)) := tm_I op_le (nomark _) ha hb
theorem tm_gt (ha : Em X W ds a (· = .int i)) (hb : Em X W ds b (· = .int j)) : Tm X W ds (.Compare a [.Gt] [b] pos) (· = decide (j < i)) := tm_I op_gt (nomark _) ha hb
theorem tm_ge (ha : Em X W ds a (· = .int i)) (hb : Em X W ds b (· = .int j)) : Tm X W ds (.Compare a [.GtE] [b] pos) (· = decide (j ≤ i)) := tm_I op_ge (nomark _) ha hb
theorem tm_eqI (ha : Em X W ds a (· = .int i)) (hb : Em X W ds b (· = .int j)) : Tm X W ds (.Compare a [.Eq] [b] pos) (· = decide (i = j)) := tm_cmp op_eq (nomark _) (em_op2 ha hb fun G H x y dx dy ok hx hy px py Q q => by
  subst px
  subst py
  cases hx
  cases hy
  exact ⟨rfl, q _ _ G H (W.refl ok) (.bl _) ⟨_, rfl, by rw [dec_int, Bool.beq_eq_decide_eq]⟩⟩)
theorem tm_eqI' {Pa Pb : PyData → Prop} {P : Bool → Prop} (ha : Em X W ds a Pa) (hb : Em X W ds b Pb) (k : ∀ x y, Pa x → Pb y → ∃ i j, x = .int i ∧ y = .int j ∧ P (decide (i = j))) : Tm X W ds (.Compare a [.Eq] [b] pos) P := tm_cmp op_eq (nomark _) (em_op2 ha hb fun G H x y dx dy ok hx hy px py Q q => by
  obtain ⟨i, j, rfl, rfl, p⟩ := k dx dy px py
  cases hx
  cases hy
  exact ⟨rfl, q _ _ G H (W.refl ok) (.bl _) ⟨_, rfl, by rw [dec_int, Bool.beq_eq_decide_eq]; exact p⟩⟩)
theorem tm_neI (ha : Em X W ds a (· = .int i)) (hb : Em X W ds b (· = .int j)) : Tm X W ds (.Compare a [.NotEq] [b] pos) (· = !decide (i = j)) := tm_cmp op_ne (nomark _) (em_op2 ha hb fun G H x y dx dy ok hx hy px py Q q => by
  subst px
  subst py
  cases hx
  cases hy
  exact ⟨rfl, q _ _ G H (W.refl ok) (.bl _) ⟨_, rfl, by rw [dec_int, Bool.beq_eq_decide_eq]⟩⟩)
theorem tm_eqS {x y : Str} (ha : Em X W ds a (· = .str x)) (hb : Em X W ds b (· = .str y)) : Tm X W ds (.Compare a [.Eq] [b] pos) (· = decide (x = y)) := tm_cmp op_eq (nomark _) (em_op2 ha hb fun G H u v dx dy ok hx hy px py Q q => by
  subst px
  subst py
  cases hx
  cases hy
  exact ⟨rfl, q _ _ G H (W.refl ok) (.bl _) ⟨_, rfl, by rw [dec_str]; rw [Bool.beq_eq_decide_eq]⟩⟩)
theorem tm_eqD {k : Nat} {d d' : PyData} (hr : Room k X.A) (s : SeqAt.shaped d = true) (s' : SeqAt.shaped d' = true) (ha : Em X W ds a (· = d)) (hb : Em X W ds b (· = d')) : Tm X W ds (.Compare a [.Eq] [b] pos) (· = PyData.eqv d d') := tm_cmp (op_eqD hr.units) (nomark _) (em_op2 ha hb fun G H u v dx dy ok hx hy px py Q q => by
  subst px
  subst py
  exact ⟨_, _, ddp _ _ (dmono (W.sub ok) _ _ hx), ddp _ _ (dmono (W.sub ok) _ _ hy), s, s', q _ _ G H (W.refl ok) (.bl _) ⟨_, rfl, rfl⟩⟩)
theorem tm_neD {k : Nat} {d d' : PyData} (hr : Room k X.A) (s : SeqAt.shaped d = true) (s' : SeqAt.shaped d' = true) (ha : Em X W ds a (· = d)) (hb : Em X W ds b (· = d')) : Tm X W ds (.Compare a [.NotEq] [b] pos) (· = !PyData.eqv d d') := tm_cmp (op_neD hr.units) (nomark _) (em_op2 ha hb fun G H u v dx dy ok hx hy px py Q q => by
  subst px
  subst py
  exact ⟨_, _, ddp _ _ (dmono (W.sub ok) _ _ hx), ddp _ _ (dmono (W.sub ok) _ _ hy), s, s', q _ _ G H (W.refl ok) (.bl _) ⟨_, rfl, rfl⟩⟩)
theorem tm_not {P : Bool → Prop} (h : Tm X W ds a fun x => P (!x)) : Tm X W ds (.UnaryOp .Not a pos) P := tm_of (pt_not pt_u) fun σ G H ok env Q q => h σ G H ok env _ fun x G1 H1 r1 p => q _ G1 H1 r1 p
theorem wm_and1 {P : Bool → Prop} (h : Tm X W ds a P) : Wm X W ds (.BoolOp .And [a] pos) P := wm_of (pw_and1 pt_u) h
theorem wm_or1 {P : Bool → Prop} (h : Tm X W ds a P) : Wm X W ds (.BoolOp .Or [a] pos) P := wm_of (pw_or1 pt_u) h
theorem wm_and {rest : List Expr} {P : Bool → Prop} {x : Bool} (ha : Tm X W ds a (· = x)) (hf : x = false → P false) (hb : x = true → Wm X W ds (.BoolOp .And (b :: rest) pos) P) : Wm X W ds (.BoolOp .And (a :: b :: rest) pos) P := wm_of (pw_and pt_u pw_u) fun σ G H ok env Q q =>
  ha σ G H ok env _ fun y G1 H1 r1 e => by
    subst e
    cases y with
    | true =>
      rw [if_pos rfl]
      exact hb rfl σ G1 H1 (W.oks r1) (env.mono r1) _ fun b G2 H2 r2 p => q b G2 H2 (W.trans r1 r2) p
    | false =>
      rw [if_neg Bool.false_ne_true]
      exact q _ G1 H1 r1 (hf rfl)
theorem wm_or {rest : List Expr} {P : Bool → Prop} {x : Bool} (ha : Tm X W ds a (· = x)) (hf : x = true → P true) (hb : x = false → Wm X W ds (.BoolOp .Or (b :: rest) pos) P) : Wm X W ds (.BoolOp .Or (a :: b :: rest) pos) P := wm_of (pw_or pt_u pw_u) fun σ G H ok env Q q =>
  ha σ G H ok env _ fun y G1 H1 r1 e => by
    subst e
    cases y with
    | true =>
      rw [if_pos rfl]
      exact q _ G1 H1 r1 (hf rfl)
    | false =>
      rw [if_neg Bool.false_ne_true]
      exact hb rfl σ G1 H1 (W.oks r1) (env.mono r1) _ fun b G2 H2 r2 p => q b G2 H2 (W.trans r1 r2) p
theorem tm_w {P : Bool → Prop} (h : Wm X W ds e P) : Tm X W ds e P := fun σ G H ok env Q q => by
  obtain ⟨t, p, z⟩ := h σ G H ok env Q q
  exact ⟨t, p.pt, z⟩
/-! ### arguments, displays -/
theorem am_nil : Am X W ds [] (· = []) := am_of pa_nil fun σ G H ok env Q q => q _ _ G H (W.refl ok) .nil rfl
theorem am_cons' {Pa : PyData → Prop} {Pr P : List PyData → Prop} (ha : Em X W ds e Pa) (hr : Am X W ds es Pr) (k : ∀ x xs, Pa x → Pr xs → P (x :: xs)) (hs : starEach (e :: es) X.env = (false, eval e X.env) :: starEach es X.env := by rfl) : Am X W ds (e :: es) P := am_of (pa_cons pe_u pa_u hs) fun σ G H ok env Q q =>
  ha σ G H ok env _ fun x dx G1 H1 r1 hx px => hr σ G1 H1 (W.oks r1) (env.mono r1) _ fun xs dxs G2 H2 r2 hxs pxs => q _ _ G2 H2 (W.trans r1 r2) (.cons (dmono (W.g r2) _ _ hx) hxs) (k _ _ px pxs)
theorem am_cons {as : List PyData} (ha : Em X W ds e (· = d)) (hr : Am X W ds es (· = as)) (hs : starEach (e :: es) X.env = (false, eval e X.env) :: starEach es X.env := by rfl) : Am X W ds (e :: es) (· = d :: as) := am_cons' ha hr (fun _ _ hx hxs => by rw [hx, hxs]) hs
theorem em_tup' {P : PyData → Prop} {Pa : List PyData → Prop} {n : Nat} (ha : Am X W ds es Pa) (k : ∀ as, Pa as → as.length ≤ 1000 ∧ P (.tuple as)) : Em X W ds (.Tuple es n pos) P := em_of (pe_tup pa_u) fun σ G H ok env Q q =>
  ha σ G H ok env _ fun vs as G1 H1 r1 hs p => by
    obtain ⟨hl, hp⟩ := k as p
    refine ⟨Nat.le_of_lt (small1000 (by rw [hs.len]; exact hl)), fun a ha => ?_⟩
    have st := Stp.new (o := .tup vs) (W.sub (W.oks r1)) ha
    exact q _ _ _ _ (W.trans r1 (W.step (W.oks r1) st)) (.tup (o := none) upd_same (dmonoAll st.g _ _ hs)) hp
theorem em_tup {as : List PyData} {n : Nat} (ha : Am X W ds es (· = as)) (hl : as.length ≤ 1000 := by exact Nat.le_of_ble_eq_true rfl) : Em X W ds (.Tuple es n pos) (· = .tuple as) := em_tup' ha fun _ e => by rw [e]; exact ⟨hl, rfl⟩
theorem em_lst' {P : PyData → Prop} {Pa : List PyData → Prop} (ha : Am X W ds es Pa) (k : ∀ as, Pa as → as.length ≤ 1000 ∧ P (.list as)) : Em X W ds (.List es pos) P := em_of (pe_lst pa_u) fun σ G H ok env Q q =>
  ha σ G H ok env _ fun vs as G1 H1 r1 hs p => by
    obtain ⟨hl, hp⟩ := k as p
    refine ⟨Nat.le_of_lt (small1000 (by rw [hs.len]; exact hl)), fun a ha => ?_⟩
    have st := Stp.new (o := .lst vs) (W.sub (W.oks r1)) ha
    exact q _ _ _ _ (W.trans r1 (W.step (W.oks r1) st)) (.lst upd_same (dmonoAll st.g _ _ hs)) hp
theorem em_lst {as : List PyData} (ha : Am X W ds es (· = as)) (hl : as.length ≤ 1000 := by exact Nat.le_of_ble_eq_true rfl) : Em X W ds (.List es pos) (· = .list as) := em_lst' ha fun _ e => by rw [e]; exact ⟨hl, rfl⟩
/-! ### subscripts -/
theorem Ds.atI {G : Hp} {vs : List V} {as : List PyData} (h : Ds G vs as) {d : PyData} (e : L2.atI as i = some d) : ∃ v, L2.atI vs i = some v ∧ Dd G v d := by
  unfold L2.atI at e ⊢
  rw [h.len]
  cases q : ixN as.length i with
  | none => rw [q] at e; cases e
  | some j =>
    rw [q] at e
    obtain ⟨v, hv, hd⟩ := h.at (show as[j]? = some d from e)
    exact ⟨v, hv, hd⟩
theorem em_ixT' {Pa Pb : PyData → Prop} (ha : Em X W ds a Pa) (hb : Em X W ds b Pb) (k : ∀ x y, Pa x → Pb y → ∃ as i d, x = .tuple as ∧ y = .int i ∧ L2.atI as i = some d ∧ P d) (hs : PlainIx b := by exact fun _ _ => rfl) : Em X W ds (.Subscript a b pos) P := em_of (pe_ix ix_tup pe_u pe_u hs) (em_op2 ha hb fun G H u v dx dy ok hx hy px py Q q => by
  obtain ⟨as, i, d, rfl, rfl, h, p⟩ := k dx dy px py
  cases hy
  cases hx with
  | tup hh hd =>
    obtain ⟨v, hv, hdv⟩ := hd.atI h
    exact ⟨_, _, i, v, rfl, rfl, .inl (rdt (W.sub ok _ _ hh)), hv, q _ _ G H (W.refl ok) hdv p⟩)
theorem em_ixT {as : List PyData} (h : L2.atI as i = some d) (ha : Em X W ds a (· = .tuple as)) (hb : Em X W ds b (· = .int i)) (hs : PlainIx b := by exact fun _ _ => rfl) : Em X W ds (.Subscript a b pos) (· = d) := em_ixT' ha hb (fun _ _ hx hy => ⟨as, i, d, hx, hy, h, rfl⟩) hs
theorem em_ixL' {Pa Pb : PyData → Prop} (ha : Em X W ds a Pa) (hb : Em X W ds b Pb) (k : ∀ x y, Pa x → Pb y → ∃ as i d, x = .list as ∧ y = .int i ∧ L2.atI as i = some d ∧ P d) (hs : PlainIx b := by exact fun _ _ => rfl) : Em X W ds (.Subscript a b pos) P := em_of (pe_ix ix_list pe_u pe_u hs) (em_op2 ha hb fun G H u v dx dy ok hx hy px py Q q => by
  obtain ⟨as, i, d, rfl, rfl, h, p⟩ := k dx dy px py
  cases hy
  cases hx with
  | lst hh hd =>
    obtain ⟨v, hv, hdv⟩ := hd.atI h
    exact ⟨_, _, i, v, rfl, rfl, .inl (.inl (W.sub ok _ _ hh)), hv, q _ _ G H (W.refl ok) hdv p⟩)
theorem em_ixL {as : List PyData} (h : L2.atI as i = some d) (ha : Em X W ds a (· = .list as)) (hb : Em X W ds b (· = .int i)) (hs : PlainIx b := by exact fun _ _ => rfl) : Em X W ds (.Subscript a b pos) (· = d) := em_ixL' ha hb (fun _ _ hx hy => ⟨as, i, d, hx, hy, h, rfl⟩) hs
end
end Dn
namespace Dn
open PySem PySem.Spec PyProof.Rows L2
/-- a def of the program that keeps a promise, by its name -/
structure Fk (P : Program) (w : World) (K : PySem.W.Frag) (mg : Str → Option Value) (base : Heap) (x : Str) (k : Nat) (ps : List Str) (sp : Sp) : Prop where
  ex : ∃ f fd, FnOk P w K mg base CX0 k f fd ps sp ∧ mg x = some (.ref f) ∧ PySem.W.keepIn K (.ref f) = true ∧ Binds K fd ps []
section
variable {X : Cx} {W : Wr} {ds : List Sl} {e a b c : Expr} {es : List Expr} {pos p2 p3 : Pos} {P : PyData → Prop} {d : PyData} {i j : Int}
/-! ### calls of defs -/
theorem em_call' {x : Str} {k : Nat} {ps : List Str} {pre : List PyData → Prop} {post : List PyData → PyData → Prop} {Pa : List PyData → Prop} (F : Fk X.prog X.w X.K X.mg X.base x k ps (spP pre post)) (hr : Room k X.A) (ha : Am X W ds (e :: es) Pa) (hp : ∀ as, Pa as → pre as ∧ ∀ d, post as d → P d) (hg : Gl X x := by rfl)
    (hdb : (x == ("__debug__" : Str)) = false := by decide) (he : starEach (e :: es) X.env = (false, eval e X.env) :: starEach es X.env := by rfl) (hpl : (backTo pos (starEach es X.env)).any (·.1) = false := by rfl) : Em X W ds (.Call (.Name x p2) (e :: es) [] pos) P := by
  obtain ⟨f, fd, G, hm, hk, hb⟩ := F.ex
  refine em_of (pe_call G hr hg hm hk hb .nil pass0 pa_u hdb he hpl) fun σ G0 H0 ok env Q q => ha σ G0 H0 ok env _ fun vs as G1 H1 r1 hs p => ?_
  obtain ⟨p1, p2⟩ := hp as p
  rw [List.append_nil]
  exact ⟨G1, as, W.sub (W.oks r1), hs, p1, fun v d G2 H2 st hd hpo => q v d G2 H2 (W.trans r1 (W.step (W.oks r1) st)) hd (p2 d hpo)⟩
theorem em_call {x : Str} {k : Nat} {ps : List Str} {pre : List PyData → Prop} {post : List PyData → PyData → Prop} {as : List PyData} (F : Fk X.prog X.w X.K X.mg X.base x k ps (spP pre post)) (hr : Room k X.A) (ha : Am X W ds (e :: es) (· = as)) (hp : pre as) (hg : Gl X x := by rfl)
    (hdb : (x == ("__debug__" : Str)) = false := by decide) (he : starEach (e :: es) X.env = (false, eval e X.env) :: starEach es X.env := by rfl) (hpl : (backTo pos (starEach es X.env)).any (·.1) = false := by rfl) : Em X W ds (.Call (.Name x p2) (e :: es) [] pos) (post as) :=
  em_call' F hr ha (fun _ e => by rw [e]; exact ⟨hp, fun _ h => h⟩) hg hdb he hpl
/-- a new list, taken as data -/
theorem em_callL {x : Str} {k : Nat} {ps : List Str} {pre : List PyData → Prop} {post : List PyData → List PyData → Prop} {Pa : List PyData → Prop} (F : Fk X.prog X.w X.K X.mg X.base x k ps (spL pre post)) (hr : Room k X.A) (ha : Am X W ds (e :: es) Pa) (hp : ∀ as, Pa as → pre as ∧ ∀ xs, post as xs → P (.list xs)) (hg : Gl X x := by rfl)
    (hdb : (x == ("__debug__" : Str)) = false := by decide) (he : starEach (e :: es) X.env = (false, eval e X.env) :: starEach es X.env := by rfl) (hpl : (backTo pos (starEach es X.env)).any (·.1) = false := by rfl) : Em X W ds (.Call (.Name x p2) (e :: es) [] pos) P := by
  obtain ⟨f, fd, G, hm, hk, hb⟩ := F.ex
  refine em_of (pe_call G hr hg hm hk hb .nil pass0 pa_u hdb he hpl) fun σ G0 H0 ok env Q q => ha σ G0 H0 ok env _ fun vs as G1 H1 r1 hs p => ?_
  obtain ⟨p1, p2⟩ := hp as p
  rw [List.append_nil]
  refine ⟨G1, as, W.sub (W.oks r1), hs, p1, fun p us xs G2 H2 st h0 g2 h2 hd hpo => ?_⟩
  have st2 := st.freeze h0 g2 h2
  exact q _ _ _ H2 (W.trans r1 (W.step (W.oks r1) st2)) (.lst upd_same (dmonoAll (same_upd g2) _ _ hd)) (p2 xs hpo)
/-- a call with the bag ahead of all -/
theorem em_callB {x y : Str} {k n : Nat} {ps : List Str} {bg : Addr} {pre : List PyData → Prop} {post : List PyData → PyData → Prop} {Pa : List PyData → Prop} (F : Fk X.prog X.w X.K X.mg X.base x k ps (spB pre post)) (hr : Room k X.A) (hn : ds[n]? = some (.raw (.ref bg))) (ha : Am X (bw bg) ds es Pa) (hp : ∀ as, Pa as → pre as ∧ ∀ d, post as d → P d) (hg : Gl X x := by rfl)
    (hN : X.N[n]? = some y := by rfl) (hv : Vis X.env.scope y := by first | exact Or.inl rfl | exact Or.inr (Or.inl rfl) | exact Or.inr (Or.inr rfl)) (hd : (y == ("__debug__" : Str)) = false := by decide) (hcd : (y == ("__classdict__" : Str)) = false := by decide)
    (hdb : (x == ("__debug__" : Str)) = false := by decide) (he : starEach (.Name y p3 :: es) X.env = (false, eval (.Name y p3) X.env) :: starEach es X.env := by rfl) (hpl : (backTo pos (starEach es X.env)).any (·.1) = false := by rfl) : Em X (bw bg) ds (.Call (.Name x p2) (.Name y p3 :: es) [] pos) P := by
  obtain ⟨f, fd, G, hm, hk, hb⟩ := F.ex
  refine em_of (pe_call G hr hg hm hk hb .nil pass0 (pa_cons (pv n hN hv hd hcd) pa_u he) hdb he hpl) fun σ G0 H0 ok env Q q => ?_
  obtain ⟨z, e1, e2⟩ := env.at hn
  refine ⟨.ref bg, by rw [e1, show z = some (V.ref bg) from e2], ha σ G0 H0 ok env _ fun vs as G1 H1 r1 hs p => ?_⟩
  obtain ⟨p1, p2⟩ := hp as p
  rw [List.append_nil]
  exact ⟨bg, vs, G1, as, rfl, r1.ok, hs, p1, fun v d G2 H2 st hd hpo => q v d G2 H2 ((bw bg).trans r1 st) hd (p2 d hpo)⟩
/-! ### built-ins -/
theorem em_len {as : List PyData} (ha : Em X W ds a (fun d => d = .list as ∨ d = .tuple as)) (hm : X.mg "len" = none) (hg : Gl X "len" := by rfl) (hs : starEach [a] X.env = (false, eval a X.env) :: starEach [] X.env := by rfl) (hpl : (backTo pos (starEach [] X.env)).any (·.1) = false := by rfl) : Em X W ds (.Call (.Name "len" p2) [a] [] pos) (· = .int as.length) :=
  em_of (pe_callB call_len_seq hg hm PySem.boot_len (pa_cons pe_u pa_nil hs) (he := hs) (hpl := hpl)) fun σ G H ok env Q q => ha σ G H ok env _ fun v d G1 H1 r1 hd e => by
    rcases e with e | e
    · subst e
      cases hd with
      | lst hh hs => exact ⟨_, _, rfl, .inl (.inl (.inl (W.sub (W.oks r1) _ _ hh))), q _ _ G1 H1 r1 (.int _) (by rw [hs.len])⟩
    · subst e
      cases hd with
      | tup hh hs => exact ⟨_, _, rfl, .inr (.inl (rdt (W.sub (W.oks r1) _ _ hh))), q _ _ G1 H1 r1 (.int _) (by rw [hs.len])⟩
theorem em_lenP {Pa : PyData → Prop} (ha : Em X W ds a (fun d => ∃ as, d = .list as ∧ Pa (.list as))) (hm : X.mg "len" = none) (hg : Gl X "len" := by rfl) (hs : starEach [a] X.env = (false, eval a X.env) :: starEach [] X.env := by rfl) (hpl : (backTo pos (starEach [] X.env)).any (·.1) = false := by rfl) : Em X W ds (.Call (.Name "len" p2) [a] [] pos) (fun d => ∃ as : List PyData, Pa (.list as) ∧ d = .int as.length) :=
  em_of (pe_callB call_len_seq hg hm PySem.boot_len (pa_cons pe_u pa_nil hs) (he := hs) (hpl := hpl)) fun σ G H ok env Q q => ha σ G H ok env _ fun v d G1 H1 r1 hd ⟨as, e, p⟩ => by
    subst e
    cases hd with
    | lst hh hs => exact ⟨_, _, rfl, .inl (.inl (.inl (W.sub (W.oks r1) _ _ hh))), q _ _ G1 H1 r1 (.int _) ⟨as, p, by rw [hs.len]⟩⟩
theorem em_abs (ha : Em X W ds a (· = .int i)) (hm : X.mg "abs" = none) (hg : Gl X "abs" := by rfl) (hs : starEach [a] X.env = (false, eval a X.env) :: starEach [] X.env := by rfl) (hpl : (backTo pos (starEach [] X.env)).any (·.1) = false := by rfl) : Em X W ds (.Call (.Name "abs" p2) [a] [] pos) (· = .int i.natAbs) :=
  em_of (pe_callB call_abs hg hm (by decide +kernel) (pa_cons pe_u pa_nil hs) (he := hs) (hpl := hpl)) fun σ G H ok env Q q => ha σ G H ok env _ fun v d G1 H1 r1 hd e => by
    subst e
    cases hd
    refine ⟨i, rfl, q _ _ G1 H1 r1 (.int _) ?_⟩
    congr 1
    split <;> omega
theorem em_max (hc : X.calm = true) (ha : Em X W ds a (· = .int i)) (hb : Em X W ds b (· = .int j)) (hm : X.mg "max" = none) (hg : Gl X "max" := by rfl) (hs1 : starEach [b] X.env = (false, eval b X.env) :: starEach [] X.env := by rfl) (hs : starEach [a, b] X.env = (false, eval a X.env) :: starEach [b] X.env := by rfl) (hpl : (backTo pos (starEach [b] X.env)).any (·.1) = false := by rfl) : Em X W ds (.Call (.Name "max" p2) [a, b] [] pos) (· = .int (max i j)) :=
  em_of (pe_callB (call_max2 hc) hg hm (by decide +kernel) (pa_cons pe_u (pa_cons pe_u pa_nil hs1) hs) (he := hs) (hpl := hpl)) fun σ G H ok env Q q => ha σ G H ok env _ fun v d G1 H1 r1 hd e => hb σ G1 H1 (W.oks r1) (env.mono r1) _ fun v2 d2 G2 H2 r2 hd2 e2 => by
    subst e
    subst e2
    cases hd
    cases hd2
    refine ⟨i, j, rfl, q _ _ G2 H2 (W.trans r1 r2) (.int _) ?_⟩
    congr 1
    split <;> omega
theorem em_min (hc : X.calm = true) (ha : Em X W ds a (· = .int i)) (hb : Em X W ds b (· = .int j)) (hm : X.mg "min" = none) (hg : Gl X "min" := by rfl) (hs1 : starEach [b] X.env = (false, eval b X.env) :: starEach [] X.env := by rfl) (hs : starEach [a, b] X.env = (false, eval a X.env) :: starEach [b] X.env := by rfl) (hpl : (backTo pos (starEach [b] X.env)).any (·.1) = false := by rfl) : Em X W ds (.Call (.Name "min" p2) [a, b] [] pos) (· = .int (min i j)) :=
  em_of (pe_callB (call_min2 hc) hg hm (by decide +kernel) (pa_cons pe_u (pa_cons pe_u pa_nil hs1) hs) (he := hs) (hpl := hpl)) fun σ G H ok env Q q => ha σ G H ok env _ fun v d G1 H1 r1 hd e => hb σ G1 H1 (W.oks r1) (env.mono r1) _ fun v2 d2 G2 H2 r2 hd2 e2 => by
    subst e
    subst e2
    cases hd
    cases hd2
    refine ⟨i, j, rfl, q _ _ G2 H2 (W.trans r1 r2) (.int _) ?_⟩
    congr 1
    split <;> omega
theorem em_intB {x : Bool} (ha : Em X W ds a (· = .bool x)) (hm : X.mg "int" = none) (hg : Gl X "int" := by rfl) (hs : starEach [a] X.env = (false, eval a X.env) :: starEach [] X.env := by rfl) (hpl : (backTo pos (starEach [] X.env)).any (·.1) = false := by rfl) : Em X W ds (.Call (.Name "int" p2) [a] [] pos) (· = .int (if x then 1 else 0)) :=
  em_of (pe_callTy call_int1 hg hm (by decide +kernel) (pa_cons pe_u pa_nil hs) (he := hs) (hpl := hpl)) fun σ G H ok env Q q => ha σ G H ok env _ fun v d G1 H1 r1 hd e => by
    subst e
    cases hd
    exact .inr ⟨x, rfl, q _ _ G1 H1 r1 (.int _) rfl⟩
theorem em_all {bs : List Bool} (hc : X.calm = true) (ha : Em X W ds a (· = .list (bs.map .bool))) (hm : X.mg "all" = none) (hg : Gl X "all" := by rfl) (hs : starEach [a] X.env = (false, eval a X.env) :: starEach [] X.env := by rfl) (hpl : (backTo pos (starEach [] X.env)).any (·.1) = false := by rfl) : Em X W ds (.Call (.Name "all" p2) [a] [] pos) (· = .bool (bs.all id)) :=
  em_of (pe_callB (cr_all hc) hg hm (by decide +kernel) (pa_cons pe_u pa_nil hs) (he := hs) (hpl := hpl)) fun σ G H ok env Q q => ha σ G H ok env _ fun v d G1 H1 r1 hd e => by
    subst e
    cases hd with
    | lst hh hs =>
      have e := hs.bls
      subst e
      exact ⟨_, bs, rfl, .inl (.inl (W.sub (W.oks r1) _ _ hh)), q _ _ G1 H1 r1 (.bl _) rfl⟩
theorem em_tupleOf {as : List PyData} (ha : Em X W ds a (· = .list as)) (hm : X.mg "tuple" = none) (hg : Gl X "tuple" := by rfl) (hs : starEach [a] X.env = (false, eval a X.env) :: starEach [] X.env := by rfl) (hpl : (backTo pos (starEach [] X.env)).any (·.1) = false := by rfl) : Em X W ds (.Call (.Name "tuple" p2) [a] [] pos) (· = .tuple as) :=
  em_of (pe_callTy call_tuple_of hg hm (by decide +kernel) (pa_cons pe_u pa_nil hs) (he := hs) (hpl := hpl)) fun σ G H ok env Q q => ha σ G H ok env _ fun v d G1 H1 r1 hd e => by
    subst e
    cases hd with
    | @lst _ us _ hh hs =>
      refine ⟨_, us, rfl, .inl ⟨.inl (.inl (W.sub (W.oks r1) _ _ hh)), fun p hp => ?_⟩⟩
      have st := Stp.new (o := .tup us) (W.sub (W.oks r1)) hp
      exact q _ _ _ _ (W.trans r1 (W.step (W.oks r1) st)) (.tup (o := none) upd_same (dmonoAll st.g _ _ hs)) rfl
theorem em_listOf {as : List PyData} (ha : Em X W ds a (fun d => d = .list as ∨ d = .tuple as)) (hm : X.mg "list" = none) (hg : Gl X "list" := by rfl) (hs : starEach [a] X.env = (false, eval a X.env) :: starEach [] X.env := by rfl) (hpl : (backTo pos (starEach [] X.env)).any (·.1) = false := by rfl) : Em X W ds (.Call (.Name "list" p2) [a] [] pos) (· = .list as) :=
  em_of (pe_callTy call_list_of hg hm (by decide +kernel) (pa_cons pe_u pa_nil hs) (he := hs) (hpl := hpl)) fun σ G H ok env Q q => ha σ G H ok env _ fun v d G1 H1 r1 hd e => by
    rcases e with e | e
    · subst e
      cases hd with
      | @lst _ us _ hh hs =>
        refine ⟨_, us, rfl, .inl (.inl (.inl (W.sub (W.oks r1) _ _ hh))), fun p hp => ?_⟩
        have st := Stp.new (o := .lst us) (W.sub (W.oks r1)) hp
        exact q _ _ _ _ (W.trans r1 (W.step (W.oks r1) st)) (.lst upd_same (dmonoAll st.g _ _ hs)) rfl
    · subst e
      cases hd with
      | @tup _ _ us _ hh hs =>
        refine ⟨_, us, rfl, .inr (.inl (rdt (W.sub (W.oks r1) _ _ hh))), fun p hp => ?_⟩
        have st := Stp.new (o := .lst us) (W.sub (W.oks r1)) hp
        exact q _ _ _ _ (W.trans r1 (W.step (W.oks r1) st)) (.lst upd_same (dmonoAll st.g _ _ hs)) rfl
/-! ### isinstance against a built-in class -/
def tyOf : PyData → String
  | .none => "NoneType"
  | .bool _ => "bool"
  | .int _ => "int"
  | .str _ => "str"
  | .list _ => "list"
  | .tuple _ => "tuple"
  | .dict _ => "dict"
theorem tyx {K : PySem.W.Frag} {H : Hp} {v : V} (h : Dd H v d) : TyX K H v (.type (tyOf d)) := by
  cases h with
  | non => exact .base .non
  | bl b => exact .base (.bl b)
  | int i => exact .base (.int i)
  | str x => exact .base (.str x)
  | lst h _ => exact .base (.lst h)
  | @tup a o us _ h _ => cases o with
    | none => exact .base (.tup h)
    | some ob => exact .fTuple h
theorem em_isi {T : String} {x : Str} {z : Bool} (ha : Em X W ds a (· = d)) (hm : X.mg "isinstance" = none) (hT : X.mg x = none) (hb : bootBuiltins x = some (.type T)) (hk : kitB (tyOf d) T = some z) (hg : Gl X "isinstance" := by rfl) (hgT : Gl X x := by rfl) (hn : x ≠ "__name__" := by decide) (hdx : (x == ("__debug__" : Str)) = false := by decide)
    (hs1 : starEach [.Name x p3] X.env = (false, eval (.Name x p3) X.env) :: starEach [] X.env := by rfl) (hs : starEach [a, .Name x p3] X.env = (false, eval a X.env) :: starEach [.Name x p3] X.env := by rfl) (hpl : (backTo pos (starEach [.Name x p3] X.env)).any (·.1) = false := by rfl) :
    Em X W ds (.Call (.Name "isinstance" p2) [a, .Name x p3] [] pos) (· = .bool z) :=
  em_of (pe_callB call_isi hg hm (by decide +kernel) (pa_cons pe_u (pa_cons (pe_bltn (v := .ty T) hgT hT hb rfl hn hdx) pa_nil hs1) hs) (he := hs) (hpl := hpl)) fun σ G H ok env Q q => ha σ G H ok env _ fun v d' G1 H1 r1 hd e => by
    subst e
    exact ⟨v, .ty T, _, _, z, rfl, .ty T, tyx (dmono (W.sub (W.oks r1)) _ _ hd), kit_ty hk, q _ _ G1 H1 r1 (.bl _) rfl⟩
/-! ### slices, sums of tuples and lists -/
def cutD (xs : List PyData) (lo hi : Option Int) : List PyData := (xs.drop (HT.sIx xs.length 0 lo)).take (HT.sIx xs.length xs.length hi - HT.sIx xs.length 0 lo)
theorem Ds.cut {G : Hp} {vs : List V} {as : List PyData} (h : Ds G vs as) (lo hi : Option Int) : Ds G (cutV vs lo hi) (cutD as lo hi) := by
  unfold cutV cutD
  rw [h.len]
  exact (h.drop _).take _
/-- a part of a slice -/
def Om (X : Cx) (W : Wr) (ds : List Sl) (o : Option Expr) (x : Option Int) : Prop := ∃ t, PO X o t ∧ ∀ σ G H, W.ok G H → EnvOk W G H ds σ → ∀ Q : Option Int → Hp → Prop, (∀ G2 H2, W.R G H G2 H2 → Q x H2) → t σ H Q
theorem om_none : Om X W ds none none := ⟨_, po_none, fun σ G H ok env Q q => q G H (W.refl ok)⟩
theorem om_some (h : Em X W ds e (· = .int i)) : Om X W ds (some e) (some i) := ⟨_, po_some pe_u, fun σ G H ok env Q q => h σ G H ok env _ fun v d G1 H1 r1 hd e => by
  subst e
  cases hd
  exact ⟨i, rfl, q G1 H1 r1⟩⟩
theorem em_sliceT {lo hi : Option Expr} {l h : Option Int} {as : List PyData} (ha : Em X W ds a (· = .tuple as)) (hl : Om X W ds lo l) (hh : Om X W ds hi h) : Em X W ds (.Subscript a (.Slice lo hi none p2) pos) (· = .tuple (cutD as l h)) := by
  obtain ⟨tl, pl, ml⟩ := hl
  obtain ⟨th, ph, mh⟩ := hh
  refine em_of (pe_slice sl_tupA pe_u pl ph) fun σ G H ok env Q q => ha σ G H ok env _ fun v d G1 H1 r1 hd e => ml σ G1 H1 (W.oks r1) (env.mono r1) _ fun G2 H2 r2 => mh σ G2 H2 (W.oks r2) ((env.mono r1).mono r2) _ fun G3 H3 r3 => ?_
  subst e
  cases hd with
  | @tup _ _ us _ hq hs =>
    have g3 := dmonoAll ((W.g r2).trans (W.g r3)) _ _ hs
    have hq3 := (W.g r3) _ _ ((W.g r2) _ _ hq)
    have R := W.trans (W.trans r1 r2) r3
    refine ⟨_, us, rfl, .inl (rdt (W.sub (W.oks r3) _ _ hq3)), fun z => ?_, fun z p hp => ?_⟩
    · refine q _ _ G3 H3 R (.tup hq3 g3) ?_
      unfold cutD
      rw [← hs.len, z.1, z.2, List.drop_zero, Nat.sub_zero, hs.len, List.take_length]
    · have st := Stp.new (o := .tup (cutV us l h)) (W.sub (W.oks r3)) hp
      exact q _ _ _ _ (W.trans R (W.step (W.oks r3) st)) (.tup (o := none) upd_same (dmonoAll st.g _ _ (g3.cut l h))) rfl
theorem em_sliceL {lo hi : Option Expr} {l h : Option Int} {as : List PyData} (ha : Em X W ds a (· = .list as)) (hl : Om X W ds lo l) (hh : Om X W ds hi h) : Em X W ds (.Subscript a (.Slice lo hi none p2) pos) (· = .list (cutD as l h)) := by
  obtain ⟨tl, pl, ml⟩ := hl
  obtain ⟨th, ph, mh⟩ := hh
  refine em_of (pe_slice sl_list pe_u pl ph) fun σ G H ok env Q q => ha σ G H ok env _ fun v d G1 H1 r1 hd e => ml σ G1 H1 (W.oks r1) (env.mono r1) _ fun G2 H2 r2 => mh σ G2 H2 (W.oks r2) ((env.mono r1).mono r2) _ fun G3 H3 r3 => ?_
  subst e
  cases hd with
  | @lst _ us _ hq hs =>
    have g3 := dmonoAll ((W.g r2).trans (W.g r3)) _ _ hs
    have hq3 := (W.g r3) _ _ ((W.g r2) _ _ hq)
    have R := W.trans (W.trans r1 r2) r3
    refine ⟨_, us, rfl, .inl (.inl (W.sub (W.oks r3) _ _ hq3)), fun p hp => ?_⟩
    have st := Stp.new (o := .lst (cutV us l h)) (W.sub (W.oks r3)) hp
    exact q _ _ _ _ (W.trans R (W.step (W.oks r3) st)) (.lst upd_same (dmonoAll st.g _ _ (g3.cut l h))) rfl
theorem em_catT {as bs : List PyData} (hz : as.length + bs.length ≤ 1000) (ha : Em X W ds a (· = .tuple as)) (hb : Em X W ds b (· = .tuple bs)) : Em X W ds (.BinOp a .Add b pos) (· = .tuple (as ++ bs)) := em_of (pe_op op_catA pe_u pe_u) (em_op2 ha hb fun G H u v dx dy ok hx hy px py Q q => by
  subst px
  subst py
  cases hx with
  | @tup _ _ us _ h1 d1 => cases hy with
    | @tup _ _ ws _ h2 d2 =>
      refine ⟨_, _, us, ws, rfl, rfl, .inl (rdt (W.sub ok _ _ h1)), .inl (rdt (W.sub ok _ _ h2)), Nat.le_of_lt (small1000 (by rw [d1.len, d2.len]; exact hz)), fun z => ?_, fun _ z => ?_, fun _ _ p hp => ?_⟩
      · subst z
        cases d1
        exact q _ _ G H (W.refl ok) (.tup h2 d2) rfl
      · subst z
        cases d2
        exact q _ _ G H (W.refl ok) (.tup h1 d1) (by rw [List.append_nil])
      · have st := Stp.new (o := .tup (us ++ ws)) (W.sub ok) hp
        exact q _ _ _ _ (W.step ok st) (.tup (o := none) upd_same (dmonoAll st.g _ _ (d1.app d2))) rfl)
theorem em_catL {as bs : List PyData} (hz : as.length + bs.length ≤ 100000) (ha : Em X W ds a (· = .list as)) (hb : Em X W ds b (· = .list bs)) : Em X W ds (.BinOp a .Add b pos) (· = .list (as ++ bs)) := em_of (pe_op op_cat pe_u pe_u) (em_op2 ha hb fun G H u v dx dy ok hx hy px py Q q => by
  subst px
  subst py
  cases hx with
  | @lst _ us _ h1 d1 => cases hy with
    | @lst _ ws _ h2 d2 =>
      refine ⟨_, _, us, ws, rfl, rfl, W.sub ok _ _ h1, W.sub ok _ _ h2, Nat.le_trans (by rw [d1.len, d2.len]; exact hz) (by decide : 100000 ≤ sizeLine), fun p hp => ?_⟩
      have st := Stp.new (o := .lst (us ++ ws)) (W.sub ok) hp
      exact q _ _ _ _ (W.step ok st) (.lst upd_same (dmonoAll st.g _ _ (d1.app d2))) rfl)
theorem em_ifE {x : Bool} (hc : Tm X W ds c (· = x)) (h1 : x = true → Em X W ds a P) (h2 : x = false → Em X W ds b P) : Em X W ds (.IfExp c a b pos) P := em_of (pe_ifExp pt_u pe_u pe_u) fun σ G H ok env Q q => hc σ G H ok env _ fun y G1 H1 r1 e => by
  subst e
  cases y with
  | true =>
    rw [if_pos rfl]
    exact h1 rfl σ G1 H1 (W.oks r1) (env.mono r1) _ fun v d G2 H2 r2 hd p => q v d G2 H2 (W.trans r1 r2) hd p
  | false =>
    rw [if_neg Bool.false_ne_true]
    exact h2 rfl σ G1 H1 (W.oks r1) (env.mono r1) _ fun v d G2 H2 r2 hd p => q v d G2 H2 (W.trans r1 r2) hd p
end
end Dn
namespace Dn
open PySem PySem.Spec PyProof.Rows L2
section
variable {X : Cx} {W : Wr} {G0 H0 : Hp} {ds : List Sl} {e a b c : Expr} {es : List Expr} {pos p2 p3 p4 p5 : Pos} {P : PyData → Prop} {d : PyData} {i j : Nat} {N B C : NX} {r : RT} {rest body orelse : List Stmt} {st : Stmt}
theorem bm_of {t : TS} (h : PSs X body t) (m : SmR W G0 H0 ds t N B C r) : Bm X W G0 H0 ds body N B C r := fun Gb σ G H D s env n b c q => ⟨t, h, m Gb σ G H D s env n b c q⟩
theorem bm_nil (h : N ds) : Bm X W G0 H0 ds [] N B C r := bm_of pss_nil fun Gb σ G H D s env n b c q => n ds σ G H s env h
theorem bm_false (h : False) : Bm X W G0 H0 ds body N B C r := h.elim
theorem bm_mono {N' B' C' : NX} {r' : RT} (h : Bm X W G0 H0 ds body N B C r) (hn : ∀ ds, N ds → N' ds) (hb : ∀ ds, B ds → B' ds) (hc : ∀ ds, C ds → C' ds) (hr : ∀ v G H, W.R G0 H0 G H → r v G H → r' v G H) : Bm X W G0 H0 ds body N' B' C' r' := fun Gb σ G H D s env n b c q =>
  h Gb σ G H D s env (fun ds' σ' G2 H2 s2 e2 p => n ds' σ' G2 H2 s2 e2 (hn _ p)) (fun ds' σ' G2 H2 s2 e2 p => b ds' σ' G2 H2 s2 e2 (hb _ p)) (fun ds' σ' G2 H2 s2 e2 p => c ds' σ' G2 H2 s2 e2 (hc _ p)) fun v G2 H2 s2 p => q v G2 H2 s2 (hr _ _ _ s2 p)
/-- a statement by its reading, then the rest -/
theorem bm_st {t : TS} {N1 : NX} (h : PS X st t) (m : SmR W G0 H0 ds t N1 B C r) (k : ∀ ds', N1 ds' → Bm X W G0 H0 ds' rest N B C r) : Bm X W G0 H0 ds (st :: rest) N B C r := bm_of (pss_cons h pss_u) fun Gb σ G H D s env n b c q =>
  m Gb σ G H _ s env (fun ds' σ' G2 H2 s2 e2 p => k ds' p Gb σ' G2 H2 D s2 e2 n b c q) b c q
theorem bm_set' (i : Nat) {x : Str} (he : Em X W ds e P) (k : ∀ d, P d → Bm X W G0 H0 (ds.set i (.dat d)) rest N B C r) (hN : X.N.Nodup) (hi : X.N[i]? = some x := by rfl) (hx : Loc X.env.scope x := by first | exact Or.inl rfl | exact Or.inr rfl)
    (hs : swapsWith e (some (.Name x p2)) pos.line X.env = pure false := by rfl) (hf : X.fn x = true ∨ X.env.scope.names.lookup x = some .local := by first | exact .inl rfl | exact .inr rfl) : Bm X W G0 H0 ds (.Assign [.Name x p2] e pos :: rest) N B C r :=
  bm_st (N1 := fun ds' => ∃ d, P d ∧ ds' = ds.set i (.dat d)) (ps_set (i := i) hN hi hx pe_u hs hf) (fun Gb σ G H D s env n b c q => he σ G H s.ok env _ fun v d G2 H2 r2 hd p => n _ _ G2 H2 (s.to r2) ((env.mono r2).set i (.dat hd)) ⟨d, p, rfl⟩) fun ds' ⟨d, p, e⟩ => by
    rw [e]
    exact k d p
theorem bm_set (i : Nat) {x : Str} (he : Em X W ds e (· = d)) (k : Bm X W G0 H0 (ds.set i (.dat d)) rest N B C r) (hN : X.N.Nodup) (hi : X.N[i]? = some x := by rfl) (hx : Loc X.env.scope x := by first | exact Or.inl rfl | exact Or.inr rfl)
    (hs : swapsWith e (some (.Name x p2)) pos.line X.env = pure false := by rfl) (hf : X.fn x = true ∨ X.env.scope.names.lookup x = some .local := by first | exact .inl rfl | exact .inr rfl) : Bm X W G0 H0 ds (.Assign [.Name x p2] e pos :: rest) N B C r :=
  bm_set' i he (fun _ e => by rw [e]; exact k) hN hi hx hs hf
/-- x = [] -/
theorem bm_new (i : Nat) {x : Str} (k : ∀ a, H0 a = none → (∀ (j : Nat) a' xs, ds[j]? = some (.own a' xs) → a ≠ a') → W.stb a → Bm X W G0 H0 (ds.set i (.own a [])) rest N B C r) (hN : X.N.Nodup) (hi : X.N[i]? = some x := by rfl) (hx : Loc X.env.scope x := by first | exact Or.inl rfl | exact Or.inr rfl)
    (hs : swapsWith (.List [] p3) (some (.Name x p2)) pos.line X.env = pure false := by rfl) (hf : X.fn x = true ∨ X.env.scope.names.lookup x = some .local := by first | exact .inl rfl | exact .inr rfl) : Bm X W G0 H0 ds (.Assign [.Name x p2] (.List [] p3) pos :: rest) N B C r :=
  bm_st (N1 := fun ds' => ∃ a, H0 a = none ∧ (∀ (j : Nat) a' xs, ds[j]? = some (.own a' xs) → a ≠ a') ∧ W.stb a ∧ ds' = ds.set i (.own a [])) (ps_set (i := i) hN hi hx (pe_lst pa_nil) hs hf) (fun Gb σ G H D s env n b c q => ⟨Nat.zero_le _, fun a ha => by
    have g : G a = none := (W.sub s.ok).free ha
    have st : Stp G H G (upd H a (.lst [])) := ⟨.refl _, same_upd2 (W.sub s.ok) g, same_upd ha, fun _ _ h => h⟩
    have r2 := W.step s.ok st
    have sb := W.new s.ok ha
    refine n _ _ G _ (s.to r2) ((env.mono r2).set i (.own g sb upd_same .nil)) ⟨a, s.fresh ha, fun j a' xs h z => ?_, sb, rfl⟩
    obtain ⟨_, _, _, _, _, us, hu, _⟩ := env.at h
    rw [← z, ha] at hu
    cases hu⟩) fun ds' ⟨a, h1, h2, h3, e⟩ => by
    rw [e]
    exact k a h1 h2 h3
/-- x = f(..), a new list -/
theorem bm_callL (i : Nat) {x y : Str} {k : Nat} {ps : List Str} {pre : List PyData → Prop} {post : List PyData → List PyData → Prop} {Pa : List PyData → Prop} (F : Fk X.prog X.w X.K X.mg X.base y k ps (spL pre post)) (hr : Room k X.A) (ha : Am X W ds (e :: es) Pa) (hp : ∀ as, Pa as → pre as)
    (k : ∀ a as xs, Pa as → post as xs → H0 a = none → (∀ (j : Nat) a' xs, ds[j]? = some (.own a' xs) → a ≠ a') → W.stb a → Bm X W G0 H0 (ds.set i (.own a xs)) rest N B C r) (hN : X.N.Nodup) (hi : X.N[i]? = some x := by rfl) (hx : Loc X.env.scope x := by first | exact Or.inl rfl | exact Or.inr rfl)
    (hs : swapsWith (.Call (.Name y p3) (e :: es) [] p4) (some (.Name x p2)) pos.line X.env = pure false := by rfl) (hf : X.fn x = true ∨ X.env.scope.names.lookup x = some .local := by first | exact .inl rfl | exact .inr rfl) (hg : Gl X y := by rfl)
    (hdb : (y == ("__debug__" : Str)) = false := by decide) (he : starEach (e :: es) X.env = (false, eval e X.env) :: starEach es X.env := by rfl) (hpl : (backTo p4 (starEach es X.env)).any (·.1) = false := by rfl) : Bm X W G0 H0 ds (.Assign [.Name x p2] (.Call (.Name y p3) (e :: es) [] p4) pos :: rest) N B C r := by
  obtain ⟨f, fd, Gf, hm, hk, hb⟩ := F.ex
  refine bm_st (N1 := fun ds' => ∃ a as xs, Pa as ∧ post as xs ∧ H0 a = none ∧ (∀ (j : Nat) a' xs, ds[j]? = some (.own a' xs) → a ≠ a') ∧ W.stb a ∧ ds' = ds.set i (.own a xs)) (ps_set (i := i) hN hi hx (pe_call Gf hr hg hm hk hb .nil pass0 pa_u hdb he hpl) hs hf) (fun Gb σ G H D s env n b c q => ha σ G H s.ok env _ fun vs as G1 H1 r1 hs p => ?_) fun ds' ⟨a, as, xs, h1, h2, h3, h4, h5, e⟩ => by
    rw [e]
    exact k a as xs h1 h2 h3 h4 h5
  rw [List.append_nil]
  refine ⟨G1, as, W.sub (W.oks r1), hs, hp as p, fun a us xs G2 H2 st h0 g2 h2 hd hpo => ?_⟩
  have r2 := W.step (W.oks r1) st
  have sb := W.new (W.oks r1) h0
  have env2 := (env.mono r1).mono r2
  refine n _ _ G2 H2 ((s.to r1).to r2) (env2.set i (.own g2 sb h2 hd)) ⟨a, as, xs, p, hpo, (s.to r1).fresh h0, fun j a' xs' h z => ?_, sb, rfl⟩
  obtain ⟨_, _, _, _, _, us', hu, _⟩ := (env.mono r1).at h
  rw [← z, h0] at hu
  cases hu
/-- a list of one's own, read: its items are not changed by it -/
theorem em_own (i : Nat) {x : Str} {a : Addr} {xs : List PyData} (hi : ds[i]? = some (.own a xs)) {e : Expr} {t : TE} {P : PyData → Prop} (h : ∀ ta, (∀ σ G H, W.ok G H → EnvOk W G H ds σ → ∀ Q : VK, (∀ vs, G a = none → H a = some (.lst vs) → Ds G vs xs → Q (.ref a) H) → ta σ H Q) → PE X (.Name x pos) ta → Em X W ds e P) (hN : X.N[i]? = some x := by rfl)
    (hv : Vis X.env.scope x := by first | exact Or.inl rfl | exact Or.inr (Or.inl rfl) | exact Or.inr (Or.inr rfl)) (hd : (x == ("__debug__" : Str)) = false := by decide)
    (hcd : (x == ("__classdict__" : Str)) = false := by decide) : Em X W ds e P := h (tVar i) (fun σ G H ok env Q q => by
  obtain ⟨z, e1, e2, g, sb, vs, hvs, hd⟩ := env.at hi
  exact ⟨.ref a, by rw [e1, e2], q vs g hvs hd⟩) (pv i hN hv hd hcd)
/-- x.append(e) -/
theorem bm_app (i : Nat) {x : Str} {ad : Addr} {xs : List PyData} (hi : ds[i]? = some (.own ad xs)) (he : Em X W ds e P) (h0 : H0 ad = none) (hz : xs.length < 100000) (hn : ∀ (j : Nat) zs, ds[j]? = some (.own ad zs) → j = i) (k : ∀ d, P d → Bm X W G0 H0 (ds.set i (.own ad (xs ++ [d]))) rest N B C r) (hN : X.N[i]? = some x := by rfl)
    (hv : Vis X.env.scope x := by first | exact Or.inl rfl | exact Or.inr (Or.inl rfl) | exact Or.inr (Or.inr rfl)) (hd : (x == ("__debug__" : Str)) = false := by decide) (hcd : (x == ("__classdict__" : Str)) = false := by decide)
    (ht : PS X (.Expr (.Call (.Attribute (.Name x p2) "append" p3) [e] [] p4) pos) (tDrop (tBM X.K "list" rAppend (tVar i) (tCons (uE X e) tNil)))) : Bm X W G0 H0 ds (.Expr (.Call (.Attribute (.Name x p2) "append" p3) [e] [] p4) pos :: rest) N B C r :=
  bm_st (N1 := fun ds' => ∃ d, P d ∧ ds' = ds.set i (.own ad (xs ++ [d]))) ht (fun Gb σ G H D s env n b c q => by
    obtain ⟨z, e1, e2, g, sb, vs, hvs, hd⟩ := env.at hi
    refine ⟨.ref ad, by rw [e1, e2], .inl ⟨rfl, vs, .inl (.inl hvs)⟩, he σ G H s.ok env _ fun v d G2 H2 r2 hd p => ?_⟩
    obtain ⟨z, e1, e2, g2, sb, vs2, hvs2, hd2⟩ := (env.mono r2).at hi
    refine ⟨ad, vs2, v, rfl, rfl, hvs2, Nat.lt_of_lt_of_le (by rw [hd2.len]; exact hz) (by decide : 100000 ≤ sizeLine), ?_⟩
    have R := s.to r2
    refine n _ _ G2 _ (R.chg sb h0 g2 hvs2) ((env.mono r2).put hi hn (hd2.app (.one hd))) ⟨d, p, rfl⟩) fun ds' ⟨d, p, e⟩ => by
    rw [e]
    exact k d p
theorem app_ps {x : Str} (i : Nat) (hN : X.N[i]? = some x := by rfl)
    (hv : Vis X.env.scope x := by first | exact Or.inl rfl | exact Or.inr (Or.inl rfl) | exact Or.inr (Or.inr rfl)) (hd : (x == ("__debug__" : Str)) = false := by decide) (hcd : (x == ("__classdict__" : Str)) = false := by decide) (h : PE X (.Name x p2) (tVar i) → PS X st (tDrop (tBM X.K "list" rAppend (tVar i) (tCons (uE X e) tNil)))) : PS X st (tDrop (tBM X.K "list" rAppend (tVar i) (tCons (uE X e) tNil))) := h (pv i hN hv hd hcd)
theorem bm_expr (he : Em X W ds e P) (k : (∃ d, P d) → Bm X W G0 H0 ds rest N B C r) (hs : swapsWith e none pos.line X.env = pure false := by rfl) : Bm X W G0 H0 ds (.Expr e pos :: rest) N B C r :=
  bm_st (N1 := fun ds' => (∃ d, P d) ∧ ds' = ds) (ps_expr pe_u hs) (fun Gb σ G H D s env n b c q => he σ G H s.ok env _ fun v d G2 H2 r2 hd p => n _ _ G2 H2 (s.to r2) (env.mono r2) ⟨⟨d, p⟩, rfl⟩) fun ds' ⟨h, e⟩ => by
    rw [e]
    exact k h
theorem bm_ret (he : Em X W ds e P) (h : ∀ v d G H, Dd G v d → P d → r v G H) : Bm X W G0 H0 ds (.Return (some e) pos :: rest) N B C r := bm_of (pss_cons (ps_ret pe_u) pss_never) fun Gb σ G H D s env n b c q =>
  he σ G H s.ok env _ fun v d G2 H2 r2 hd p => q v G2 H2 (s.to r2).r (h v d G2 H2 hd p)
theorem bm_retD (he : Em X W ds e P) : Bm X W G0 H0 ds (.Return (some e) pos :: rest) N B C (rD P) := bm_ret he fun v d G H hd p => ⟨d, hd, p⟩
/-- return of a list of one's own -/
theorem bm_retL (i : Nat) {x : Str} {ad : Addr} {xs : List PyData} (hi : ds[i]? = some (.own ad xs)) (h0 : H0 ad = none) {Pl : List PyData → Prop} (hp : Pl xs) (hN : X.N[i]? = some x := by rfl)
    (hv : Vis X.env.scope x := by first | exact Or.inl rfl | exact Or.inr (Or.inl rfl) | exact Or.inr (Or.inr rfl)) (hd : (x == ("__debug__" : Str)) = false := by decide) (hcd : (x == ("__classdict__" : Str)) = false := by decide) : Bm X W G0 H0 ds (.Return (some (.Name x p2)) pos :: rest) N B C (rL H0 Pl) :=
  bm_of (pss_cons (ps_ret (pv i hN hv hd hcd)) pss_never) fun Gb σ G H D s env n b c q => by
    obtain ⟨z, e1, e2, g, sb, vs, hvs, hd⟩ := env.at hi
    exact ⟨.ref ad, by rw [e1, e2], q _ G H s.r ⟨ad, vs, xs, rfl, h0, g, hvs, hd, hp⟩⟩
/-- .. taken as data -/
theorem bm_retF (i : Nat) {x : Str} {ad : Addr} {xs : List PyData} (hi : ds[i]? = some (.own ad xs)) (h0 : H0 ad = none) (hp : P (.list xs)) (hN : X.N[i]? = some x := by rfl)
    (hv : Vis X.env.scope x := by first | exact Or.inl rfl | exact Or.inr (Or.inl rfl) | exact Or.inr (Or.inr rfl)) (hd : (x == ("__debug__" : Str)) = false := by decide) (hcd : (x == ("__classdict__" : Str)) = false := by decide) : Bm X W G0 H0 ds (.Return (some (.Name x p2)) pos :: rest) N B C (rD P) :=
  bm_of (pss_cons (ps_ret (pv i hN hv hd hcd)) pss_never) fun Gb σ G H D s env n b c q => by
    obtain ⟨z, e1, e2, g, sb, vs, hvs, hd⟩ := env.at hi
    exact ⟨.ref ad, by rw [e1, e2], q _ _ H (W.frz s.r sb h0 g hvs) ⟨_, .lst upd_same (dmonoAll (same_upd g) _ _ hd), hp⟩⟩
/-! ### if -/
theorem bm_if' {Pc : Bool → Prop} {N1 : NX} (hc : Tm X W ds c Pc) (h1 : Pc true → Bm X W G0 H0 ds body N1 B C r) (h2 : Pc false → Bm X W G0 H0 ds orelse N1 B C r) (k : ∀ ds', N1 ds' → Bm X W G0 H0 ds' rest N B C r) : Bm X W G0 H0 ds (.If c body orelse pos :: rest) N B C r :=
  bm_st (ps_if pt_u pss_u pss_u) (fun Gb σ G H D s env n b c q => hc σ G H s.ok env _ fun x G2 H2 r2 p => by
    cases x with
    | true =>
      rw [if_pos rfl]
      exact h1 p Gb σ G2 H2 D (s.to r2) (env.mono r2) n b c q
    | false =>
      rw [if_neg Bool.false_ne_true]
      exact h2 p Gb σ G2 H2 D (s.to r2) (env.mono r2) n b c q) k
/-- if c: .. return, and the rest -/
theorem bm_ifR {x : Bool} (hc : Tm X W ds c (· = x)) (h1 : x = true → Bm X W G0 H0 ds body nono B C r) (h2 : x = false → Bm X W G0 H0 ds rest N B C r) : Bm X W G0 H0 ds (.If c body [] pos :: rest) N B C r :=
  bm_if' (N1 := fun ds' => ds' = ds ∧ x = false) hc (fun p => bm_mono (h1 p.symm) (fun _ z => z.elim) (fun _ z => z) (fun _ z => z) fun _ _ _ _ z => z) (fun p => bm_nil ⟨rfl, p.symm⟩) fun ds' ⟨e, p⟩ => by
    rw [e]
    exact h2 p
theorem bm_ifR' {Pc : Bool → Prop} (hc : Tm X W ds c Pc) (h1 : Pc true → Bm X W G0 H0 ds body nono B C r) (h2 : Pc false → Bm X W G0 H0 ds rest N B C r) : Bm X W G0 H0 ds (.If c body [] pos :: rest) N B C r :=
  bm_if' (N1 := fun ds' => ds' = ds ∧ Pc false) hc (fun p => bm_mono (h1 p) (fun _ z => z.elim) (fun _ z => z) (fun _ z => z) fun _ _ _ _ z => z) (fun p => bm_nil ⟨rfl, p⟩) fun ds' ⟨e, p⟩ => by
    rw [e]
    exact h2 p
/-! ### several targets -/
theorem bm_tup2' (i j : Nat) {x y : Str} {n : Nat} (he : Em X W ds e P) (k : ∀ d, P d → ∃ u v, d = .tuple [u, v] ∧ Bm X W G0 H0 ((ds.set i (.dat u)).set j (.dat v)) rest N B C r) (hc : X.calm = true) (hN : X.N.Nodup) (hi : X.N[i]? = some x := by rfl) (hj : X.N[j]? = some y := by rfl) (hx : Loc X.env.scope x := by first | exact Or.inl rfl | exact Or.inr rfl) (hy : Loc X.env.scope y := by first | exact Or.inl rfl | exact Or.inr rfl)
    (hfx : X.fn x = true ∨ X.env.scope.names.lookup x = some .local := by first | exact .inl rfl | exact .inr rfl) (hfy : X.fn y = true ∨ X.env.scope.names.lookup y = some .local := by first | exact .inl rfl | exact .inr rfl)
    (ht : PGs X [.Name x p2, .Name y p3] (gCons (gName i) (gCons (gName j) gNil)) → PS X (.Assign [.Tuple [.Name x p2, .Name y p3] n p4] e pos) (tAsg (uE X e) (gTup X.K 2 (gCons (gName i) (gCons (gName j) gNil)))))
    (hs1 : (assignEach [.Name x p2, .Name y p3] X.env).map (·.2) = assign (.Name x p2) X.env :: (assignEach [.Name y p3] X.env).map (·.2) := by rfl) (hs2 : (assignEach [.Name y p3] X.env).map (·.2) = assign (.Name y p3) X.env :: (assignEach [] X.env).map (·.2) := by rfl) :
    Bm X W G0 H0 ds (.Assign [.Tuple [.Name x p2, .Name y p3] n p4] e pos :: rest) N B C r :=
  bm_st (N1 := fun ds' => ∃ u v, P (.tuple [u, v]) ∧ ds' = (ds.set i (.dat u)).set j (.dat v)) (ht (pgs_cons (pg_name hN hi hx hfx) (pgs_cons (pg_name hN hj hy hfy) pgs_nil hs2) hs1)) (fun Gb σ G H D s env n b c q => he σ G H s.ok env _ fun v d G2 H2 r2 hd p => by
    obtain ⟨u, w, rfl, _⟩ := k d p
    cases hd with
    | @tup ad _ us _ hq hd =>
      cases hd with
      | cons h1 hd => cases hd with
        | cons h2 hd => cases hd with
          | nil =>
            rename_i v1 v2
            exact ⟨ad, [v1, v2], rfl, .inl (rdt (W.sub (W.oks r2) _ _ hq)), rfl, v1, [v2], rfl, v2, [], rfl, rfl, n _ _ G2 H2 (s.to r2) (((env.mono r2).set i (.dat h1)).set j (.dat h2)) ⟨u, w, p, rfl⟩⟩) fun ds' ⟨u, v, p, e⟩ => by
    obtain ⟨u', v', e2, h⟩ := k _ p
    injection e2 with e2
    injection e2 with e2 e3
    injection e3 with e3 e4
    subst e2
    subst e3
    rw [e]
    exact h
theorem bm_tup2 (i j : Nat) {x y : Str} {n : Nat} {u v : PyData} (he : Em X W ds e (· = .tuple [u, v])) (k : Bm X W G0 H0 ((ds.set i (.dat u)).set j (.dat v)) rest N B C r) (hc : X.calm = true) (hN : X.N.Nodup) (hi : X.N[i]? = some x := by rfl) (hj : X.N[j]? = some y := by rfl) (hx : Loc X.env.scope x := by first | exact Or.inl rfl | exact Or.inr rfl) (hy : Loc X.env.scope y := by first | exact Or.inl rfl | exact Or.inr rfl)
    (hfx : X.fn x = true ∨ X.env.scope.names.lookup x = some .local := by first | exact .inl rfl | exact .inr rfl) (hfy : X.fn y = true ∨ X.env.scope.names.lookup y = some .local := by first | exact .inl rfl | exact .inr rfl)
    (ht : PGs X [.Name x p2, .Name y p3] (gCons (gName i) (gCons (gName j) gNil)) → PS X (.Assign [.Tuple [.Name x p2, .Name y p3] n p4] e pos) (tAsg (uE X e) (gTup X.K 2 (gCons (gName i) (gCons (gName j) gNil)))))
    (hs1 : (assignEach [.Name x p2, .Name y p3] X.env).map (·.2) = assign (.Name x p2) X.env :: (assignEach [.Name y p3] X.env).map (·.2) := by rfl) (hs2 : (assignEach [.Name y p3] X.env).map (·.2) = assign (.Name y p3) X.env :: (assignEach [] X.env).map (·.2) := by rfl) :
    Bm X W G0 H0 ds (.Assign [.Tuple [.Name x p2, .Name y p3] n p4] e pos :: rest) N B C r := bm_tup2' i j he (fun _ e => ⟨u, v, e, k⟩) hc hN hi hj hx hy hfx hfy ht hs1 hs2
/-- a, b = x, y -/
theorem bm_par (i j : Nat) {x y : Str} {n m : Nat} {Pa : List PyData → Prop} (ha : Am X W ds [a, b] Pa) (k : ∀ as, Pa as → ∃ u v, as = [u, v] ∧ Bm X W G0 H0 ((ds.set i (.dat u)).set j (.dat v)) rest N B C r) (hc : X.calm = true) (hN : X.N.Nodup) (hi : X.N[i]? = some x := by rfl) (hj : X.N[j]? = some y := by rfl) (hij : i ≠ j := by decide)
    (hx : X.env.scope.names.lookup x = some .local := by rfl) (hy : X.env.scope.names.lookup y = some .local := by rfl) (hw : swappedStores [.Tuple [.Name x p2, .Name y p3] n p4] (.Tuple [a, b] m p5) X.env = pure (some [x, y]) := by rfl)
    (hs : swapsWithSole [.Tuple [.Name x p2, .Name y p3] n p4] (.Tuple [a, b] m p5) pos.line X.env = pure false := by rfl) : Bm X W G0 H0 ds (.Assign [.Tuple [.Name x p2, .Name y p3] n p4] (.Tuple [a, b] m p5) pos :: rest) N B C r :=
  bm_st (N1 := fun ds' => ∃ u v, Pa [u, v] ∧ ds' = (ds.set i (.dat u)).set j (.dat v)) (ps_par hc hN hi hj hij hx hy pa_u hw hs) (fun Gb σ G H D s env n b c q => ha σ G H s.ok env _ fun vs as G2 H2 r2 hd p => by
    obtain ⟨u, w, rfl, _⟩ := k as p
    cases hd with
    | cons h1 hd => cases hd with
      | cons h2 hd => cases hd with
        | nil =>
          rename_i v1 v2
          exact ⟨v1, v2, rfl, n _ _ G2 H2 (s.to r2) (((env.mono r2).set i (.dat h1)).set j (.dat h2)) ⟨u, w, p, rfl⟩⟩) fun ds' ⟨u, v, p, e⟩ => by
    obtain ⟨u', v', e2, h⟩ := k _ p
    injection e2 with e2 e3
    injection e3 with e3 e4
    subst e2
    subst e3
    rw [e]
    exact h
/-! ### loops -/
theorem bm_while {N1 : NX} (I : Nat → List Sl → Prop) (m0 : Nat) (h0 : I m0 ds) (hp : PassesOwn (model X.prog X.w) X.A X.env X.xe)
    (hs : ∀ m ds', I m ds' → ∃ x, Tm X W ds' c (· = x) ∧ (x = true → Bm X W G0 H0 ds' body (fun ds2 => ∃ m', m' < m ∧ I m' ds2) (fun ds2 => N1 ds2) (fun ds2 => ∃ m', m' < m ∧ I m' ds2) r) ∧ (x = false → N1 ds')) (k : ∀ ds', N1 ds' → Bm X W G0 H0 ds' rest N B C r) : Bm X W G0 H0 ds (.While c body [] pos :: rest) N B C r :=
  bm_st (ps_while hp pt_u pss_u) (fun Gb σ G H D s env n b cc q => by
    refine ⟨fun m σ' H' => ∃ ds' G', At W Gb G0 H0 G' H' ∧ EnvOk W G' H' ds' σ' ∧ I m ds', ⟨m0, ds, G, s, env, h0⟩, fun m σ' H' ⟨ds', G', s', env', hI⟩ => ?_⟩
    obtain ⟨x, hx, ht, hf⟩ := hs m ds' hI
    refine hx σ' G' H' (s'.ok) env' _ fun y G2 H2 r2 e => ?_
    subst e
    cases y with
    | true =>
      rw [if_pos rfl]
      refine ⟨fun σ2 H2 => ∃ m', m' < m ∧ ∃ ds2 G2, At W Gb G0 H0 G2 H2 ∧ EnvOk W G2 H2 ds2 σ2 ∧ I m' ds2, fun σ2 H2 h => h, ?_⟩
      exact ht rfl Gb σ' G2 H2 _ (s'.to r2) (env'.mono r2) (fun ds2 σ2 G3 H3 s3 e3 ⟨m', hm, hI⟩ => ⟨m', hm, ds2, G3, s3, e3, hI⟩) (fun ds2 σ2 G3 H3 s3 e3 hN => n ds2 σ2 G3 H3 s3 e3 hN) (fun ds2 σ2 G3 H3 s3 e3 ⟨m', hm, hI⟩ => ⟨m', hm, ds2, G3, s3, e3, hI⟩) q
    | false =>
      rw [if_neg Bool.false_ne_true]
      exact n ds' σ' G2 H2 (s'.to r2) (env'.mono r2) (hf rfl)) k
/-- the turns of a for, by data -/
theorem bm_forT {N1 : NX} (i : Nat) {x : Str} {as : List PyData} (ha : Em X W ds a (· = .tuple as)) (I : Nat → List Sl → Prop) (h0 : I 0 ds) (hp : PassesOwn (model X.prog X.w) X.A X.env X.xe) (hc : X.calm = true)
    (hs : ∀ n d ds', as[n]? = some d → I n ds' → Bm X W G0 H0 (ds'.set i (.dat d)) body (I (n + 1)) N1 (I (n + 1)) r) (hd : ∀ ds', I as.length ds' → N1 ds') (k : ∀ ds', N1 ds' → Bm X W G0 H0 ds' rest N B C r) (hN : X.N.Nodup) (hi : X.N[i]? = some x := by rfl) (hx : Loc X.env.scope x := by first | exact Or.inl rfl | exact Or.inr rfl)
    (hf : X.fn x = true ∨ X.env.scope.names.lookup x = some .local := by first | exact .inl rfl | exact .inr rfl) (hs' : ∀ x, foldedSetIterable a X.env x = pure x := by intro _; rfl) : Bm X W G0 H0 ds (.For (.Name x p2) a body [] pos :: rest) N B C r :=
  bm_st (ps_for hp hc (pi_tup pe_u) (pg_name (i := i) hN hi hx hf) pss_u hs') (fun Gb σ G H D s env n b cc q => ha σ G H s.ok env _ fun v d G1 H1 r1 hv e => by
    subst e
    cases hv with
    | @tup ad _ us _ hq hus =>
      refine ⟨ad, rfl, ⟨us, .inl (rdt (W.sub (W.oks r1) _ _ hq))⟩, for_tup (K := X.K) (xs := us) (fun n σ' H' => ∃ ds' G', At W G1 G0 H0 G' H' ∧ EnvOk W G' H' ds' σ' ∧ I n ds') ⟨ds, G1, ⟨.refl _, (s.to r1).r⟩, env.mono r1, h0⟩ ?_ ?_ ?_⟩
      · rintro m σ' H' _ ⟨ds', G', s', _, _⟩
        exact .inl (rdt (W.sub s'.ok _ _ (s'.b _ _ hq)))
      · rintro m y σ' H' hm ⟨ds', G', s', env', hI⟩
        obtain ⟨dd, h1, h2⟩ := hus.atV hm
        exact hs m dd ds' h1 hI G1 _ G' H' _ s' (env'.set i (.dat (dmono s'.b _ _ h2))) (fun ds2 σ2 G3 H3 s3 e3 p => ⟨ds2, G3, s3, e3, p⟩) (fun ds2 σ2 G3 H3 s3 e3 p => n ds2 σ2 G3 H3 ⟨(s.to r1).b.trans s3.b, s3.r⟩ e3 p) (fun ds2 σ2 G3 H3 s3 e3 p => ⟨ds2, G3, s3, e3, p⟩) q
      · rintro σ' H' ⟨ds', G', s', env', hI⟩
        exact n ds' σ' G' H' ⟨(s.to r1).b.trans s'.b, s'.r⟩ env' (hd ds' (by rw [← hus.len]; exact hI))) k
theorem bm_forL {N1 : NX} (i : Nat) {x : Str} {as : List PyData} (ha : Em X W ds a (· = .list as)) (I : Nat → List Sl → Prop) (h0 : I 0 ds) (hp : PassesOwn (model X.prog X.w) X.A X.env X.xe) (hc : X.calm = true)
    (hs : ∀ n d ds', as[n]? = some d → I n ds' → Bm X W G0 H0 (ds'.set i (.dat d)) body (I (n + 1)) N1 (I (n + 1)) r) (hd : ∀ ds', I as.length ds' → N1 ds') (k : ∀ ds', N1 ds' → Bm X W G0 H0 ds' rest N B C r) (hN : X.N.Nodup) (hi : X.N[i]? = some x := by rfl) (hx : Loc X.env.scope x := by first | exact Or.inl rfl | exact Or.inr rfl)
    (hf : X.fn x = true ∨ X.env.scope.names.lookup x = some .local := by first | exact .inl rfl | exact .inr rfl) (hs' : ∀ x, foldedSetIterable a X.env x = pure x := by intro _; rfl) : Bm X W G0 H0 ds (.For (.Name x p2) a body [] pos :: rest) N B C r :=
  bm_st (ps_for hp hc (pi_list pe_u) (pg_name (i := i) hN hi hx hf) pss_u hs') (fun Gb σ G H D s env n b cc q => ha σ G H s.ok env _ fun v d G1 H1 r1 hv e => by
    subst e
    cases hv with
    | @lst ad us _ hq hus =>
      refine ⟨ad, rfl, ⟨us, .inl (.inl (W.sub (W.oks r1) _ _ hq))⟩, for_list (K := X.K) (xs := us) (fun n σ' H' => ∃ ds' G', At W G1 G0 H0 G' H' ∧ EnvOk W G' H' ds' σ' ∧ I n ds') ⟨ds, G1, ⟨.refl _, (s.to r1).r⟩, env.mono r1, h0⟩ ?_ ?_ ?_⟩
      · rintro m σ' H' _ ⟨ds', G', s', _, _⟩
        exact .inl (.inl (W.sub s'.ok _ _ (s'.b _ _ hq)))
      · rintro m y σ' H' hm ⟨ds', G', s', env', hI⟩
        obtain ⟨dd, h1, h2⟩ := hus.atV hm
        exact hs m dd ds' h1 hI G1 _ G' H' _ s' (env'.set i (.dat (dmono s'.b _ _ h2))) (fun ds2 σ2 G3 H3 s3 e3 p => ⟨ds2, G3, s3, e3, p⟩) (fun ds2 σ2 G3 H3 s3 e3 p => n ds2 σ2 G3 H3 ⟨(s.to r1).b.trans s3.b, s3.r⟩ e3 p) (fun ds2 σ2 G3 H3 s3 e3 p => ⟨ds2, G3, s3, e3, p⟩) q
      · rintro σ' H' ⟨ds', G', s', env', hI⟩
        exact n ds' σ' G' H' ⟨(s.to r1).b.trans s'.b, s'.r⟩ env' (hd ds' (by rw [← hus.len]; exact hI))) k
theorem bm_forR {N1 : NX} (i : Nat) {x : Str} {z : Int} (ha : Em X W ds a (· = .int z)) (hz : -(2 ^ 62) ≤ z ∧ z < 2 ^ 62) (I : Nat → List Sl → Prop) (h0 : I 0 ds) (hp : PassesOwn (model X.prog X.w) X.A X.env X.xe) (hc : X.calm = true)
    (hs : ∀ (n : Nat) ds', n < z.toNat → I n ds' → Bm X W G0 H0 (ds'.set i (.dat (.int n))) body (I (n + 1)) N1 (I (n + 1)) r) (hd : ∀ ds', I z.toNat ds' → N1 ds') (k : ∀ ds', N1 ds' → Bm X W G0 H0 ds' rest N B C r) (hm : X.mg "range" = none) (hN : X.N.Nodup) (hi : X.N[i]? = some x := by rfl) (hx : Loc X.env.scope x := by first | exact Or.inl rfl | exact Or.inr rfl)
    (hf : X.fn x = true ∨ X.env.scope.names.lookup x = some .local := by first | exact .inl rfl | exact .inr rfl) (hg : Gl X "range" := by rfl) (hs1 : starEach [a] X.env = [(false, eval a X.env)] := by rfl) (hs2 : starEach [a] X.env = (false, eval a X.env) :: starEach [] X.env := by rfl) (hs' : ∀ x, foldedSetIterable (.Call (.Name "range" p3) [a] [] p4) X.env x = pure x := by intro _; rfl) :
    Bm X W G0 H0 ds (.For (.Name x p2) (.Call (.Name "range" p3) [a] [] p4) body [] pos :: rest) N B C r :=
  bm_st (ps_for hp hc (pi_range1 hg hm (pa_cons pe_u pa_nil hs2) hs1) (pg_name (i := i) hN hi hx hf) pss_u hs') (fun Gb σ G H D s env n b cc q => ha σ G H s.ok env _ fun v d G1 H1 r1 hv e => by
    subst e
    cases hv
    refine ⟨z, rfl, hz.1, hz.2, for_range (fun n σ' H' => ∃ ds' G', At W Gb G0 H0 G' H' ∧ EnvOk W G' H' ds' σ' ∧ I n ds') ⟨ds, G1, s.to r1, env.mono r1, h0⟩ ?_ ?_⟩
    · rintro m σ' H' hm ⟨ds', G', s', env', hI⟩
      have e0 : (0 : Int) + (m : Int) = (m : Int) := Int.zero_add _
      show uB X body _ (σ'.set i (some (.int ((0 : Int) + (m : Int))))) H'
      rw [e0]
      exact hs m ds' hm hI Gb _ G' H' _ s' (env'.set i (.dat (.int _))) (fun ds2 σ2 G3 H3 s3 e3 p => ⟨ds2, G3, s3, e3, p⟩) (fun ds2 σ2 G3 H3 s3 e3 p => n ds2 σ2 G3 H3 s3 e3 p) (fun ds2 σ2 G3 H3 s3 e3 p => ⟨ds2, G3, s3, e3, p⟩) q
    · rintro σ' H' ⟨ds', G', s', env', hI⟩
      exact n ds' σ' G' H' s' env' (hd ds' hI)) k
end
/-! ## defs -/
section
variable {P : Program} {w : World} {K : PySem.W.Frag} {mg : Str → Option Value} {base : Heap} {x qual : Str} {params : Arguments} {body : List Stmt} {scope : Scope} {f : Addr} {fd : FuncData} {N ps : List Str} {k : Nat}
/-- the slots at a def's entry -/
def sl0 (N : List Str) (as : List PyData) : List Sl := as.map Sl.dat ++ List.replicate (N.length - as.length) .un
theorem env0 {W : Wr} {G H : Hp} {vs : List V} {as : List PyData} (h : Ds G vs as) : EnvOk W G H (sl0 N as) (start N vs) := by
  have hl := h.len
  refine ⟨?_, fun i s y a b => ?_⟩
  · unfold sl0 L2.start
    rw [List.length_append, List.length_append, List.length_map, List.length_map, List.length_replicate, List.length_replicate, hl]
  · unfold sl0 at a
    unfold L2.start at b
    by_cases hi : i < as.length
    · rw [List.getElem?_append_left (by rw [List.length_map]; exact hi), List.getElem?_map, List.getElem?_eq_getElem hi] at a
      obtain ⟨v, hv, hd⟩ := h.at (List.getElem?_eq_getElem hi)
      rw [List.getElem?_append_left (by rw [List.length_map, hl]; exact hi), List.getElem?_map, hv] at b
      cases a
      cases b
      exact .dat hd
    · rw [List.getElem?_append_right (by rw [List.length_map]; omega), List.getElem?_replicate] at a
      split at a
      · cases a
        trivial
      · cases a
abbrev Cx0 (P : Program) (w : World) (K : PySem.W.Frag) (mg : Str → Option Value) (base : Heap) (N : List Str) (qual : Str) (scope : Scope) (f : Addr) (cdv : Value) (A : Around) (outer : List Env) (s : Shared) (H : Hp) (E : XK) : Cx := (cxOf CX0 P w K mg base N qual scope f cdv A outer s H E).nox
theorem fk_of {sp : Sp} (F : FunD K x qual params body scope [] [] f fd) (hm : mg x = some (.ref f)) (h : FnOk P w K mg base CX0 k f fd ps sp)
    (hb : ∀ (kV doc pm : Value) (an : Option Addr) (cdv ct : Value) (us : List Value), us.length = ps.length → bindArgs (PySem.W.fnOf x qual params body scope .none kV doc pm an cdv ct) ⟨us, []⟩ = pure (ps.zip us)) : Fk P w K mg base x k ps sp :=
  ⟨f, fd, h, hm, F.kp, F.bindsN hb⟩
theorem fn_P {pre : List PyData → Prop} {post : List PyData → PyData → Prop} (F : FunD K x qual params body scope [] [] f fd) (S : FnScope N ps scope) (hl : ∀ as, pre as → as.length = ps.length)
    (hb : ∀ (cdv : Value) (A : Around) (outer : List Env) (s : Shared) (H : Hp) (E : XK) (G : Hp) (as : List PyData), Room k (A.deeper (envOfC qual scope s.heap.objs.size f cdv)) → Same G H → pre as →
      Bm (Cx0 P w K mg base N qual scope f cdv A outer s H E) pw G H (sl0 N as) body (fun _ => post as .none) nono nono (rD (post as))) : FnOk P w K mg base CX0 (k + 1) f fd ps (spP pre post) := by
  refine F.ok S (fun vs H Q E ⟨G, as, sm, hd, p, _⟩ => by rw [hd.len]; exact hl as p) fun cdv A outer s H vs Q E hr ⟨G, as, sm, hd, p, q⟩ => ?_
  obtain ⟨t, ht, h⟩ := hb cdv A outer s H E G as hr sm p G (start N vs) G H { nx := fun _ H' => Q .non H', rt := Q } ⟨.refl _, .refl sm⟩ (env0 hd) (fun ds' σ' G2 H2 s2 _ p2 => q .non .none G2 H2 s2.r .non p2) (fun _ _ _ _ _ _ z => z.elim) (fun _ _ _ _ _ _ z => z.elim) fun v G2 H2 s2 ⟨d, hd2, p2⟩ => q v d G2 H2 s2 hd2 p2
  exact ⟨t, ht.nox, h⟩
theorem fn_L {pre : List PyData → Prop} {post : List PyData → List PyData → Prop} (F : FunD K x qual params body scope [] [] f fd) (S : FnScope N ps scope) (hl : ∀ as, pre as → as.length = ps.length)
    (hb : ∀ (cdv : Value) (A : Around) (outer : List Env) (s : Shared) (H : Hp) (E : XK) (G : Hp) (as : List PyData), Room k (A.deeper (envOfC qual scope s.heap.objs.size f cdv)) → Same G H → pre as →
      Bm (Cx0 P w K mg base N qual scope f cdv A outer s H E) pw G H (sl0 N as) body nono nono nono (rL H (post as))) : FnOk P w K mg base CX0 (k + 1) f fd ps (spL pre post) := by
  refine F.ok S (fun vs H Q E ⟨G, as, sm, hd, p, _⟩ => by rw [hd.len]; exact hl as p) fun cdv A outer s H vs Q E hr ⟨G, as, sm, hd, p, q⟩ => ?_
  obtain ⟨t, ht, h⟩ := hb cdv A outer s H E G as hr sm p G (start N vs) G H { nx := fun _ H' => Q .non H', rt := Q } ⟨.refl _, .refl sm⟩ (env0 hd) (fun _ _ _ _ _ _ z => z.elim) (fun _ _ _ _ _ _ z => z.elim) (fun _ _ _ _ _ _ z => z.elim) fun v G2 H2 s2 ⟨a, us, xs, e, h0, g2, h2, hd2, p2⟩ => by
    rw [e]
    exact q a us xs G2 H2 s2 h0 g2 h2 hd2 p2
  exact ⟨t, ht.nox, h⟩
/-- the slots at the entry of a def with a bag ahead -/
def sl1 (N : List Str) (b : Addr) (as : List PyData) : List Sl := .raw (.ref b) :: (as.map Sl.dat ++ List.replicate (N.length - (as.length + 1)) .un)
theorem env1 {W : Wr} {G H : Hp} {b : Addr} {vs : List V} {as : List PyData} (h : Ds G vs as) : EnvOk W G H (sl1 N b as) (start N (.ref b :: vs)) := by
  have hl := h.len
  have e : start N (.ref b :: vs) = some (.ref b) :: (vs.map some ++ List.replicate (N.length - (vs.length + 1)) none) := rfl
  rw [e]
  refine ⟨?_, fun i s y a b => ?_⟩
  · unfold sl1
    rw [List.length_cons, List.length_cons, List.length_append, List.length_append, List.length_map, List.length_map, List.length_replicate, List.length_replicate, hl]
  · unfold sl1 at a
    cases i with
    | zero =>
      cases a
      cases b
      rfl
    | succ i =>
      rw [List.getElem?_cons_succ] at a b
      by_cases hi : i < as.length
      · rw [List.getElem?_append_left (by rw [List.length_map]; exact hi), List.getElem?_map, List.getElem?_eq_getElem hi] at a
        obtain ⟨v, hv, hd⟩ := h.at (List.getElem?_eq_getElem hi)
        rw [List.getElem?_append_left (by rw [List.length_map, hl]; exact hi), List.getElem?_map, hv] at b
        cases a
        cases b
        exact .dat hd
      · rw [List.getElem?_append_right (by rw [List.length_map]; omega), List.getElem?_replicate] at a
        split at a
        · cases a
          trivial
        · cases a
theorem fn_B {pre : List PyData → Prop} {post : List PyData → PyData → Prop} (F : FunD K x qual params body scope [] [] f fd) (S : FnScope N ps scope) (hl : ∀ as, pre as → as.length + 1 = ps.length)
    (hb : ∀ (cdv : Value) (A : Around) (outer : List Env) (s : Shared) (H : Hp) (E : XK) (G : Hp) (b : Addr) (as : List PyData), Room k (A.deeper (envOfC qual scope s.heap.objs.size f cdv)) → BagOk b G H → pre as →
      Bm (Cx0 P w K mg base N qual scope f cdv A outer s H E) (bw b) G H (sl1 N b as) body (fun _ => post as .none) nono nono (rD (post as))) : FnOk P w K mg base CX0 (k + 1) f fd ps (spB pre post) := by
  refine F.ok S (fun vs H Q E ⟨b, us, G, as, e, ok, hd, p, _⟩ => by rw [e, List.length_cons, hd.len]; exact hl as p) fun cdv A outer s H vs Q E hr ⟨b, us, G, as, e, ok, hd, p, q⟩ => ?_
  rw [e]
  obtain ⟨t, ht, h⟩ := hb cdv A outer s H E G b as hr ok p G (start N (.ref b :: us)) G H { nx := fun _ H' => Q .non H', rt := Q } ⟨.refl _, (bw b).refl ok⟩ (env1 hd) (fun ds' σ' G2 H2 s2 _ p2 => q .non .none G2 H2 s2.r .non p2) (fun _ _ _ _ _ _ z => z.elim) (fun _ _ _ _ _ _ z => z.elim) fun v G2 H2 s2 ⟨d, hd2, p2⟩ => q v d G2 H2 s2 hd2 p2
  exact ⟨t, ht.nox, h⟩
end
end Dn
namespace Dn
open PySem PySem.Spec PyProof.Rows L2
/-! ## comprehensions: one for, a name -/
theorem EnvOk.other {W : Wr} {G H : Hp} {ds : List Sl} {σ : L2.St} {D : Addr} {o : HO} (h : EnvOk W G H ds σ) (hn : ∀ (j : Nat) a xs, ds[j]? = some (.own a xs) → a ≠ D) : EnvOk W G (upd H D o) ds σ := by
  refine ⟨h.1, fun i s x a b => ?_⟩
  have z := h.2 i s x a b
  cases s with
  | un => trivial
  | dat d => exact z
  | raw v => exact z
  | scr K a ns => exact z
  | fz d => exact z
  | own a' xs =>
    obtain ⟨e1, g, st, us, hu, hd⟩ := z
    exact ⟨e1, g, st, us, by rw [upd_ne (hn i a' xs a)]; exact hu, hd⟩
theorem EnvOk.fresh {W : Wr} {G H : Hp} {ds : List Sl} {σ : L2.St} {D : Addr} (h : EnvOk W G H ds σ) (hD : H D = none) : ∀ (j : Nat) a xs, ds[j]? = some (.own a xs) → a ≠ D := fun j a xs e z => by
  obtain ⟨_, _, _, _, _, us, hu, _⟩ := h.at e
  rw [z, hD] at hu
  cases hu
structure LcI (W : Wr) (G H : Hp) (ds : List Sl) (σ : L2.St) (G1 : Hp) (D : Addr) (Pe : Nat → PyData → Prop) (n : Nat) (H' : Hp) : Prop where
  ex : ∃ G' vs ys, W.R G H G' H' ∧ Same G1 G' ∧ EnvOk W G' H' ds σ ∧ G' D = none ∧ H' D = some (.lst vs) ∧ Ds G' vs ys ∧ ys.length = n ∧ ∀ m y, ys[m]? = some y → Pe m y
section
variable {X : Cx} {W : Wr} {ds : List Sl} {e a elt : Expr} {pos p2 p3 p4 : Pos} {P : PyData → Prop} {Pe : Nat → PyData → Prop} {G H G1 H1 : Hp} {σ : L2.St} {D : Addr}
theorem lc_start (r1 : W.R G H G1 H1) (env : EnvOk W G H ds σ) (hD : H1 D = none) : LcI W G H ds σ G1 D Pe 0 (upd H1 D (.lst [])) := by
  have g : G1 D = none := (W.sub (W.oks r1)).free hD
  have st : Stp G1 H1 G1 (upd H1 D (.lst [])) := ⟨.refl _, same_upd2 (W.sub (W.oks r1)) g, same_upd hD, fun _ _ h => h⟩
  have r2 := W.step (W.oks r1) st
  exact ⟨G1, [], [], W.trans r1 r2, .refl _, (env.mono r1).mono r2, g, upd_same, .nil, rfl, fun m y h => by simp at h⟩
theorem lc_turn {n : Nat} {H' G4 H4 : Hp} {G' : Hp} {vs : List V} {ys : List PyData} {y : V} {d : PyData} (hD : H D = none) (sb : W.stb D) (env0 : EnvOk W G H ds σ) (r : W.R G H G' H') (g1 : Same G1 G') (env : EnvOk W G' H' ds σ) (gD : G' D = none) (hv : H' D = some (.lst vs)) (hd : Ds G' vs ys) (hl : ys.length = n) (hp : ∀ m y, ys[m]? = some y → Pe m y)
    (hn : n < 40000) (r4 : W.R G' H' G4 H4) (hy : Dd G4 y d) (py : Pe n d) : ∃ acc, H4 D = some (.lst acc) ∧ acc.length < sizeLine ∧ LcI W G H ds σ G1 D Pe (n + 1) (upd H4 D (.lst (acc ++ [y]))) := by
  obtain ⟨h4, g4⟩ := W.own r4 sb gD hv
  refine ⟨vs, h4, Nat.lt_of_lt_of_le (by rw [hd.len, hl]; exact hn) (by decide : 40000 ≤ sizeLine), G4, vs ++ [y], ys ++ [d], W.chg (W.trans r r4) sb hD g4 h4, g1.trans (W.g r4), (env.mono r4).other (env0.fresh hD), g4, upd_same, (dmonoAll (W.g r4) _ _ hd).app (.one hy), by rw [List.length_append, hl]; rfl, fun m z hz => ?_⟩
  by_cases hm : m < ys.length
  · rw [List.getElem?_append_left hm] at hz
    exact hp m z hz
  · rw [List.getElem?_append_right (by omega)] at hz
    have e : m = n := by
      by_cases q : m - ys.length = 0
      · omega
      · rw [List.getElem?_eq_none (by simp; omega)] at hz
        cases hz
    subst e
    rw [hl, Nat.sub_self] at hz
    cases hz
    exact py
theorem lc_end {n : Nat} {H' : Hp} {Q : VK} (hD : H D = none) (sb : W.stb D) (hp : ∀ ys : List PyData, ys.length = n → (∀ m y, ys[m]? = some y → Pe m y) → P (.list ys)) (q : ∀ v d G2 H2, W.R G H G2 H2 → Dd G2 v d → P d → Q v H2) (h : LcI W G H ds σ G1 D Pe n H') : Q (.ref D) H' := by
  obtain ⟨G', vs, ys, r, g1, env, gD, hv, hd, hl, hpe⟩ := h.ex
  exact q _ _ _ _ (W.frz r sb hD gD hv) (.lst upd_same (dmonoAll (same_upd gD) _ _ hd)) (hp ys hl hpe)
/-- the element's reading in every block -/
def uEB (X : Cx) (scope : Scope) (elt : Expr) : TE := fun σ H Q => ∀ (s : Shared) (H' : Hp) (C : Addr) (cl : List (Str × Addr)) (fp : List Addr), uE (X.blk s H' scope (compEnvC scope cl C X.env) fp) elt σ H Q
theorem pe_uEB {scope : Scope} (s : Shared) (H' : Hp) (C : Addr) (cl : List (Str × Addr)) (fp : List Addr) : PE (X.blk s H' scope (compEnvC scope cl C X.env) fp) elt (uEB X scope elt) := ⟨fun pins s1 σ H Q I h => pe_u.run pins s1 σ H Q I (h s H' C cl fp)⟩
theorem wipe_set (σ : L2.St) (v : Nat) (x : V) : (wipe σ [v]).set v (some x) = σ.set v (some x) := by
  show (σ.set v none).set v (some x) = _
  rw [List.set_set]
theorem wipe_back (σ : L2.St) (v : Nat) (x : V) : wipe (σ.set v (some x)) [v] = wipe σ [v] := by
  show (σ.set v (some x)).set v none = σ.set v none
  rw [List.set_set]
theorem em_lcT (v : Nat) {x : Str} {scope : Scope} {as : List PyData} (ha : Em X W ds a (· = .tuple as))
    (he : ∀ (s : Shared) (H : Hp) (C : Addr) (cl : List (Str × Addr)) (fp : List Addr) (n : Nat) (d : PyData), as[n]? = some d → Em (X.blk s H scope (compEnvC scope cl C X.env) fp) W (ds.set v (.dat d)) elt (Pe n))
    (hp : ∀ ys : List PyData, ys.length = as.length → (∀ n y, ys[n]? = some y → Pe n y) → P (.list ys)) (hz : as.length ≤ 40000) (hc : X.calm = true) (hN : X.N.Nodup) (ok : BlkOk X.N X.env.scope scope [(x, v)])
    (hg : ∀ (s : Shared) (H : Hp) (C : Addr) (cl : List (Str × Addr)) (fp : List Addr), PG (X.blk s H scope (compEnvC scope cl C X.env) fp) (.Name x p2) (gName v)) (hs : ∀ x, foldedSetIterable a X.env x = pure x := by intro _; rfl) :
    Em X W ds (.ListComp elt [⟨.Name x p2, a, [], 0⟩] scope pos) P :=
  em_of (pe_lc hc hN (pi_tup pe_u) ok hg (fun _ _ _ _ _ => pts_nil) pe_uEB hs) fun σ G H okW env Q q => ha σ G H okW env _ fun u d G1 H1 r1 hu e => by
    subst e
    cases hu with
    | @tup ad _ us _ hq hus =>
      refine ⟨ad, rfl, ⟨us, .inl (rdt (W.sub (W.oks r1) _ _ hq))⟩, fun D hD => lc_tup (K := X.K) (xs := us) (LcI W G H ds σ G1 D Pe) (lc_start r1 env hD) (fun i H' _ h => ?_) (fun i y H' hi h => ?_) fun H' h => ?_⟩
      · obtain ⟨G', vs, ys, r, g1, env, gD, hv, hd, hl, hpe⟩ := h.ex
        exact .inl (rdt (W.sub (W.oks r) _ _ (g1 _ _ hq)))
      · show wipe ((wipe σ [v]).set v (some y)) [v] = wipe σ [v] ∧ _
        rw [wipe_set]
        obtain ⟨G', vs, ys, r, g1, env', gD, hv, hd, hl, hpe⟩ := h.ex
        obtain ⟨dd, e1, e2⟩ := hus.atV hi
        have hlt : i < us.length := (List.getElem?_eq_some_iff.mp hi).1
        refine ⟨wipe_back σ v y, fun s0 H0 C cl fp => ?_⟩
        show uE _ elt ((wipe σ [v]).set v (some y)) H' _
        rw [wipe_set]
        exact he s0 H0 C cl fp i dd e1 _ G' H' (W.oks r) (env'.set v (.dat (dmono g1 _ _ e2))) _ fun y d G4 H4 r4 hy py => lc_turn (W.fresh r1 hD) (W.new (W.oks r1) hD) env r g1 env' gD hv hd hl hpe (by rw [hus.len] at hlt; omega) r4 hy py
      · exact lc_end (W.fresh r1 hD) (W.new (W.oks r1) hD) (fun ys hl => hp ys (by rw [hl, hus.len])) q h
theorem em_lcL (v : Nat) {x : Str} {scope : Scope} {as : List PyData} (ha : Em X W ds a (· = .list as))
    (he : ∀ (s : Shared) (H : Hp) (C : Addr) (cl : List (Str × Addr)) (fp : List Addr) (n : Nat) (d : PyData), as[n]? = some d → Em (X.blk s H scope (compEnvC scope cl C X.env) fp) W (ds.set v (.dat d)) elt (Pe n))
    (hp : ∀ ys : List PyData, ys.length = as.length → (∀ n y, ys[n]? = some y → Pe n y) → P (.list ys)) (hz : as.length ≤ 40000) (hc : X.calm = true) (hN : X.N.Nodup) (ok : BlkOk X.N X.env.scope scope [(x, v)])
    (hg : ∀ (s : Shared) (H : Hp) (C : Addr) (cl : List (Str × Addr)) (fp : List Addr), PG (X.blk s H scope (compEnvC scope cl C X.env) fp) (.Name x p2) (gName v)) (hs : ∀ x, foldedSetIterable a X.env x = pure x := by intro _; rfl) :
    Em X W ds (.ListComp elt [⟨.Name x p2, a, [], 0⟩] scope pos) P :=
  em_of (pe_lc hc hN (pi_list pe_u) ok hg (fun _ _ _ _ _ => pts_nil) pe_uEB hs) fun σ G H okW env Q q => ha σ G H okW env _ fun u d G1 H1 r1 hu e => by
    subst e
    cases hu with
    | @lst ad us _ hq hus =>
      refine ⟨ad, rfl, ⟨us, .inl (.inl (W.sub (W.oks r1) _ _ hq))⟩, fun D hD => lc_list (K := X.K) (xs := us) (LcI W G H ds σ G1 D Pe) (lc_start r1 env hD) (fun i H' _ h => ?_) (fun i y H' hi h => ?_) fun H' h => ?_⟩
      · obtain ⟨G', vs, ys, r, g1, env, gD, hv, hd, hl, hpe⟩ := h.ex
        exact .inl (.inl (W.sub (W.oks r) _ _ (g1 _ _ hq)))
      · show wipe ((wipe σ [v]).set v (some y)) [v] = wipe σ [v] ∧ _
        rw [wipe_set]
        obtain ⟨G', vs, ys, r, g1, env', gD, hv, hd, hl, hpe⟩ := h.ex
        obtain ⟨dd, e1, e2⟩ := hus.atV hi
        have hlt : i < us.length := (List.getElem?_eq_some_iff.mp hi).1
        refine ⟨wipe_back σ v y, fun s0 H0 C cl fp => ?_⟩
        show uE _ elt ((wipe σ [v]).set v (some y)) H' _
        rw [wipe_set]
        exact he s0 H0 C cl fp i dd e1 _ G' H' (W.oks r) (env'.set v (.dat (dmono g1 _ _ e2))) _ fun y d G4 H4 r4 hy py => lc_turn (W.fresh r1 hD) (W.new (W.oks r1) hD) env r g1 env' gD hv hd hl hpe (by rw [hus.len] at hlt; omega) r4 hy py
      · exact lc_end (W.fresh r1 hD) (W.new (W.oks r1) hD) (fun ys hl => hp ys (by rw [hl, hus.len])) q h
theorem em_lcR (v : Nat) {x : Str} {scope : Scope} {Pz : Int → Prop} (ha : Em X W ds a (fun d => ∃ z, d = .int z ∧ Pz z)) (hz : ∀ z, Pz z → 0 ≤ z ∧ z ≤ 40000)
    (he : ∀ (s : Shared) (H : Hp) (C : Addr) (cl : List (Str × Addr)) (fp : List Addr) (z : Int) (n : Nat), Pz z → n < z.toNat → Em (X.blk s H scope (compEnvC scope cl C X.env) fp) W (ds.set v (.dat (.int n))) elt (Pe n))
    (hp : ∀ (z : Int) (ys : List PyData), Pz z → ys.length = z.toNat → (∀ n y, ys[n]? = some y → Pe n y) → P (.list ys)) (hc : X.calm = true) (hN : X.N.Nodup) (ok : BlkOk X.N X.env.scope scope [(x, v)])
    (hg : ∀ (s : Shared) (H : Hp) (C : Addr) (cl : List (Str × Addr)) (fp : List Addr), PG (X.blk s H scope (compEnvC scope cl C X.env) fp) (.Name x p2) (gName v)) (hm : X.mg "range" = none)
    (hgl : Gl X "range" := by rfl) (hs1 : starEach [a] X.env = [(false, eval a X.env)] := by rfl) (hs2 : starEach [a] X.env = (false, eval a X.env) :: starEach [] X.env := by rfl) (hs : ∀ x, foldedSetIterable (.Call (.Name "range" p3) [a] [] p4) X.env x = pure x := by intro _; rfl) :
    Em X W ds (.ListComp elt [⟨.Name x p2, .Call (.Name "range" p3) [a] [] p4, [], 0⟩] scope pos) P :=
  em_of (pe_lc hc hN (pi_range1 hgl hm (pa_cons pe_u pa_nil hs2) hs1) ok hg (fun _ _ _ _ _ => pts_nil) pe_uEB hs) fun σ G H okW env Q q => ha σ G H okW env _ fun u d G1 H1 r1 hu ⟨z, e, hPz⟩ => by
    subst e
    cases hu
    have hzz := hz z hPz
    refine ⟨z, rfl, by omega, by omega, fun D hD => lc_range (LcI W G H ds σ G1 D Pe) (lc_start r1 env hD) (fun i H' hi h => ?_) fun H' h => ?_⟩
    · have e0 : (0 : Int) + (i : Int) = (i : Int) := Int.zero_add _
      show wipe ((wipe σ [v]).set v (some (.int ((0 : Int) + (i : Int))))) [v] = wipe σ [v] ∧ _
      rw [wipe_set, e0]
      obtain ⟨G', vs, ys, r, g1, env', gD, hv, hd, hl, hpe⟩ := h.ex
      refine ⟨wipe_back σ v _, fun s0 H0 C cl fp => ?_⟩
      show uE _ elt ((wipe σ [v]).set v (some (.int (i : Int)))) H' _
      rw [wipe_set]
      exact he s0 H0 C cl fp z i hPz hi _ G' H' (W.oks r) (env'.set v (.dat (.int _))) _ fun y d G4 H4 r4 hy py => lc_turn (W.fresh r1 hD) (W.new (W.oks r1) hD) env r g1 env' gD hv hd hl hpe (by omega) r4 hy py
    · exact lc_end (W.fresh r1 hD) (W.new (W.oks r1) hD) (fun ys hl => hp z ys hPz hl) q h
end
end Dn
namespace Dn
open PySem PySem.Spec PyProof.Rows L2
/-! ## bags -/
theorem EnvOk.otherB {b : Addr} {G H : Hp} {ds : List Sl} {σ : L2.St} {o : HO} (h : EnvOk (bw b) G H ds σ) : EnvOk (bw b) G (upd H b o) ds σ := by
  refine ⟨h.1, fun i s x p q => ?_⟩
  have z := h.2 i s x p q
  cases s with
  | un => trivial
  | dat d => exact z
  | raw v => exact z
  | scr K a ns => exact z
  | fz d => exact z
  | own a' xs =>
    obtain ⟨e1, g, st, us, hu, hd⟩ := z
    exact ⟨e1, g, st, us, by rw [upd_ne (show a' ≠ b from st)]; exact hu, hd⟩
section
variable {X : Cx} {W : Wr} {bg : Addr} {G0 H0 : Hp} {ds : List Sl} {e a c : Expr} {es : List Expr} {pos p2 p3 p4 p5 : Pos} {P : PyData → Prop} {d : PyData} {i j : Nat} {N B C : NX} {r : RT} {rest body orelse : List Stmt} {st : Stmt}
def isDraws (d : PyData) : Prop := ∃ ns : List Int, d = .list (ns.map .int) ∧ ns.length = 400
theorem em_bag0 (n : Nat) {x : Str} {k : Nat} (hn : ds[n]? = some (.raw (.ref bg))) (hN : X.N[n]? = some x := by rfl) (hv : Vis X.env.scope x := by first | exact Or.inl rfl | exact Or.inr (Or.inl rfl) | exact Or.inr (Or.inr rfl)) (hd : (x == ("__debug__" : Str)) = false := by decide) (hcd : (x == ("__classdict__" : Str)) = false := by decide)
    (hs : PlainIx (.Constant (.int 0) k p3) := by exact fun _ _ => rfl) : Em X (bw bg) ds (.Subscript (.Name x p2) (.Constant (.int 0) k p3) pos) isDraws := em_of (pe_ix ix_list (pv n hN hv hd hcd) pe_int hs) fun σ G H ok env Q q => by
  obtain ⟨z, e1, e2⟩ := env.at hn
  obtain ⟨sm, gb, l, k, ns, hb, hl, h4⟩ := id ok
  exact ⟨.ref bg, by rw [e1, show z = some (V.ref bg) from e2], bg, [.ref l, .int k], 0, .ref l, rfl, rfl, .inl (.inl hb), rfl, q _ _ G H ((bw bg).refl ok) (.lst hl (Ds.ints ns)) ⟨ns, rfl, h4⟩⟩
theorem em_bag1 (n : Nat) {x : Str} {k : Nat} (hn : ds[n]? = some (.raw (.ref bg))) (hN : X.N[n]? = some x := by rfl) (hv : Vis X.env.scope x := by first | exact Or.inl rfl | exact Or.inr (Or.inl rfl) | exact Or.inr (Or.inr rfl)) (hd : (x == ("__debug__" : Str)) = false := by decide) (hcd : (x == ("__classdict__" : Str)) = false := by decide)
    (hs : PlainIx (.Constant (.int 1) k p3) := by exact fun _ _ => rfl) : Em X (bw bg) ds (.Subscript (.Name x p2) (.Constant (.int 1) k p3) pos) (fun d => ∃ k, d = .int k) := em_of (pe_ix ix_list (pv n hN hv hd hcd) pe_int hs) fun σ G H ok env Q q => by
  obtain ⟨z, e1, e2⟩ := env.at hn
  obtain ⟨sm, gb, l, k, ns, hb, hl, h4⟩ := id ok
  exact ⟨.ref bg, by rw [e1, show z = some (V.ref bg) from e2], bg, [.ref l, .int k], 1, .int k, rfl, rfl, .inl (.inl hb), rfl, q _ _ G H ((bw bg).refl ok) (.int k) ⟨k, rfl⟩⟩
/-- bag[1] = e -/
theorem bm_bag1 (n : Nat) (hn : ds[n]? = some (.raw (.ref bg))) (he : Em X (bw bg) ds e (fun d => ∃ k, d = .int k)) (k : Bm X (bw bg) G0 H0 ds rest N B C r) (ht : PS X st (tAsg (uE X e) (gSub (tVar n) (tC (.int 1)) rSetL))) : Bm X (bw bg) G0 H0 ds (st :: rest) N B C r :=
  bm_st (N1 := fun ds' => ds' = ds) ht (fun Gb σ G H D s env n' b c q => he σ G H s.ok env _ fun v d G2 H2 r2 hd p => by
    obtain ⟨z, e1, e2⟩ := env.at hn
    obtain ⟨k, rfl⟩ := p
    cases hd
    have s2 := s.to r2
    obtain ⟨sm, gb, l, k', ns, hb, hl, h4⟩ := s2.ok
    refine ⟨.ref bg, by rw [e1, show z = some (V.ref bg) from e2], bg, [.ref l, .int k'], 1, 1, rfl, rfl, hb, rfl, ?_⟩
    have R := s2.r
    exact n' ds σ G2 _ ⟨s2.b, ⟨R.g, ⟨same_upd2 sm gb, gb, l, k, ns, upd_same, hl, h4⟩, fun a o ha h => by
      rw [upd_ne ha]
      exact R.h a o ha h, R.k⟩⟩ (env.mono r2).otherB rfl) fun ds' e => by
    rw [e]
    exact k
/-! ## the script -/
theorem em_slen (n : Nat) {x : Str} {ad : Addr} {ns : List Int} (hn : ds[n]? = some (.scr X.K ad ns)) (hm : X.mg "len" = none) (hN : X.N[n]? = some x := by rfl) (hv : Vis X.env.scope x := by first | exact Or.inl rfl | exact Or.inr (Or.inl rfl) | exact Or.inr (Or.inr rfl)) (hd : (x == ("__debug__" : Str)) = false := by decide) (hcd : (x == ("__classdict__" : Str)) = false := by decide)
    (hg : Gl X "len" := by rfl) (hs : starEach [.Name x p3] X.env = (false, eval (.Name x p3) X.env) :: starEach [] X.env := by rfl) (hpl : (backTo pos (starEach [] X.env)).any (·.1) = false := by rfl) : Em X W ds (.Call (.Name "len" p2) [.Name x p3] [] pos) (· = .int ns.length) :=
  em_of (pe_callB call_len_seq hg hm PySem.boot_len (pa_cons (pv n hN hv hd hcd) pa_nil hs) (he := hs) (hpl := hpl)) fun σ G H ok env Q q => by
    obtain ⟨z, e1, e2, e3⟩ := env.at hn
    exact ⟨.ref ad, by rw [e1, e2], ad, _, rfl, .inl ((W.sub ok).seq e3), q _ _ G H (W.refl ok) (.int _) (by rw [List.length_map])⟩
theorem em_six (n : Nat) {x : Str} {ad : Addr} {ns : List Int} {i : Nat} {z : Int} (hn : ds[n]? = some (.scr X.K ad ns)) (ha : Em X W ds a (· = .int i)) (hz : ns[i]? = some z) (hN : X.N[n]? = some x := by rfl) (hv : Vis X.env.scope x := by first | exact Or.inl rfl | exact Or.inr (Or.inl rfl) | exact Or.inr (Or.inr rfl)) (hd : (x == ("__debug__" : Str)) = false := by decide) (hcd : (x == ("__classdict__" : Str)) = false := by decide)
    (hs : PlainIx a := by exact fun _ _ => rfl) : Em X W ds (.Subscript (.Name x p2) a pos) (· = .int z) := em_of (pe_ix ix_list (pv n hN hv hd hcd) pe_u hs) fun σ G H ok env Q q => by
  obtain ⟨y, e1, e2, e3⟩ := env.at hn
  refine ⟨.ref ad, by rw [e1, e2], ha σ G H ok env _ fun v d G2 H2 r2 hd e => ?_⟩
  subst e
  cases hd
  exact ⟨ad, ns.map V.int, i, .int z, rfl, rfl, ((W.g r2).trans (W.sub (W.oks r2))).seq e3, atI_nat (by rw [List.getElem?_map, hz]; rfl), q _ _ G2 H2 r2 (.int z) rfl⟩
end
/-- of the script and data, to data; to a new list -/
def spS (K : PySem.W.Frag) (pre : List Int → List PyData → Prop) (post : List Int → List PyData → PyData → Prop) : Sp := fun vs H Q _ => ∃ a us G ns as, vs = .ref a :: us ∧ Same G H ∧ SqL K G a (ns.map V.int) ∧ Ds G us as ∧ pre ns as ∧ ∀ v d G' H', Stp G H G' H' → Dd G' v d → post ns as d → Q v H'
def spSL (K : PySem.W.Frag) (pre : List Int → List PyData → Prop) (post : List Int → List PyData → List PyData → Prop) : Sp := fun vs H Q _ => ∃ a us G ns as, vs = .ref a :: us ∧ Same G H ∧ SqL K G a (ns.map V.int) ∧ Ds G us as ∧ pre ns as ∧ ∀ p us' xs G' H', Stp G H G' H' → H p = none → G' p = none → H' p = some (.lst us') → Ds G' us' xs → post ns as xs → Q (.ref p) H'
section
variable {X : Cx} {W : Wr} {G0 H0 : Hp} {ds : List Sl} {es : List Expr} {pos p2 p3 p4 p5 : Pos} {P : PyData → Prop} {N B C : NX} {r : RT} {rest body : List Stmt}
theorem em_callS {x y : Str} {k n : Nat} {ps : List Str} {ad : Addr} {ns : List Int} {pre : List Int → List PyData → Prop} {post : List Int → List PyData → PyData → Prop} {Pa : List PyData → Prop} (F : Fk X.prog X.w X.K X.mg X.base x k ps (spS X.K pre post)) (hr : Room k X.A) (hn : ds[n]? = some (.scr X.K ad ns)) (ha : Am X W ds es Pa) (hp : ∀ as, Pa as → pre ns as ∧ ∀ d, post ns as d → P d) (hg : Gl X x := by rfl)
    (hN : X.N[n]? = some y := by rfl) (hv : Vis X.env.scope y := by first | exact Or.inl rfl | exact Or.inr (Or.inl rfl) | exact Or.inr (Or.inr rfl)) (hd : (y == ("__debug__" : Str)) = false := by decide) (hcd : (y == ("__classdict__" : Str)) = false := by decide)
    (hdb : (x == ("__debug__" : Str)) = false := by decide) (he : starEach (.Name y p3 :: es) X.env = (false, eval (.Name y p3) X.env) :: starEach es X.env := by rfl) (hpl : (backTo pos (starEach es X.env)).any (·.1) = false := by rfl) : Em X W ds (.Call (.Name x p2) (.Name y p3 :: es) [] pos) P := by
  obtain ⟨f, fd, G, hm, hk, hb⟩ := F.ex
  refine em_of (pe_call G hr hg hm hk hb .nil pass0 (pa_cons (pv n hN hv hd hcd) pa_u he) hdb he hpl) fun σ G0 H0 ok env Q q => ?_
  obtain ⟨z, e1, e2, e3⟩ := env.at hn
  refine ⟨.ref ad, by rw [e1, e2], ha σ G0 H0 ok env _ fun vs as G1 H1 r1 hs p => ?_⟩
  obtain ⟨p1, p2⟩ := hp as p
  rw [List.append_nil]
  exact ⟨ad, vs, G1, ns, as, rfl, W.sub (W.oks r1), (W.g r1).seq e3, hs, p1, fun v d G2 H2 st hd hpo => q v d G2 H2 (W.trans r1 (W.step (W.oks r1) st)) hd (p2 d hpo)⟩
theorem bm_retNew {Pa Pl : List PyData → Prop} (ha : Am X W ds es Pa) (hp : ∀ as, Pa as → as.length ≤ 1000 ∧ Pl as) : Bm X W G0 H0 ds (.Return (some (.List es p2)) pos :: rest) N B C (rL H0 Pl) :=
  bm_of (pss_cons (ps_ret (pe_lst pa_u)) pss_never) fun Gb σ G H D s env n b c q => ha σ G H s.ok env _ fun vs as G1 H1 r1 hs p => by
    obtain ⟨h1, h2⟩ := hp as p
    refine ⟨Nat.le_of_lt (small1000 (by rw [hs.len]; exact h1)), fun a ha => ?_⟩
    have s1 := s.to r1
    have g : G1 a = none := (W.sub s1.ok).free ha
    have st : Stp G1 H1 G1 (upd H1 a (.lst vs)) := ⟨.refl _, same_upd2 (W.sub s1.ok) g, same_upd ha, fun _ _ h => h⟩
    exact q _ G1 _ (s1.to (W.step s1.ok st)).r ⟨a, vs, as, rfl, s1.fresh ha, g, upd_same, hs, h2⟩
end
section
variable {P : Program} {w : World} {K : PySem.W.Frag} {mg : Str → Option Value} {base : Heap} {x qual : Str} {params : Arguments} {body : List Stmt} {scope : Scope} {f : Addr} {fd : FuncData} {N ps : List Str} {k : Nat}
def slS (N : List Str) (K : PySem.W.Frag) (b : Addr) (ns : List Int) (as : List PyData) : List Sl := .scr K b ns :: (as.map Sl.dat ++ List.replicate (N.length - (as.length + 1)) .un)
theorem envS {W : Wr} {G H : Hp} {b : Addr} {ns : List Int} {vs : List V} {as : List PyData} (hb : SqL K G b (ns.map V.int)) (h : Ds G vs as) : EnvOk W G H (slS N K b ns as) (L2.start N (.ref b :: vs)) := by
  have z := env1 (N := N) (W := W) (H := H) (b := b) h
  refine ⟨z.1, fun i s y a c => ?_⟩
  cases i with
  | zero =>
    cases a
    cases c
    exact ⟨rfl, hb⟩
  | succ i => exact z.2 (i + 1) s y a c
theorem fn_S {pre : List Int → List PyData → Prop} {post : List Int → List PyData → PyData → Prop} (F : FunD K x qual params body scope [] [] f fd) (S : FnScope N ps scope) (hl : ∀ ns as, pre ns as → as.length + 1 = ps.length)
    (hb : ∀ (cdv : Value) (A : Around) (outer : List Env) (s : Shared) (H : Hp) (E : XK) (G : Hp) (b : Addr) (ns : List Int) (as : List PyData), Room k (A.deeper (envOfC qual scope s.heap.objs.size f cdv)) → pre ns as →
      Bm (Cx0 P w K mg base N qual scope f cdv A outer s H E) pw G H (slS N K b ns as) body (fun _ => post ns as .none) nono nono (rD (post ns as))) : FnOk P w K mg base CX0 (k + 1) f fd ps (spS K pre post) := by
  refine F.ok S (fun vs H Q E ⟨b, us, G, ns, as, e, ok, hb, hd, p, _⟩ => by rw [e, List.length_cons, hd.len]; exact hl ns as p) fun cdv A outer s H vs Q E hr ⟨b, us, G, ns, as, e, ok, hS, hd, p, q⟩ => ?_
  rw [e]
  obtain ⟨t, ht, h⟩ := hb cdv A outer s H E G b ns as hr p G (L2.start N (.ref b :: us)) G H { nx := fun _ H' => Q .non H', rt := Q } ⟨.refl _, .refl ok⟩ (envS hS hd) (fun ds' σ' G2 H2 s2 _ p2 => q .non .none G2 H2 s2.r .non p2) (fun _ _ _ _ _ _ z => z.elim) (fun _ _ _ _ _ _ z => z.elim) fun v G2 H2 s2 ⟨d, hd2, p2⟩ => q v d G2 H2 s2 hd2 p2
  exact ⟨t, ht.nox, h⟩
theorem fn_SL {pre : List Int → List PyData → Prop} {post : List Int → List PyData → List PyData → Prop} (F : FunD K x qual params body scope [] [] f fd) (S : FnScope N ps scope) (hl : ∀ ns as, pre ns as → as.length + 1 = ps.length)
    (hb : ∀ (cdv : Value) (A : Around) (outer : List Env) (s : Shared) (H : Hp) (E : XK) (G : Hp) (b : Addr) (ns : List Int) (as : List PyData), Room k (A.deeper (envOfC qual scope s.heap.objs.size f cdv)) → pre ns as →
      Bm (Cx0 P w K mg base N qual scope f cdv A outer s H E) pw G H (slS N K b ns as) body nono nono nono (rL H (post ns as))) : FnOk P w K mg base CX0 (k + 1) f fd ps (spSL K pre post) := by
  refine F.ok S (fun vs H Q E ⟨b, us, G, ns, as, e, ok, hb, hd, p, _⟩ => by rw [e, List.length_cons, hd.len]; exact hl ns as p) fun cdv A outer s H vs Q E hr ⟨b, us, G, ns, as, e, ok, hS, hd, p, q⟩ => ?_
  rw [e]
  obtain ⟨t, ht, h⟩ := hb cdv A outer s H E G b ns as hr p G (L2.start N (.ref b :: us)) G H { nx := fun _ H' => Q .non H', rt := Q } ⟨.refl _, .refl ok⟩ (envS hS hd) (fun _ _ _ _ _ _ z => z.elim) (fun _ _ _ _ _ _ z => z.elim) (fun _ _ _ _ _ _ z => z.elim) fun v G2 H2 s2 ⟨a, us, xs, e, h0, g2, h2, hd2, p2⟩ => by
    rw [e]
    exact q a us xs G2 H2 s2 h0 g2 h2 hd2 p2
  exact ⟨t, ht.nox, h⟩
end
/-! ## many bags -/
/-- what a bag holds -/
def BagAt (b : Addr) (G H : Hp) : Prop := G b = none ∧ ∃ (l : Addr) (k : Int) (ns : List Int), H b = some (.lst [.ref l, .int k]) ∧ G l = some (.lst (ns.map V.int)) ∧ ns.length = 400
def spBags (K : PySem.W.Frag) : Sp := fun vs H Q _ => ∃ (a : Addr) (G : Hp) (ns : List Int) (z : Int), vs = [.ref a, .int z] ∧ 1 ≤ z ∧ z ≤ 100 ∧ Same G H ∧ SqL K G a (ns.map V.int) ∧ ∀ L (bs : List Addr) G' H', Stp G H G' H' → G' L = some (.lst (bs.map V.ref)) → bs.Nodup → (∀ b ∈ bs, BagAt b G' H') → Q (.ref L) H'
/-- the world of a law: its bags may change -/
structure LwR (bs : List Addr) (G H G1 H1 : Hp) : Prop where
  g : Same G G1
  i : Same G1 H1
  o : ∀ b ∈ bs, H1 b ≠ none ∧ G1 b = none
  h : ∀ a o, a ∉ bs → H a = some o → H1 a = some o
  k : ∀ a, H a ≠ none → G a = none → G1 a = none
def lw (bs : List Addr) : Wr where
  ok := fun G H => Same G H ∧ ∀ b ∈ bs, H b ≠ none ∧ G b = none
  R := LwR bs
  stb := fun a => a ∉ bs
  refl := fun h => ⟨.refl _, h.1, h.2, fun _ _ _ q => q, fun _ _ q => q⟩
  trans := fun {G H G1 H1 G2 H2} a c => ⟨a.g.trans c.g, c.i, c.o, fun x o hx q => c.h x o hx (a.h x o hx q), fun x hx gx => c.k x (fun z => by
    by_cases hb : x ∈ bs
    · exact (a.o x hb).1 z
    · cases q : H x with
      | none => exact hx q
      | some o =>
        rw [a.h x o hb q] at z
        cases z) (a.k x hx gx)⟩
  step := fun o s => ⟨s.g, s.i, fun b hb => ⟨fun z => (o.2 b hb).1 (s.h.free z), s.k b (o.2 b hb).1 (o.2 b hb).2⟩, fun a o _ q => s.h a o q, s.k⟩
  oks := fun h => ⟨h.i, h.o⟩
  sub := fun h => h.1
  g := fun h => h.g
  own := fun s ha g h => ⟨s.h _ _ ha h, s.k _ (by rw [h]; exact fun z => nomatch z) g⟩
  fresh := fun {G H G1 H1 a} s h => by
    cases q : H a with
    | none => rfl
    | some o =>
      by_cases hb : a ∈ bs
      · exact absurd h (s.o a hb).1
      · rw [s.h a o hb q] at h
        cases h
  new := fun {G H a} o h z => (o.2 a z).1 h
  frz := fun {G H G1 H1 a o} s ha h0 g1 h1 => ⟨s.g.trans (same_upd g1), same_in s.i h1, fun b hb => ⟨(s.o b hb).1, by
    rw [upd_ne (fun z => ha (by rw [← z]; exact hb))]
    exact (s.o b hb).2⟩, s.h, fun x hx gx => by
      rw [upd_ne (fun z => hx (by rw [z]; exact h0))]
      exact s.k x hx gx⟩
  chg := fun {G H G1 H1 a o o'} s ha h0 g1 h1 => ⟨s.g, same_upd2 s.i g1, fun b hb => ⟨(by
    rw [upd_ne (fun z => ha (by rw [← z]; exact hb))]
    exact (s.o b hb).1), (s.o b hb).2⟩, fun x o hx q => by
      rw [upd_ne (fun z => by rw [z, h0] at q; cases q)]
      exact s.h x o hx q, s.k⟩
theorem BagR.lw {bs : List Addr} {b : Addr} {G H G1 H1 : Hp} (s : BagR b G H G1 H1) (hb : b ∈ bs) (o : ∀ c ∈ bs, H c ≠ none ∧ G c = none) : LwR bs G H G1 H1 :=
  ⟨s.g, s.ok.1, fun c hc => ⟨(fun z => by
    by_cases e : c = b
    · obtain ⟨_, _, l, k, ns, q, _⟩ := s.ok
      rw [e, q] at z
      cases z
    · cases q : H c with
      | none => exact (o c hc).1 q
      | some x =>
        rw [s.h c x e q] at z
        cases z), s.k c (o c hc).1 (o c hc).2⟩, fun a x ha q => s.h a x (fun z => ha (by rw [z]; exact hb)) q, s.k⟩
theorem BagAt.keep {b c : Addr} {G H G1 H1 : Hp} (s : BagR b G H G1 H1) (h : BagAt c G H) (e : c ≠ b) : BagAt c G1 H1 := by
  obtain ⟨g, l, k, ns, q, hl, h4⟩ := h
  exact ⟨s.k c (by rw [q]; exact fun z => nomatch z) g, l, k, ns, s.h c _ e q, s.g _ _ hl, h4⟩
section
variable {X : Cx} {pos p2 p3 p4 p5 p6 p7 : Pos}
/-- for bag in bags(script, n): body, then the rest, of a law that is to end by True -/
theorem law_loop {x sc bn : Str} {k m : Nat} {ps : List Str} {ad : Addr} {ns : List Int} {z : Int} {body rest : List Stmt} {G H : Hp} {σ : L2.St} {Q : VK} {kk : Nat} (F : Fk X.prog X.w X.K X.mg X.base x k ps (spBags X.K)) (hr : Room k X.A) (hz : 1 ≤ z ∧ z ≤ 100)
    (hlen : σ.length = m) (hm : 2 ≤ m) (h0 : σ[0]? = some (some (.ref ad))) (sm : Same G H) (hS : SqL X.K G ad (ns.map V.int)) (q : ∀ H', Q (.bl true) H')
    (hbody : ∀ (b : Addr) (G1 H1 : Hp), BagOk b G1 H1 → Bm X (bw b) G1 H1 (.scr X.K ad ns :: .raw (.ref b) :: List.replicate (m - 2) .un) body (fun ds' => ds'.length = m ∧ ds'[0]? = some (.scr X.K ad ns)) nono nono (rD (· = .bool true)))
    (hrest : ∀ (bs : List Addr) (G1 H1 : Hp), Bm X (lw bs) G1 H1 (.scr X.K ad ns :: List.replicate (m - 1) .un) rest nono nono nono (rD (· = .bool true)))
    (hp : PassesOwn (model X.prog X.w) X.A X.env X.xe) (hc : X.calm = true) (hN : X.N.Nodup) (hN0 : X.N[0]? = some sc := by rfl) (hi : X.N[1]? = some bn := by rfl) (hx : Loc X.env.scope bn := by first | exact Or.inl rfl | exact Or.inr rfl) (hf : X.fn bn = true ∨ X.env.scope.names.lookup bn = some .local := by first | exact .inl rfl | exact .inr rfl)
    (hv : Vis X.env.scope sc := by first | exact Or.inl rfl | exact Or.inr (Or.inl rfl) | exact Or.inr (Or.inr rfl)) (hd : (sc == ("__debug__" : Str)) = false := by decide) (hcd : (sc == ("__classdict__" : Str)) = false := by decide) (hg : Gl X x := by rfl)
    (hdb : (x == ("__debug__" : Str)) = false := by decide) (he1 : starEach [.Constant (.int z) kk p6] X.env = (false, eval (.Constant (.int z) kk p6) X.env) :: starEach [] X.env := by rfl) (he : starEach [.Name sc p5, .Constant (.int z) kk p6] X.env = (false, eval (.Name sc p5) X.env) :: starEach [.Constant (.int z) kk p6] X.env := by rfl)
    (hpl : (backTo p4 (starEach [.Constant (.int z) kk p6] X.env)).any (·.1) = false := by rfl) (hs : ∀ y, foldedSetIterable (.Call (.Name x p3) [.Name sc p5, .Constant (.int z) kk p6] [] p4) X.env y = pure y := by intro _; rfl) :
    ∃ t, PSs X (.For (.Name bn p2) (.Call (.Name x p3) [.Name sc p5, .Constant (.int z) kk p6] [] p4) body [] pos :: rest) t ∧ t { nx := fun _ H' => Q .non H', rt := Q } σ H := by
  obtain ⟨f, fd, Gf, hmf, hk, hb⟩ := F.ex
  refine ⟨_, pss_cons (ps_for hp hc (pi_list (pe_call Gf hr hg hmf hk hb .nil pass0 (pa_cons (pv 0 hN0 hv hd hcd) (pa_cons pe_int pa_nil he1) he) hdb he hpl)) (pg_name (i := 1) hN hi hx hf) pss_u hs) pss_u, ?_⟩
  refine ⟨.ref ad, h0, ?_⟩
  refine ⟨ad, G, ns, z, rfl, hz.1, hz.2, sm, hS, fun L bs G1 H1 st hL nd hbs => ?_⟩
  have o1 : ∀ b ∈ bs, H1 b ≠ none ∧ G1 b = none := fun b hb => by
    obtain ⟨g, l, k, ns, e, _⟩ := hbs b hb
    exact ⟨(by rw [e]; exact fun z => nomatch z), g⟩
  have fin : ∀ v G2 H2, (rD (· = .bool true)) v G2 H2 → Q v H2 := fun v G2 H2 ⟨d, hd, e⟩ => by
    subst e
    cases hd
    exact q H2
  refine ⟨L, rfl, ⟨_, .inl (.inl (st.i _ _ hL))⟩, for_list (K := X.K) (xs := bs.map V.ref) (fun n σ' H' => ∃ G', LwR bs G1 H1 G' H' ∧ σ'.length = m ∧ σ'[0]? = some (some (.ref ad)) ∧ ∀ j b, n ≤ j → bs[j]? = some b → BagAt b G' H') ⟨G1, (lw bs).refl ⟨st.i, o1⟩, hlen, h0, fun j b _ hj => hbs b (List.mem_of_getElem? hj)⟩ ?_ ?_ ?_⟩
  · rintro n σ' H' _ ⟨G', r, _⟩
    exact .inl (.inl (r.i _ _ (r.g _ _ hL)))
  · rintro n y σ' H' hn ⟨G', r, hl', h0', hbs'⟩
    rw [List.getElem?_map] at hn
    cases eb : bs[n]? with
    | none =>
      rw [eb] at hn
      cases hn
    | some b =>
      rw [eb] at hn
      cases hn
      have bo := hbs' n b (Nat.le_refl _) eb
      have bok : BagOk b G' H' := ⟨r.i, bo.1, bo.2⟩
      have hb : b ∈ bs := List.mem_of_getElem? eb
      have env : EnvOk (bw b) G' H' (.scr X.K ad ns :: .raw (.ref b) :: List.replicate (m - 2) .un) (σ'.set 1 (some (.ref b))) := by
        refine ⟨by rw [List.length_cons, List.length_cons, List.length_replicate, List.length_set, hl']; omega, fun i s y a c => ?_⟩
        match i with
        | 0 =>
          cases a
          rw [List.getElem?_set_ne (by decide), h0'] at c
          cases c
          exact ⟨rfl, (st.g.trans r.g).seq hS⟩
        | 1 =>
          cases a
          rw [List.getElem?_set_self (by omega)] at c
          cases c
          rfl
        | i + 2 =>
          rw [List.getElem?_cons_succ, List.getElem?_cons_succ, List.getElem?_replicate] at a
          split at a
          · cases a
            trivial
          · cases a
      have next : ∀ (ds' : List Sl) σ2 G2 H2, At (bw b) G' G' H' G2 H2 → EnvOk (bw b) G2 H2 ds' σ2 → ds'[0]? = some (.scr X.K ad ns) → σ2.length = m → ∃ G', LwR bs G1 H1 G' H2 ∧ σ2.length = m ∧ σ2[0]? = some (some (.ref ad)) ∧ ∀ j b, n + 1 ≤ j → bs[j]? = some b → BagAt b G' H2 := fun ds' σ2 G2 H2 s2 e2 hd l2 => by
        obtain ⟨y, e3, e4, _⟩ := e2.at hd
        refine ⟨G2, (lw bs).trans r (BagR.lw s2.r hb r.o), l2, by rw [e3, e4], fun j c hj hc => ?_⟩
        refine (hbs' j c (by omega) hc).keep s2.r fun z => ?_
        have e5 := nd
        rw [z] at hc
        obtain ⟨h1, q1⟩ := List.getElem?_eq_some_iff.mp hc
        obtain ⟨h2, q2⟩ := List.getElem?_eq_some_iff.mp eb
        have := (List.getElem_inj nd).mp (q1.trans q2.symm)
        omega
      exact hbody b G' H' bok G' _ G' H' _ ⟨.refl _, (bw b).refl bok⟩ env (fun ds2 σ2 G2 H2 s2 e2 p => next ds2 σ2 G2 H2 s2 e2 p.2 (e2.1.symm.trans p.1)) (fun _ _ _ _ _ _ z => z.elim) (fun _ _ _ _ _ _ z => z.elim) fun v G2 H2 _ h => fin v G2 H2 h
  · rintro σ' H' ⟨G', r, hl', h0', _⟩
    have env : EnvOk (lw bs) G' H' (.scr X.K ad ns :: List.replicate (m - 1) .un) σ' := by
      refine ⟨by rw [List.length_cons, List.length_replicate, hl']; omega, fun i s y a c => ?_⟩
      match i with
      | 0 =>
        cases a
        rw [h0'] at c
        cases c
        exact ⟨rfl, (st.g.trans r.g).seq hS⟩
      | i + 1 =>
        rw [List.getElem?_cons_succ, List.getElem?_replicate] at a
        split at a
        · cases a
          trivial
        · cases a
    exact hrest bs G' H' G' σ' G' H' _ ⟨.refl _, (lw bs).refl ⟨r.i, r.o⟩⟩ env (fun _ _ _ _ _ _ z => z.elim) (fun _ _ _ _ _ _ z => z.elim) (fun _ _ _ _ _ _ z => z.elim) fun v G2 H2 _ h => fin v G2 H2 h
end
end Dn
namespace Dn
open PySem PySem.Spec PyProof.Rows L2
section
variable {X : Cx} {W : Wr} {G0 H0 : Hp} {ds : List Sl} {e a b c : Expr} {es : List Expr} {pos p2 p3 p4 p5 p6 : Pos} {P : PyData → Prop} {d : PyData} {N B C : NX} {r : RT} {rest body : List Stmt}
/-! ### a list of one's own, read -/
theorem em_olen (n : Nat) {x : Str} {ad : Addr} {xs : List PyData} (hn : ds[n]? = some (.own ad xs)) (hm : X.mg "len" = none) (hN : X.N[n]? = some x := by rfl) (hv : Vis X.env.scope x := by first | exact Or.inl rfl | exact Or.inr (Or.inl rfl) | exact Or.inr (Or.inr rfl)) (hd : (x == ("__debug__" : Str)) = false := by decide) (hcd : (x == ("__classdict__" : Str)) = false := by decide)
    (hg : Gl X "len" := by rfl) (hs : starEach [.Name x p3] X.env = (false, eval (.Name x p3) X.env) :: starEach [] X.env := by rfl) (hpl : (backTo pos (starEach [] X.env)).any (·.1) = false := by rfl) : Em X W ds (.Call (.Name "len" p2) [.Name x p3] [] pos) (· = .int xs.length) :=
  em_of (pe_callB call_len_seq hg hm PySem.boot_len (pa_cons (pv n hN hv hd hcd) pa_nil hs) (he := hs) (hpl := hpl)) fun σ G H ok env Q q => by
    obtain ⟨z, e1, e2, g, sb, vs, hvs, hd⟩ := env.at hn
    exact ⟨.ref ad, by rw [e1, e2], ad, vs, rfl, .inl (.inl (.inl hvs)), q _ _ G H (W.refl ok) (.int _) (by rw [hd.len])⟩
theorem em_oix (n : Nat) {x : Str} {ad : Addr} {xs : List PyData} {i : Int} (hn : ds[n]? = some (.own ad xs)) (ha : Em X W ds a (· = .int i)) (hz : L2.atI xs i = some d) (hN : X.N[n]? = some x := by rfl) (hv : Vis X.env.scope x := by first | exact Or.inl rfl | exact Or.inr (Or.inl rfl) | exact Or.inr (Or.inr rfl)) (hd : (x == ("__debug__" : Str)) = false := by decide) (hcd : (x == ("__classdict__" : Str)) = false := by decide)
    (hs : PlainIx a := by exact fun _ _ => rfl) : Em X W ds (.Subscript (.Name x p2) a pos) (· = d) := em_of (pe_ix ix_list (pv n hN hv hd hcd) pe_u hs) fun σ G H ok env Q q => by
  obtain ⟨y, e1, e2, _⟩ := env.at hn
  refine ⟨.ref ad, by rw [e1, e2], ha σ G H ok env _ fun v d' G2 H2 r2 hd e => ?_⟩
  subst e
  cases hd
  obtain ⟨_, _, _, g, sb, vs, hvs, hd⟩ := (env.mono r2).at hn
  obtain ⟨v, hv, hdv⟩ := hd.atI hz
  exact ⟨ad, vs, i, v, rfl, rfl, .inl (.inl hvs), hv, q _ _ G2 H2 r2 hdv rfl⟩
theorem em_oisi (n : Nat) {T : String} {x y : Str} {z : Bool} {ad : Addr} {xs : List PyData} (hn : ds[n]? = some (.own ad xs)) (hm : X.mg "isinstance" = none) (hT : X.mg x = none) (hb : bootBuiltins x = some (.type T)) (hk : kitB "list" T = some z) (hN : X.N[n]? = some y := by rfl) (hv : Vis X.env.scope y := by first | exact Or.inl rfl | exact Or.inr (Or.inl rfl) | exact Or.inr (Or.inr rfl)) (hd : (y == ("__debug__" : Str)) = false := by decide) (hcd : (y == ("__classdict__" : Str)) = false := by decide)
    (hg : Gl X "isinstance" := by rfl) (hgT : Gl X x := by rfl) (hnn : x ≠ "__name__" := by decide) (hdx : (x == ("__debug__" : Str)) = false := by decide)
    (hs1 : starEach [.Name x p3] X.env = (false, eval (.Name x p3) X.env) :: starEach [] X.env := by rfl) (hs : starEach [.Name y p4, .Name x p3] X.env = (false, eval (.Name y p4) X.env) :: starEach [.Name x p3] X.env := by rfl) (hpl : (backTo pos (starEach [.Name x p3] X.env)).any (·.1) = false := by rfl) :
    Em X W ds (.Call (.Name "isinstance" p2) [.Name y p4, .Name x p3] [] pos) (· = .bool z) :=
  em_of (pe_callB call_isi hg hm (by decide +kernel) (pa_cons (pv n hN hv hd hcd) (pa_cons (pe_bltn (v := .ty T) hgT hT hb rfl hnn hdx) pa_nil hs1) hs) (he := hs) (hpl := hpl)) fun σ G H ok env Q q => by
    obtain ⟨y, e1, e2, g, sb, vs, hvs, _⟩ := env.at hn
    exact ⟨.ref ad, by rw [e1, e2], .ref ad, .ty T, _, _, z, rfl, .ty T, .base (.lst hvs), kit_ty hk, q _ _ G H (W.refl ok) (.bl _) rfl⟩
theorem em_oslice (n : Nat) {x : Str} {lo hi : Option Expr} {l h : Option Int} {ad : Addr} {xs : List PyData} (hn : ds[n]? = some (.own ad xs)) (hl : Om X W ds lo l) (hh : Om X W ds hi h) (hN : X.N[n]? = some x := by rfl) (hv : Vis X.env.scope x := by first | exact Or.inl rfl | exact Or.inr (Or.inl rfl) | exact Or.inr (Or.inr rfl)) (hd : (x == ("__debug__" : Str)) = false := by decide) (hcd : (x == ("__classdict__" : Str)) = false := by decide) :
    Em X W ds (.Subscript (.Name x p3) (.Slice lo hi none p2) pos) (· = .list (cutD xs l h)) := by
  obtain ⟨tl, pl, ml⟩ := hl
  obtain ⟨th, ph, mh⟩ := hh
  refine em_of (pe_slice sl_list (pv n hN hv hd hcd) pl ph) fun σ G H ok env Q q => ?_
  obtain ⟨y, e1, e2, _⟩ := env.at hn
  refine ⟨.ref ad, by rw [e1, e2], ml σ G H ok env _ fun G2 H2 r2 => mh σ G2 H2 (W.oks r2) (env.mono r2) _ fun G3 H3 r3 => ?_⟩
  obtain ⟨_, _, _, g, sb, vs, hvs, hd⟩ := ((env.mono r2).mono r3).at hn
  have R := W.trans r2 r3
  refine ⟨ad, vs, rfl, .inl (.inl hvs), fun p hp => ?_⟩
  have st := Stp.new (o := .lst (cutV vs l h)) (W.sub (W.oks r3)) hp
  exact q _ _ _ _ (W.trans R (W.step (W.oks r3) st)) (.lst upd_same (dmonoAll st.g _ _ (hd.cut l h))) rfl
/-! ### more -/
theorem em_tupleOf' {Pa : List PyData → Prop} (ha : Em X W ds a (fun d => ∃ as, d = .list as ∧ Pa as)) (hp : ∀ as, Pa as → P (.tuple as)) (hm : X.mg "tuple" = none) (hg : Gl X "tuple" := by rfl) (hs : starEach [a] X.env = (false, eval a X.env) :: starEach [] X.env := by rfl) (hpl : (backTo pos (starEach [] X.env)).any (·.1) = false := by rfl) : Em X W ds (.Call (.Name "tuple" p2) [a] [] pos) P :=
  em_of (pe_callTy call_tuple_of hg hm (by decide +kernel) (pa_cons pe_u pa_nil hs) (he := hs) (hpl := hpl)) fun σ G H ok env Q q => ha σ G H ok env _ fun v d G1 H1 r1 hd ⟨as, e, p⟩ => by
    subst e
    cases hd with
    | @lst _ us _ hh hs =>
      refine ⟨_, us, rfl, .inl ⟨.inl (.inl (W.sub (W.oks r1) _ _ hh)), fun p' hp' => ?_⟩⟩
      have st := Stp.new (o := .tup us) (W.sub (W.oks r1)) hp'
      exact q _ _ _ _ (W.trans r1 (W.step (W.oks r1) st)) (.tup (o := none) upd_same (dmonoAll st.g _ _ hs)) (hp as p)
theorem bm_tup3' (i j l : Nat) {x y z : Str} {n : Nat} (he : Em X W ds e P) (k : ∀ d, P d → ∃ u v t, d = .tuple [u, v, t] ∧ Bm X W G0 H0 (((ds.set i (.dat u)).set j (.dat v)).set l (.dat t)) rest N B C r) (hc : X.calm = true) (hN : X.N.Nodup) (hi : X.N[i]? = some x := by rfl) (hj : X.N[j]? = some y := by rfl) (hl : X.N[l]? = some z := by rfl) (hx : Loc X.env.scope x := by first | exact Or.inl rfl | exact Or.inr rfl) (hy : Loc X.env.scope y := by first | exact Or.inl rfl | exact Or.inr rfl) (hz : Loc X.env.scope z := by first | exact Or.inl rfl | exact Or.inr rfl)
    (hfx : X.fn x = true ∨ X.env.scope.names.lookup x = some .local := by first | exact .inl rfl | exact .inr rfl) (hfy : X.fn y = true ∨ X.env.scope.names.lookup y = some .local := by first | exact .inl rfl | exact .inr rfl) (hfz : X.fn z = true ∨ X.env.scope.names.lookup z = some .local := by first | exact .inl rfl | exact .inr rfl)
    (ht : PGs X [.Name x p2, .Name y p3, .Name z p4] (gCons (gName i) (gCons (gName j) (gCons (gName l) gNil))) → PS X (.Assign [.Tuple [.Name x p2, .Name y p3, .Name z p4] n p5] e pos) (tAsg (uE X e) (gTup X.K 3 (gCons (gName i) (gCons (gName j) (gCons (gName l) gNil))))))
    (hs1 : (assignEach [.Name x p2, .Name y p3, .Name z p4] X.env).map (·.2) = assign (.Name x p2) X.env :: (assignEach [.Name y p3, .Name z p4] X.env).map (·.2) := by rfl) (hs2 : (assignEach [.Name y p3, .Name z p4] X.env).map (·.2) = assign (.Name y p3) X.env :: (assignEach [.Name z p4] X.env).map (·.2) := by rfl) (hs3 : (assignEach [.Name z p4] X.env).map (·.2) = assign (.Name z p4) X.env :: (assignEach [] X.env).map (·.2) := by rfl) :
    Bm X W G0 H0 ds (.Assign [.Tuple [.Name x p2, .Name y p3, .Name z p4] n p5] e pos :: rest) N B C r :=
  bm_st (N1 := fun ds' => ∃ u v t, P (.tuple [u, v, t]) ∧ ds' = ((ds.set i (.dat u)).set j (.dat v)).set l (.dat t)) (ht (pgs_cons (pg_name hN hi hx hfx) (pgs_cons (pg_name hN hj hy hfy) (pgs_cons (pg_name hN hl hz hfz) pgs_nil hs3) hs2) hs1)) (fun Gb σ G H D s env n b c q => he σ G H s.ok env _ fun v d G2 H2 r2 hd p => by
    obtain ⟨u, w, t, rfl, _⟩ := k d p
    cases hd with
    | @tup ad _ us _ hq hd =>
      cases hd with
      | cons h1 hd => cases hd with
        | cons h2 hd => cases hd with
          | cons h3 hd => cases hd with
            | nil =>
              rename_i v1 v2 v3
              exact ⟨ad, [v1, v2, v3], rfl, .inl (rdt (W.sub (W.oks r2) _ _ hq)), rfl, v1, [v2, v3], rfl, v2, [v3], rfl, v3, [], rfl, rfl, n _ _ G2 H2 (s.to r2) ((((env.mono r2).set i (.dat h1)).set j (.dat h2)).set l (.dat h3)) ⟨u, w, t, p, rfl⟩⟩) fun ds' ⟨u, v, t, p, e⟩ => by
    obtain ⟨u', v', t', e2, h⟩ := k _ p
    injection e2 with e2
    injection e2 with e2 e3
    injection e3 with e3 e4
    injection e4 with e4 e5
    subst e2
    subst e3
    subst e4
    rw [e]
    exact h
end
end Dn
namespace Dn
open PySem PySem.Spec PyProof.Rows L2
/-! ### a tuple times a number -/
theorem tup_times1 (l : Addr) (items : Array Value) (n : Nat) (dd : Option Addr) (sl : Array (Option Value)) (u : Tok) :
    Meets (Builtin.«tuple.__mul__» ⟨[.ref l, .int 1 u], []⟩) (fun _ R s => s.heap.get? l = some { cls := .type "tuple", dict := dd, data := .seq items n, slots := sl } ∧ R (.ok (.ret (Value.ref l))) s) :=
  .of_wp fun prog w A R s h => by
    obtain ⟨hp, g, d, tk, os⟩ := s
    obtain ⟨hl, h⟩ := h
    have f1 := AutoSeq1.idx_int
    have c0 : (decide ((1 : Int) < -(2 ^ 63)) || decide ((1 : Int) ≥ 2 ^ 63)) = false := by decide
    have c1 : (items.isEmpty || (1 : Int) == 1) = true := by simp
    wp_walk using wpAny_loadPart' hl
    repeat (first
      | (refine wpAny_ite_false (decide_eq_false (by rw [c0]; exact Bool.false_ne_true)) ?_; wp_walk using wpAny_loadPart' hl)
      | (refine wpAny_ite_true (decide_eq_true (by rw [c1])) ?_; wp_walk using wpAny_loadPart' hl))
    exact ⟨_, rfl, h⟩
theorem tup_times0 (l : Addr) (items : Array Value) (n : Nat) (dd : Option Addr) (sl : Array (Option Value)) (u : Tok) (hi : items.isEmpty = false) :
    Meets (Builtin.«tuple.__mul__» ⟨[.ref l, .int 0 u], []⟩) (fun _ R s => s.heap.get? l = some { cls := .type "tuple", dict := dd, data := .seq items n, slots := sl } ∧
      R (.ok (.ret (Value.ref s.heap.objs.size))) { s with heap := s.heap.push { cls := Value.type "tuple", data := Data.seq #[] }, toks := s.toks }) :=
  .of_wp fun prog w A R s h => by
    obtain ⟨hp, g, d, tk, os⟩ := s
    obtain ⟨hl, h⟩ := h
    have f1 := AutoSeq1.idx_int
    have c0 : (decide ((0 : Int) < -(2 ^ 63)) || decide ((0 : Int) ≥ 2 ^ 63)) = false := by decide
    have c1 : (items.isEmpty || (0 : Int) == 1) = false := by simp [hi]
    have c2 : (decide ((0 : Int) ≤ 0) || items.isEmpty) = true := by simp
    wp_walk using wpAny_loadPart' hl
    repeat (first
      | (refine wpAny_ite_false (decide_eq_false (by rw [c0]; exact Bool.false_ne_true)) ?_; wp_walk using wpAny_loadPart' hl)
      | (refine wpAny_ite_false (decide_eq_false (by rw [c1]; exact Bool.false_ne_true)) ?_; wp_walk using wpAny_loadPart' hl)
      | (refine wpAny_ite_true (decide_eq_true (by rw [c2])) ?_; wp_walk using wpAny_loadPart' hl))
    exact ⟨_, rfl, h⟩
def rTimes (K : PySem.W.Frag) : R2 := fun x y H Q => ∃ l k xs, x = .ref l ∧ y = .int k ∧ SqT K H l xs ∧ xs ≠ [] ∧ 0 ≤ k ∧ k ≤ 1000 ∧ xs.length ≤ 1000 ∧ (k = 1 → Q (.ref l) H) ∧ (k ≠ 1 → ∀ p, H p = none → Q (.ref p) (upd H p (.tup (List.replicate k.toNat xs).flatten)))
section
variable {X : Cx} {W : Wr} {G0 H0 : Hp} {ds : List Sl} {e a b c : Expr} {es : List Expr} {pos p2 p3 p4 p5 p6 : Pos} {P : PyData → Prop} {d : PyData} {N B C : NX} {r : RT} {rest body : List Stmt}
theorem op_times : OpR X (binaryOp .Mult) (rTimes X.K) := by
  intro pins s σ H x y v u Q I rx ry h
  obtain ⟨l, k, xs, rfl, rfl, hT, hne, h0, h2, hz, q1, q2⟩ := h
  by_cases hk : 2 ≤ k
  · exact op_repT pins s σ H _ _ v u Q I rx ry ⟨l, k, xs, rfl, rfl, hT, hne, hk, h2, hz, q2 (by omega)⟩
  · cases rx
    obtain ⟨t, rfl⟩ := ry
    obtain ⟨its, r, ⟨⟨cls, dd, data, sl⟩, ho, hc, n, hd⟩, hs⟩ := I.tuple hT
    simp only at hc hd
    subst hc hd
    have hle : its.length = xs.length := r.length.symm
    have hn : its ≠ [] := fun e => hne (by
      rw [e] at hle
      exact List.eq_nil_of_length_eq_zero hle.symm)
    have hi : its.toArray.isEmpty = false := by
      cases its with
      | nil => exact absurd rfl hn
      | cons a b => rfl
    have hk2 : k = 0 ∨ k = 1 := by omega
    rcases hk2 with rfl | rfl
    · refine wpAny_binaryOp_repeat_ref (T := "tuple") (U := "int") (by decide) ⟨_, ho, rfl⟩ (fun s' => typeIs_int s' 0 t) noFill_tuple_mul F.fills_int_mul F.slot_int_rmul repeat_tuple F.slot_int_index.lookup
        (call_meets F.slot_int_rmul (typeIs_int s 0 t) F.entry_int_rmul (F.args_int_rmul_2 _ _) (int_rmul_tuple 0 t l its.toArray n dd sl)
          ⟨ho, rfl, ⟨_, ho, rfl⟩, call_meets F.slot_tuple_mul ⟨_, ho, rfl⟩ F.entry_tuple_mul (F.args_tuple_mul_2 _ _) (tup_times0 l its.toArray n dd sl t hi) ⟨ho, ?_⟩⟩)
      refine ⟨.ref s.heap.objs.size, _, I.laid (t' := s.toks) (o := .tup (List.replicate (0 : Int).toNat xs).flatten) (fun b ob q => Heap.get?_push_of_some _ q) (Nat.le_refl _) ?_, rfl, q2 (by decide) _ (I.hok.fresh (Nat.le_refl _))⟩
      exact ⟨Nat.zero_le _, [], .nil, IsTup.new _ _⟩
    · refine wpAny_binaryOp_repeat_ref (T := "tuple") (U := "int") (by decide) ⟨_, ho, rfl⟩ (fun s' => typeIs_int s' 1 t) noFill_tuple_mul F.fills_int_mul F.slot_int_rmul repeat_tuple F.slot_int_index.lookup
        (call_meets F.slot_int_rmul (typeIs_int s 1 t) F.entry_int_rmul (F.args_int_rmul_2 _ _) (int_rmul_tuple 1 t l its.toArray n dd sl)
          ⟨ho, rfl, ⟨_, ho, rfl⟩, call_meets F.slot_tuple_mul ⟨_, ho, rfl⟩ F.entry_tuple_mul (F.args_tuple_mul_2 _ _) (tup_times1 l its.toArray n dd sl t) ⟨ho, ?_⟩⟩)
      exact ⟨.ref l, H, I, rfl, q1 rfl⟩
theorem Ds.rep {G : Hp} {vs : List V} {as : List PyData} (h : Ds G vs as) : ∀ n : Nat, Ds G (List.replicate n vs).flatten (List.replicate n as).flatten
  | 0 => .nil
  | n + 1 => by
    rw [List.replicate_succ, List.replicate_succ, List.flatten_cons, List.flatten_cons]
    exact h.app (Ds.rep h n)
theorem em_times {as : List PyData} {k : Int} (h0 : 0 ≤ k) (h1 : k ≤ 1000) (hne : as ≠ []) (hl : as.length ≤ 1000) (ha : Em X W ds a (· = .tuple as)) (hb : Em X W ds b (· = .int k)) : Em X W ds (.BinOp a .Mult b pos) (· = .tuple (List.replicate k.toNat as).flatten) := em_of (pe_op op_times pe_u pe_u) (em_op2 ha hb fun G H u v dx dy ok hx hy px py Q q => by
  subst px
  subst py
  cases hy
  cases hx with
  | @tup _ _ us _ h1' d1 =>
    have hus : us ≠ [] := fun z => by
      subst z
      cases d1
      exact hne rfl
    refine ⟨_, k, us, rfl, rfl, .inl (rdt (W.sub ok _ _ h1')), hus, h0, h1, by rw [d1.len]; exact hl, fun e => ?_, fun _ p hp => ?_⟩
    · subst e
      refine q _ _ G H (W.refl ok) (.tup h1' d1) ?_
      simp
    · have st := Stp.new (o := .tup (List.replicate k.toNat us).flatten) (W.sub ok) hp
      exact q _ _ _ _ (W.step ok st) (.tup (o := none) upd_same (dmonoAll st.g _ _ (d1.rep _))) rfl)
/-! ### lists of one's own: made, frozen, extended -/
theorem bm_freeze (i : Nat) {ad : Addr} {xs : List PyData} {sts : List Stmt} (hi : ds[i]? = some (.own ad xs)) (h0 : H0 ad = none) (hn : ∀ (j : Nat) zs, ds[j]? = some (.own ad zs) → j = i) (k : Bm X W G0 H0 (ds.set i (.dat (.list xs))) sts N B C r) : Bm X W G0 H0 ds sts N B C r := fun Gb σ G H D s env n b c q => by
  obtain ⟨y, e1, e2, g, sb, vs, hvs, hd⟩ := env.at hi
  refine k Gb σ (upd G ad (.lst vs)) H D (s.frz sb h0 g hvs) ⟨by rw [List.length_set]; exact env.1, fun j t y' p q' => ?_⟩ n b c q
  by_cases e : i = j
  · subst e
    rw [List.getElem?_set_self', hi] at p
    cases p
    rw [e1] at q'
    cases q'
    rw [e2]
    exact .dat (.lst upd_same (dmonoAll (same_upd g) _ _ hd))
  · rw [List.getElem?_set_ne e] at p
    have z := env.2 j t y' p q'
    cases t with
    | un => trivial
    | dat d =>
      obtain ⟨v, e3, e4⟩ := z
      exact ⟨v, e3, dmono (same_upd g) _ _ e4⟩
    | raw v => exact z
    | scr K a ns => exact ⟨z.1, (same_upd g).seq z.2⟩
    | fz d =>
      obtain ⟨v, e3, e4, e5⟩ := z
      exact ⟨v, e3, dmono (same_upd g) _ _ e4, e5.mono (same_upd g)⟩
    | own a' zs =>
      obtain ⟨e3, g', st', us, hu, hd'⟩ := z
      have ne : a' ≠ ad := fun w => e (by rw [w] at p; exact (hn j zs p).symm)
      exact ⟨e3, by rw [upd_ne ne]; exact g', st', us, hu, dmonoAll (same_upd g) _ _ hd'⟩
theorem bm_setLst (i : Nat) {x : Str} {Pa : List PyData → Prop} (ha : Am X W ds es Pa) (hl : ∀ as, Pa as → as.length ≤ 1000) (k : ∀ a as, Pa as → H0 a = none → (∀ (j : Nat) a' xs, ds[j]? = some (.own a' xs) → a ≠ a') → W.stb a → Bm X W G0 H0 (ds.set i (.own a as)) rest N B C r) (hN : X.N.Nodup) (hi : X.N[i]? = some x := by rfl) (hx : Loc X.env.scope x := by first | exact Or.inl rfl | exact Or.inr rfl)
    (hs : swapsWith (.List es p3) (some (.Name x p2)) pos.line X.env = pure false := by rfl) (hf : X.fn x = true ∨ X.env.scope.names.lookup x = some .local := by first | exact .inl rfl | exact .inr rfl) : Bm X W G0 H0 ds (.Assign [.Name x p2] (.List es p3) pos :: rest) N B C r :=
  bm_st (N1 := fun ds' => ∃ a as, Pa as ∧ H0 a = none ∧ (∀ (j : Nat) a' xs, ds[j]? = some (.own a' xs) → a ≠ a') ∧ W.stb a ∧ ds' = ds.set i (.own a as)) (ps_set (i := i) hN hi hx (pe_lst pa_u) hs hf) (fun Gb σ G H D s env n b c q => ha σ G H s.ok env _ fun vs as G1 H1 r1 hs p => ⟨Nat.le_of_lt (small1000 (by rw [hs.len]; exact hl as p)), fun a ha => by
    have s1 := s.to r1
    have env1 := env.mono r1
    have g : G1 a = none := (W.sub s1.ok).free ha
    have st : Stp G1 H1 G1 (upd H1 a (.lst vs)) := ⟨.refl _, same_upd2 (W.sub s1.ok) g, same_upd ha, fun _ _ h => h⟩
    have r2 := W.step s1.ok st
    have sb := W.new s1.ok ha
    refine n _ _ G1 _ (s1.to r2) ((env1.mono r2).set i (.own g sb upd_same hs)) ⟨a, as, p, s1.fresh ha, fun j a' xs h z => ?_, sb, rfl⟩
    obtain ⟨_, _, _, _, _, us, hu, _⟩ := env1.at h
    rw [← z, ha] at hu
    cases hu⟩) fun ds' ⟨a, as, h0, h1, h2, h3, e⟩ => by
    rw [e]
    exact k a as h0 h1 h2 h3
/-- x.extend(f(..)), f makes a new list -/
theorem bm_extend (i : Nat) {x y : Str} {k : Nat} {ps : List Str} {ad : Addr} {xs : List PyData} {pre : List PyData → Prop} {post : List PyData → List PyData → Prop} {Pa : List PyData → Prop} (hi : ds[i]? = some (.own ad xs)) (F : Fk X.prog X.w X.K X.mg X.base y k ps (spL pre post)) (hr : Room k X.A) (ha : Am X W ds (e :: es) Pa) (hp : ∀ as, Pa as → pre as) (h0 : H0 ad = none)
    (hz : ∀ as zs, Pa as → post as zs → xs.length + zs.length ≤ 100000) (hn : ∀ (j : Nat) zs, ds[j]? = some (.own ad zs) → j = i) (kk : ∀ as zs, Pa as → post as zs → Bm X W G0 H0 (ds.set i (.own ad (xs ++ zs))) rest N B C r) (hg : Gl X y := by rfl) (hdb : (y == ("__debug__" : Str)) = false := by decide) (he : starEach (e :: es) X.env = (false, eval e X.env) :: starEach es X.env := by rfl) (hpl : (backTo p5 (starEach es X.env)).any (·.1) = false := by rfl)
    (ht : PE X (.Call (.Name y p4) (e :: es) [] p5) (tCall (spL pre post) [] E0 (uA X (e :: es))) → PS X (.Expr (.Call (.Attribute (.Name x p2) "extend" p3) [.Call (.Name y p4) (e :: es) [] p5] [] p6) pos) (tDrop (tBM X.K "list" rExtend (tVar i) (tCons (tCall (spL pre post) [] E0 (uA X (e :: es))) tNil)))) :
    Bm X W G0 H0 ds (.Expr (.Call (.Attribute (.Name x p2) "extend" p3) [.Call (.Name y p4) (e :: es) [] p5] [] p6) pos :: rest) N B C r := by
  obtain ⟨f, fd, Gf, hm, hk, hb⟩ := F.ex
  refine bm_st (N1 := fun ds' => ∃ as zs, Pa as ∧ post as zs ∧ ds' = ds.set i (.own ad (xs ++ zs))) (ht (pe_call Gf hr hg hm hk hb .nil pass0 pa_u hdb he hpl)) (fun Gb σ G H D s env n b c q => ?_) fun ds' ⟨as, zs, h1, h2, e⟩ => by
    rw [e]
    exact kk as zs h1 h2
  obtain ⟨z, e1, e2, g, sb, vs, hvs, hd⟩ := env.at hi
  refine ⟨.ref ad, by rw [e1, e2], .inl ⟨rfl, vs, .inl (.inl hvs)⟩, ha σ G H s.ok env _ fun us as G1 H1 r1 hs p => ?_⟩
  rw [List.append_nil]
  refine ⟨G1, as, W.sub (W.oks r1), hs, hp as p, fun pp ws zs G2 H2 st hp0 g2 h2 hd2 hpo => ?_⟩
  have r2 := W.step (W.oks r1) st
  have env2 := (env.mono r1).mono r2
  obtain ⟨_, _, _, g3, sb3, vs3, hvs3, hd3⟩ := env2.at hi
  refine ⟨ad, pp, vs3, ws, rfl, rfl, hvs3, h2, Nat.le_trans (by rw [hd3.len, hd2.len]; exact hz as zs p hpo) (by decide : 100000 ≤ sizeLine), ?_⟩
  exact n _ _ G2 _ (((s.to r1).to r2).chg sb3 h0 g3 hvs3) (env2.put hi hn (hd3.app hd2)) ⟨as, zs, p, hpo, rfl⟩
/-! ### for a, b in a list of pairs -/
theorem bm_forL2 {N1 : NX} (i j : Nat) {x y : Str} {n0 : Nat} {as : List PyData} (ha : Em X W ds a (· = .list as)) (I : Nat → List Sl → Prop) (h0 : I 0 ds) (hp : PassesOwn (model X.prog X.w) X.A X.env X.xe) (hc : X.calm = true)
    (hs : ∀ n d ds', as[n]? = some d → I n ds' → ∃ u v, d = .tuple [u, v] ∧ Bm X W G0 H0 ((ds'.set i (.dat u)).set j (.dat v)) body (I (n + 1)) N1 (I (n + 1)) r) (hd : ∀ ds', I as.length ds' → N1 ds') (k : ∀ ds', N1 ds' → Bm X W G0 H0 ds' rest N B C r) (hN : X.N.Nodup) (hi : X.N[i]? = some x := by rfl) (hj : X.N[j]? = some y := by rfl) (hx : Loc X.env.scope x := by first | exact Or.inl rfl | exact Or.inr rfl) (hy : Loc X.env.scope y := by first | exact Or.inl rfl | exact Or.inr rfl)
    (hfx : X.fn x = true ∨ X.env.scope.names.lookup x = some .local := by first | exact .inl rfl | exact .inr rfl) (hfy : X.fn y = true ∨ X.env.scope.names.lookup y = some .local := by first | exact .inl rfl | exact .inr rfl)
    (hs1 : (assignEach [.Name x p2, .Name y p3] X.env).map (·.2) = assign (.Name x p2) X.env :: (assignEach [.Name y p3] X.env).map (·.2) := by rfl) (hs2 : (assignEach [.Name y p3] X.env).map (·.2) = assign (.Name y p3) X.env :: (assignEach [] X.env).map (·.2) := by rfl)
    (hn1 : (assignEach [.Name x p2, .Name y p3] X.env).length = 2 := by rfl) (hst : (assignEach [.Name x p2, .Name y p3] X.env).findIdx? (·.1) = none := by rfl) (hs' : ∀ x, foldedSetIterable a X.env x = pure x := by intro _; rfl) : Bm X W G0 H0 ds (.For (.Tuple [.Name x p2, .Name y p3] n0 p4) a body [] pos :: rest) N B C r :=
  bm_st (ps_for hp hc (pi_list pe_u) (pg_tup hc (pgs_cons (pg_name (i := i) hN hi hx hfx) (pgs_cons (pg_name (i := j) hN hj hy hfy) pgs_nil hs2) hs1) hn1 hst) pss_u hs') (fun Gb σ G H D s env n b cc q => ha σ G H s.ok env _ fun v d G1 H1 r1 hv e => by
    subst e
    cases hv with
    | @lst ad us _ hq hus =>
      refine ⟨ad, rfl, ⟨us, .inl (.inl (W.sub (W.oks r1) _ _ hq))⟩, for_list (K := X.K) (xs := us) (fun n σ' H' => ∃ ds' G', At W G1 G0 H0 G' H' ∧ EnvOk W G' H' ds' σ' ∧ I n ds') ⟨ds, G1, ⟨.refl _, (s.to r1).r⟩, env.mono r1, h0⟩ ?_ ?_ ?_⟩
      · rintro m σ' H' _ ⟨ds', G', s', _, _⟩
        exact .inl (.inl (W.sub s'.ok _ _ (s'.b _ _ hq)))
      · rintro m y σ' H' hm ⟨ds', G', s', env', hI⟩
        obtain ⟨dd, h1, h2⟩ := hus.atV hm
        obtain ⟨u, w, rfl, hB⟩ := hs m dd ds' h1 hI
        have h2 := dmono s'.b _ _ h2
        cases h2 with
        | @tup at' _ ts _ ht hts => cases hts with
          | cons t1 hts => cases hts with
            | cons t2 hts => cases hts with
              | nil =>
                rename_i v1 v2
                refine ⟨at', [v1, v2], rfl, .inl (rdt (W.sub s'.ok _ _ ht)), rfl, v1, [v2], rfl, v2, [], rfl, rfl, ?_⟩
                exact hB G1 _ G' H' _ s' ((env'.set i (.dat t1)).set j (.dat t2)) (fun ds2 σ2 G3 H3 s3 e3 p => ⟨ds2, G3, s3, e3, p⟩) (fun ds2 σ2 G3 H3 s3 e3 p => n ds2 σ2 G3 H3 ⟨(s.to r1).b.trans s3.b, s3.r⟩ e3 p) (fun ds2 σ2 G3 H3 s3 e3 p => ⟨ds2, G3, s3, e3, p⟩) q
      · rintro σ' H' ⟨ds', G', s', env', hI⟩
        exact n ds' σ' G' H' ⟨(s.to r1).b.trans s'.b, s'.r⟩ env' (hd ds' (by rw [← hus.len]; exact hI))) k
/-! ### tests -/
def isNoneD : PyData → Bool
  | .none => true
  | _ => false
theorem tm_isN (ha : Em X W ds a (· = d)) {n : Nat} : Tm X W ds (.Compare a [.Is] [.Constant .none n p2] pos) (· = isNoneD d) := tm_of (pt_cmp (pc_isN pe_u)) fun σ G H ok env Q q => ha σ G H ok env _ fun v d' G2 H2 r hd e => by
  subst e
  refine ⟨_, rfl, q _ G2 H2 r ?_⟩
  cases hd <;> rfl
theorem tm_notN (ha : Em X W ds a (· = d)) {n : Nat} : Tm X W ds (.Compare a [.IsNot] [.Constant .none n p2] pos) (· = !isNoneD d) := tm_of (pt_cmp (pc_notN pe_u)) fun σ G H ok env Q q => ha σ G H ok env _ fun v d' G2 H2 r hd e => by
  subst e
  refine ⟨_, rfl, q _ G2 H2 r ?_⟩
  cases hd <;> rfl
theorem tm_notInD {k : Nat} {d : PyData} {xs : List PyData} (hr : Room (k + 1) X.A) (s : SeqAt.shaped d = true) (s' : SeqAt.shaped (.list xs) = true) (ha : Em X W ds a (· = d)) (hb : Em X W ds b (· = .list xs)) (hm : behindInMarks .NotIn b = false := by rfl) (hu : X.A.units + 65 < cLine) : Tm X W ds (.Compare a [.NotIn] [b] pos) (· = !xs.any fun z => PyData.eqv z d) := tm_cmp (op_notInD hu) hm (em_op2 ha hb fun G H u v dx dy ok hx hy px py Q q => by
  subst px
  subst py
  exact ⟨_, _, ddp _ _ (dmono (W.sub ok) _ _ hx), ddp _ _ (dmono (W.sub ok) _ _ hy), s, s', q _ _ G H (W.refl ok) (.bl _) ⟨_, rfl, rfl⟩⟩)
end
end Dn
namespace Dn
open PySem PySem.Spec PyProof.Rows L2
/-! ## comprehensions over pairs, with and without a test -/
structure LcJ (W : Wr) (G H : Hp) (ds : List Sl) (σ : L2.St) (G1 : Hp) (D : Addr) (ys : List PyData) (H' : Hp) : Prop where
  ex : ∃ G' vs, W.R G H G' H' ∧ Same G1 G' ∧ EnvOk W G' H' ds σ ∧ G' D = none ∧ H' D = some (.lst vs) ∧ Ds G' vs ys
section
variable {X : Cx} {W : Wr} {ds : List Sl} {e a c elt : Expr} {pos p2 p3 p4 : Pos} {P : PyData → Prop} {G H G1 H1 : Hp} {σ : L2.St} {D : Addr}
theorem lcj_start (r1 : W.R G H G1 H1) (env : EnvOk W G H ds σ) (hD : H1 D = none) : LcJ W G H ds σ G1 D [] (upd H1 D (.lst [])) := by
  have g : G1 D = none := (W.sub (W.oks r1)).free hD
  have st : Stp G1 H1 G1 (upd H1 D (.lst [])) := ⟨.refl _, same_upd2 (W.sub (W.oks r1)) g, same_upd hD, fun _ _ h => h⟩
  have r2 := W.step (W.oks r1) st
  exact ⟨G1, [], W.trans r1 r2, .refl _, (env.mono r1).mono r2, g, upd_same, .nil⟩
theorem lcj_turn {H' G4 H4 : Hp} {G' : Hp} {vs : List V} {ys : List PyData} {y : V} {d : PyData} (hD : H D = none) (sb : W.stb D) (env0 : EnvOk W G H ds σ) (r : W.R G H G' H') (g1 : Same G1 G') (env : EnvOk W G' H' ds σ) (gD : G' D = none) (hv : H' D = some (.lst vs)) (hd : Ds G' vs ys)
    (hn : ys.length < 40000) (r4 : W.R G' H' G4 H4) (hy : Dd G4 y d) : ∃ acc, H4 D = some (.lst acc) ∧ acc.length < sizeLine ∧ LcJ W G H ds σ G1 D (ys ++ [d]) (upd H4 D (.lst (acc ++ [y]))) := by
  obtain ⟨h4, g4⟩ := W.own r4 sb gD hv
  exact ⟨vs, h4, Nat.lt_of_lt_of_le (by rw [hd.len]; exact hn) (by decide : 40000 ≤ sizeLine), G4, vs ++ [y], W.chg (W.trans r r4) sb hD g4 h4, g1.trans (W.g r4), (env.mono r4).other (env0.fresh hD), g4, upd_same, (dmonoAll (W.g r4) _ _ hd).app (.one hy)⟩
theorem lcj_same {H' G4 H4 : Hp} {ys : List PyData} (sb : W.stb D) (r4 : ∀ G', W.R G H G' H' → W.R G' H' G4 H4) (h : LcJ W G H ds σ G1 D ys H') : True := trivial
theorem lcj_end {H' : Hp} {Q : VK} {ys : List PyData} (hD : H D = none) (sb : W.stb D) (hp : P (.list ys)) (q : ∀ v d G2 H2, W.R G H G2 H2 → Dd G2 v d → P d → Q v H2) (h : LcJ W G H ds σ G1 D ys H') : Q (.ref D) H' := by
  obtain ⟨G', vs, r, g1, env, gD, hv, hd⟩ := h.ex
  exact q _ _ _ _ (W.frz r sb hD gD hv) (.lst upd_same (dmonoAll (same_upd gD) _ _ hd)) hp
/-- the test's reading in every block -/
def uTB (X : Cx) (scope : Scope) (c : Expr) : TT := fun σ H Q => ∀ (s : Shared) (H' : Hp) (C : Addr) (cl : List (Str × Addr)) (fp : List Addr), uT (X.blk s H' scope (compEnvC scope cl C X.env) fp) c σ H Q
theorem pt_uTB {scope : Scope} (s : Shared) (H' : Hp) (C : Addr) (cl : List (Str × Addr)) (fp : List Addr) : PT (X.blk s H' scope (compEnvC scope cl C X.env) fp) c (uTB X scope c) := ⟨fun pins s1 σ H Q I h => pt_u.run pins s1 σ H Q I (h s H' C cl fp)⟩
theorem wipe2 (σ : L2.St) {i j : Nat} (x y : V) : (((wipe σ [i, j]).set i (some x)).set j (some y)) = (σ.set i (some x)).set j (some y) := by
  show ((((σ.set j none).set i none).set i (some x)).set j (some y)) = _
  rw [List.set_set]
  by_cases e : i = j
  · subst e
    rw [List.set_set, List.set_set, List.set_set]
  · rw [List.set_comm _ _ (Ne.symm e), List.set_set]
theorem wipe2b (σ : L2.St) {i j : Nat} (x y : V) : wipe ((σ.set i (some x)).set j (some y)) [i, j] = wipe σ [i, j] := by
  show ((((σ.set i (some x)).set j (some y)).set j none).set i none) = (σ.set j none).set i none
  rw [List.set_set]
  by_cases e : i = j
  · subst e
    rw [List.set_set, List.set_set, List.set_set]
  · rw [List.set_comm _ _ e, List.set_set]
theorem filterMap_take {α β : Type} (h : α → Option β) (as : List α) {n : Nat} {d : α} (e : as[n]? = some d) : (as.take (n + 1)).filterMap h = (as.take n).filterMap h ++ (h d).toList := by
  rw [List.take_add_one, e, List.filterMap_append]
  cases q : h d with
  | none => simp [q]
  | some x => simp [q]
abbrev blkC (X : Cx) (scope : Scope) (s : Shared) (H : Hp) (C : Addr) (cl : List (Str × Addr)) (fp : List Addr) : Cx := X.blk s H scope (compEnvC scope cl C X.env) fp
/-- [elt for a, b in list if c] -/
theorem em_lcF (i j : Nat) {x y : Str} {n0 : Nat} {scope : Scope} {as : List PyData} (h : PyData → Option PyData) (ha : Em X W ds a (· = .list as)) (hpair : ∀ (n : Nat) d, as[n]? = some d → ∃ u v, d = .tuple [u, v])
    (hh : ∀ (s : Shared) (H : Hp) (C : Addr) (cl : List (Str × Addr)) (fp : List Addr) (n : Nat) (u v : PyData), as[n]? = some (.tuple [u, v]) → ∃ b, Tm (blkC X scope s H C cl fp) W ((ds.set i (.dat u)).set j (.dat v)) c (· = b) ∧ (b = false → h (.tuple [u, v]) = none) ∧ (b = true → ∃ z, h (.tuple [u, v]) = some z ∧ ∀ (s : Shared) (H : Hp) (C : Addr) (cl : List (Str × Addr)) (fp : List Addr), Em (blkC X scope s H C cl fp) W ((ds.set i (.dat u)).set j (.dat v)) elt (· = z)))
    (hz : as.length < 40000) (hc : X.calm = true) (hN : X.N.Nodup) (ok : BlkOk X.N X.env.scope scope [(x, i), (y, j)])
    (hg : ∀ (s : Shared) (H : Hp) (C : Addr) (cl : List (Str × Addr)) (fp : List Addr), PG (blkC X scope s H C cl fp) (.Tuple [.Name x p2, .Name y p3] n0 p4) (gTup X.K 2 (gCons (gName i) (gCons (gName j) gNil)))) (hs : ∀ x, foldedSetIterable a X.env x = pure x := by intro _; rfl) :
    Em X W ds (.ListComp elt [⟨.Tuple [.Name x p2, .Name y p3] n0 p4, a, [c], 0⟩] scope pos) (· = .list (as.filterMap h)) :=
  em_of (pe_lc hc hN (pi_list pe_u) ok hg (fun s H C cl fp => pts_one (pt_uTB s H C cl fp)) pe_uEB hs) fun σ G H okW env Q q => ha σ G H okW env _ fun u d G1 H1 r1 hu e => by
    subst e
    cases hu with
    | @lst ad us _ hq hus =>
      refine ⟨ad, rfl, ⟨us, .inl (.inl (W.sub (W.oks r1) _ _ hq))⟩, fun D hD => lc_list (K := X.K) (xs := us) (fun n H' => LcJ W G H ds σ G1 D ((as.take n).filterMap h) H') (lcj_start r1 env hD) (fun n H' _ h => ?_) (fun n y H' hi hJ => ?_) fun H' hJ => ?_⟩
      · obtain ⟨G', vs, r, g1, env, gD, hv, hd⟩ := h.ex
        exact .inl (.inl (W.sub (W.oks r) _ _ (g1 _ _ hq)))
      · obtain ⟨G', vs, r, g1, env', gD, hv, hd⟩ := hJ.ex
        obtain ⟨dd, e1, e2⟩ := hus.atV hi
        have hlt : n < us.length := (List.getElem?_eq_some_iff.mp hi).1
        obtain ⟨u, v, rfl⟩ := hpair n dd e1
        have hlen : ((as.take n).filterMap h).length < 40000 := Nat.lt_of_le_of_lt (Nat.le_trans (List.length_filterMap_le ..) (by rw [List.length_take]; exact Nat.min_le_right ..)) hz
        have e2 := dmono g1 _ _ e2
        have step := filterMap_take h as e1
        have hDn := W.fresh r1 hD
        have sbD := W.new (W.oks r1) hD
        cases e2 with
        | @tup at' _ ts _ ht hts => cases hts with
          | cons t1 hts => cases hts with
            | cons t2 hts => cases hts with
              | nil =>
                rename_i v1 v2
                refine ⟨at', [v1, v2], rfl, .inl (rdt (W.sub (W.oks r) _ _ ht)), rfl, v1, [v2], rfl, v2, [], rfl, rfl, ?_⟩
                show wipe (((wipe σ [i, j]).set i (some v1)).set j (some v2)) [i, j] = wipe σ [i, j] ∧ _
                refine ⟨by rw [wipe2]; exact wipe2b σ v1 v2, fun s0 H0 C cl fp => ?_⟩
                show uT _ c (((wipe σ [i, j]).set i (some v1)).set j (some v2)) H' _
                rw [wipe2]
                obtain ⟨b, hb, hf, ht'⟩ := hh s0 H0 C cl fp n u v e1
                have envB : EnvOk W G' H' ((ds.set i (.dat u)).set j (.dat v)) ((σ.set i (some v1)).set j (some v2)) := (env'.set i (.dat t1)).set j (.dat t2)
                refine hb _ G' H' (W.oks r) envB _ fun b' G4 H4 r4 e => ?_
                subst e
                cases b' with
                | false =>
                  rw [if_neg Bool.false_ne_true, step, hf rfl]
                  obtain ⟨h4, g4⟩ := W.own r4 sbD gD hv
                  show LcJ W G H ds σ G1 D ((as.take n).filterMap h ++ []) H4
                  rw [List.append_nil]
                  exact ⟨G4, vs, W.trans r r4, g1.trans (W.g r4), env'.mono r4, g4, h4, dmonoAll (W.g r4) _ _ hd⟩
                | true =>
                  rw [if_pos rfl]
                  obtain ⟨z, ez, hE⟩ := ht' rfl
                  rw [step, ez]
                  intro s5 H5 C5 cl5 fp5
                  show uE _ elt (((wipe σ [i, j]).set i (some v1)).set j (some v2)) H4 _
                  rw [wipe2]
                  obtain ⟨h4, g4⟩ := W.own r4 sbD gD hv
                  exact hE s5 H5 C5 cl5 fp5 _ G4 H4 (W.oks r4) (envB.mono r4) _ fun y d G6 H6 r6 hy py => by
                    subst py
                    exact lcj_turn hDn sbD env (W.trans r r4) (g1.trans (W.g r4)) (env'.mono r4) g4 h4 (dmonoAll (W.g r4) _ _ hd) hlen r6 hy
      · have hJ : LcJ W G H ds σ G1 D ((as.take us.length).filterMap h) H' := hJ
        rw [hus.len, List.take_length] at hJ
        exact lcj_end (P := (· = .list (as.filterMap h))) (W.fresh r1 hD) (W.new (W.oks r1) hD) rfl q hJ
/-- [elt for a, b in list] -/
theorem em_lcG (i j : Nat) {x y : Str} {n0 : Nat} {scope : Scope} {as : List PyData} (g : PyData → PyData) (ha : Em X W ds a (· = .list as)) (hpair : ∀ (n : Nat) d, as[n]? = some d → ∃ u v, d = .tuple [u, v])
    (hh : ∀ (s : Shared) (H : Hp) (C : Addr) (cl : List (Str × Addr)) (fp : List Addr) (n : Nat) (u v : PyData), as[n]? = some (.tuple [u, v]) → Em (blkC X scope s H C cl fp) W ((ds.set i (.dat u)).set j (.dat v)) elt (· = g (.tuple [u, v])))
    (hz : as.length < 40000) (hc : X.calm = true) (hN : X.N.Nodup) (ok : BlkOk X.N X.env.scope scope [(x, i), (y, j)])
    (hg : ∀ (s : Shared) (H : Hp) (C : Addr) (cl : List (Str × Addr)) (fp : List Addr), PG (blkC X scope s H C cl fp) (.Tuple [.Name x p2, .Name y p3] n0 p4) (gTup X.K 2 (gCons (gName i) (gCons (gName j) gNil)))) (hs : ∀ x, foldedSetIterable a X.env x = pure x := by intro _; rfl) :
    Em X W ds (.ListComp elt [⟨.Tuple [.Name x p2, .Name y p3] n0 p4, a, [], 0⟩] scope pos) (· = .list (as.map g)) :=
  em_of (pe_lc hc hN (pi_list pe_u) ok hg (fun _ _ _ _ _ => pts_nil) pe_uEB hs) fun σ G H okW env Q q => ha σ G H okW env _ fun u d G1 H1 r1 hu e => by
    subst e
    cases hu with
    | @lst ad us _ hq hus =>
      refine ⟨ad, rfl, ⟨us, .inl (.inl (W.sub (W.oks r1) _ _ hq))⟩, fun D hD => lc_list (K := X.K) (xs := us) (fun n H' => LcJ W G H ds σ G1 D ((as.take n).map g) H') (lcj_start r1 env hD) (fun n H' _ h => ?_) (fun n y H' hi hJ => ?_) fun H' hJ => ?_⟩
      · obtain ⟨G', vs, r, g1, env, gD, hv, hd⟩ := h.ex
        exact .inl (.inl (W.sub (W.oks r) _ _ (g1 _ _ hq)))
      · obtain ⟨G', vs, r, g1, env', gD, hv, hd⟩ := hJ.ex
        obtain ⟨dd, e1, e2⟩ := hus.atV hi
        obtain ⟨u, v, rfl⟩ := hpair n dd e1
        have hlen : ((as.take n).map g).length < 40000 := by
          rw [List.length_map, List.length_take]
          omega
        have e2 := dmono g1 _ _ e2
        have step : (as.take (n + 1)).map g = (as.take n).map g ++ [g (.tuple [u, v])] := by
          rw [List.take_add_one, e1, List.map_append]
          rfl
        cases e2 with
        | @tup at' _ ts _ ht hts => cases hts with
          | cons t1 hts => cases hts with
            | cons t2 hts => cases hts with
              | nil =>
                rename_i v1 v2
                refine ⟨at', [v1, v2], rfl, .inl (rdt (W.sub (W.oks r) _ _ ht)), rfl, v1, [v2], rfl, v2, [], rfl, rfl, ?_⟩
                show wipe (((wipe σ [i, j]).set i (some v1)).set j (some v2)) [i, j] = wipe σ [i, j] ∧ _
                refine ⟨by rw [wipe2]; exact wipe2b σ v1 v2, ?_⟩
                rw [step]
                intro s0 H0 C cl fp
                show uE _ elt (((wipe σ [i, j]).set i (some v1)).set j (some v2)) H' _
                rw [wipe2]
                exact hh s0 H0 C cl fp n u v e1 _ G' H' (W.oks r) ((env'.set i (.dat t1)).set j (.dat t2)) _ fun y d G6 H6 r6 hy py => by
                  subst py
                  exact lcj_turn (W.fresh r1 hD) (W.new (W.oks r1) hD) env r g1 env' gD hv hd hlen r6 hy
      · have hJ : LcJ W G H ds σ G1 D ((as.take us.length).map g) H' := hJ
        rw [hus.len, List.take_length] at hJ
        exact lcj_end (P := (· = .list (as.map g))) (W.fresh r1 hD) (W.new (W.oks r1) hD) rfl q hJ
end
end Dn
namespace Dn
open PySem PySem.Spec PyProof.Rows L2
section
variable {X : Cx}
/-- a < b of data that are alike -/
def rLtD (K : PySem.W.Frag) : R2 := fun x y H Q => ∃ d e, Dp K H x d ∧ Dp K H y e ∧ PySem.W.alike d e = true ∧ d ≠ .none ∧ d.depth ≤ 60 ∧ Q (.bl (PySem.W.dataLt d e)) H
theorem op_ltD (hu : X.A.units + 64 < cLine) : OpR X (compareOp .Lt) (rLtD X.K) := by
  intro pins s σ H x y v u Q I rx ry h
  obtain ⟨d, e, hd, he, ha, hn, hk, q⟩ := h
  obtain ⟨as, r1⟩ := Dp.reads I d x v hd rx
  obtain ⟨bs, r2⟩ := Dp.reads I e y u he ry
  have hm : min d.depth e.depth ≤ d.depth := Nat.min_le_left _ _
  have z : EP X pins σ Q (.bool (PySem.W.dataLt d e)) s := ⟨.bl _, H, I, rfl, q⟩
  exact (PySem.W.rcLt_alike d e X.A s v u as bs r1 r2 ha hn (by omega) X.prog X.w X.xe _ z : wpAny (model X.prog X.w) X.A (richCompare .Lt v u) _ X.xe s)
/-! ### t[::-1] of a tuple -/
theorem cut_back {prog : Program} {w : World} {A : Around} {E : Value → Shared → Prop} {s : Shared} {sl : Addr} {vl vu vs : Value} {n : Nat} {Q : Int × Int × Nat → Shared → Prop} (hs : s.heap.IsSliceOf sl vl vu vs) (pl : IsPart vl none) (pu : IsPart vu none) (ps : IsPart vs (some (-1)))
    (h : Q ((n : Int) - 1, -1, n) s) : wpAny (model prog w) A (Builtin.Slice.sliceApplied (.ref sl) (pure (n : Int))) Q E s := by
  obtain ⟨os, hos, hcs, hds⟩ := id hs
  unfold Builtin.Slice.sliceApplied Builtin.Slice.sliceFields
  refine wpAny_bind (wpAny_bind (wpAny_field hos hds (x := vl) rfl (wpAny_bind (wpAny_field hos hds (x := vu) rfl (wpAny_bind (wpAny_field hos hds (x := vs) rfl (wpAny_pure ?_)))))))
  refine wpAny_bind (HT.slicePart_ ps ?_)
  show wpAny _ _ (if ((-1 : Int) == 0) = true then _ else _) _ _ s
  rw [if_neg (by decide)]
  refine wpAny_bind (HT.slicePart_ pl (wpAny_bind (HT.slicePart_ pu (wpAny_bind (wpAny_pure ?_)))))
  show wpAny _ _ (match Builtin.Slice.sliceAdjust none none (-1) (n : Int) with | (lo, hi) => pure (lo, (-1 : Int), Builtin.Slice.slicePlaces lo hi (-1))) _ _ s
  have e1 : Builtin.Slice.sliceAdjust none none (-1) (n : Int) = ((n : Int) - 1, -1) := rfl
  rw [e1]
  show wpAny _ _ (pure ((n : Int) - 1, (-1 : Int), Builtin.Slice.slicePlaces ((n : Int) - 1) (-1) (-1))) _ _ s
  have e2 : Builtin.Slice.slicePlaces ((n : Int) - 1) (-1) (-1) = n := by
    unfold Builtin.Slice.slicePlaces
    rw [if_neg (by decide)]
    by_cases hn : n = 0
    · subst hn
      rfl
    · rw [if_pos (by omega)]
      simp
  rw [e2]
  exact wpAny_pure h
theorem pick_back (xs : Array Value) : ((List.range xs.size).filterMap fun (m : Nat) => xs[(((xs.size : Nat) : Int) - 1 + (m : Int) * -1).toNat]?).toArray = xs.toList.reverse.toArray := by
  have e : (fun (m : Nat) => xs[(((xs.size : Nat) : Int) - 1 + (m : Int) * -1).toNat]?) = (fun k => xs[k]?) ∘ fun m => (0 + xs.size - 1) - m := by
    funext m
    have : (((xs.size : Nat) : Int) - 1 + (m : Int) * -1).toNat = (0 + xs.size - 1) - m := by omega
    show xs[_]? = xs[_]?
    rw [this]
  rw [e, ← List.filterMap_map, ← List.reverse_range', List.filterMap_reverse, ← List.range_eq_range', PySem.W.krv_all]
/-- t[::-1] -/
def tRevT (K : PySem.W.Frag) (te : TE) : TE := fun σ H Q => te σ H fun x H1 => ∃ a xs, x = .ref a ∧ SqT K H1 a xs ∧ ∀ p, H1 p = none → Q (.ref p) (upd H1 p (.tup xs.reverse))
theorem item_back {prog : Program} {w : World} {A : Around} {E : Value → Shared → Prop} {s : Shared} {t sl : Addr} {items : Array Value} {vl vu vs : Value} {Q : Value → Shared → Prop} (ht : IsTup s.heap t items) (hs : s.heap.IsSliceOf sl vl vu vs) (pl : IsPart vl none) (pu : IsPart vu none) (ps : IsPart vs (some (-1)))
    (h : Q (.ref s.heap.objs.size) { s with heap := s.heap.push { cls := .type "tuple", data := .seq items.toList.reverse.toArray } }) (hsz : items.size ≤ sizeLine) : wpAny (model prog w) A (getItem (.ref t) (.ref sl)) Q E s := by
  have htake : sizeOk (.seq items.toList.reverse.toArray) := by
    show items.toList.reverse.toArray.size ≤ sizeLine
    rw [List.size_toArray, List.length_reverse, Array.length_toList]
    exact hsz
  obtain ⟨os, hos, hcs, hds⟩ := id hs
  have hTs : s.TypeIs (.ref sl) "slice" := ⟨os, hos, hcs⟩
  unfold getItem
  try with_reducible refine wpAny_holding ?_
  first | refine wpAny_bind (wpAny_pure ?_) | skip
  refine wpAny_bind (wpAny_sequenceKey ht.typeIs (by decide) ?_)
  refine wpAny_bind (wpAny_callSpecial?_slot (name := Str.ofString "__getitem__") ht.typeIs PyProof.Rows.slot_tuple_getitem
    (wpAny_call_entry PyProof.Rows.slot_tuple_getitem ht.typeIs entry_tuple_getitem ?_ (args_tuple_getitem _ _)))
  show wpAny _ _ (Builtin.Tuple.tupleItemsOf (.ref t) >>= _) _ _ s
  refine wpAny_bind (tupleItemsOf_ ht ?_)
  refine wpAny_bind (wpAny_typeOf hTs ?_)
  rw [if_pos (by decide)]
  refine wpAny_bind (cut_back hs pl pu ps ?_)
  have hno : ¬ ((((items.size : Nat) : Int) - 1 == 0 && (-1 : Int) == 1 && items.size == items.size) = true) := by
    intro q
    rw [Bool.and_eq_true, Bool.and_eq_true] at q
    exact absurd q.1.2 (by decide)
  show wpAny _ _ (if (((items.size : Nat) : Int) - 1 == 0 && (-1 : Int) == 1 && items.size == items.size) = true then _ else _) _ _ s
  rw [if_neg hno, pick_back]
  first
    | exact wpAny_bind (m := Builtin.Tuple.tupleExact _) (wpAny_newObj_type (wpAny_pure ⟨_, rfl, wpAny_pure h⟩) htake)
    | exact wpAny_bind (m := Builtin.Tuple.tupleExact _) (wpAny_newObj_type (wpAny_bind (wpAny_pure (wpAny_pure ⟨_, rfl, wpAny_pure h⟩))) htake)
    | exact wpAny_bind (wpAny_bind (m := Builtin.Tuple.tupleExact _) (wpAny_newObj_type (wpAny_pure (wpAny_pure ⟨_, rfl, wpAny_pure h⟩)) htake))
    | exact wpAny_bind (wpAny_bind (m := Builtin.Tuple.tupleExact _) (wpAny_newObj_type (wpAny_pure ⟨_, rfl, wpAny_pure h⟩) htake))
theorem pe_revT {e : Expr} {te : TE} {k : Nat} {p1 p2 p3 pos : Pos} (he : PE X e te) : PE X (.Subscript e (.Slice none none (some (.UnaryOp .USub (.Constant (.int 1) k p1) p2)) p3) pos) (tRevT X.K te) := by
  refine ⟨fun pins s σ H Q I h => ?_⟩
  refine Subscript_ (thn (he.run pins s σ H _ I h) fun v s1 ⟨x, H1, I1, r1, q1⟩ => ?_)
  obtain ⟨a, xs, ex, hx, q⟩ := q1
  subst ex
  cases r1
  have hst : PO X (some (.UnaryOp .USub (.Constant (.int 1) k p1) p2)) (tPart (tUn (rU fun i => .int (-i)) (tC (.int 1)))) := po_some (pe_un un_neg pe_int)
  refine wpAny_Slice (thn (po_none.run pins s1 σ H1 (fun o H2 => o = none ∧ H2 = H1) I1 ⟨rfl, rfl⟩) fun vl s2 ⟨l, H2, I2, pl, el, e2⟩ => ?_)
  subst el e2
  refine thn (po_none.run pins s2 σ H2 (fun o H3 => o = none ∧ H3 = H2) I2 ⟨rfl, rfl⟩) fun vu s3 ⟨u, H3, I3, pu, eu, e3⟩ => ?_
  subst eu e3
  refine thn (hst.run pins s3 σ H3 (fun o H4 => o = some (-1) ∧ H4 = H3) I3 ⟨1, rfl, -1, rfl, rfl, rfl⟩) fun vs s4 ⟨o, H4, I4, ps, eo, e4⟩ => ?_
  subst eo e4
  have I5 : Inv X pins σ H4 { s4 with heap := s4.heap.push { cls := .type "slice", data := .fields #[vl, vu, vs] } } := I4.kept (t' := s4.toks) fun b ob q => Heap.get?_push_of_some _ q
  obtain ⟨its, r, ht, hz⟩ := I5.tuple hx
  have hlen := r.length
  show wpAny (model X.prog X.w) X.A (subscriptTail e (.Slice none none (some (.UnaryOp .USub (.Constant (.int 1) k p1) p2)) p3) (.ref a) (.ref s4.heap.objs.size)) (EP X pins σ Q) X.xe { s4 with heap := s4.heap.push { cls := .type "slice", data := .fields #[vl, vu, vs] } }
  refine tail_any (ops := [.ref a, .ref s4.heap.objs.size]) ht.typeIs (PyProof.Rows.slot_tuple_getitem.lookup) ?_ (by with_unfolding_all rfl)
  refine item_back ht (Heap.IsSliceOf.new _ vl vu vs) pl pu ps ?_ (by rw [List.size_toArray]; omega)
  refine ⟨.ref _, _, I5.laid (t' := s4.toks) (o := .tup xs.reverse) (fun b ob q => Heap.get?_push_of_some _ q) (Nat.le_refl _) ?_, rfl, q _ (I5.hok.fresh (Nat.le_refl _))⟩
  refine ⟨by rw [List.length_reverse]; exact hz, _, r.reverse, ?_⟩
  exact IsTup.new _ _
/-! ### t.count(x) -/
def rCntD (K : PySem.W.Frag) : V → List V → Hp → VK → Prop := fun x xs H Q => ∃ (y : V) (d : PyData) (ds : List PyData), xs = [y] ∧ Dp K H x (.tuple ds) ∧ Dp K H y d ∧ PyData.plainAll ds = true ∧ d.plain = true ∧ d.depth ≤ 50 ∧ Q (.int ((ds.countP fun z => PyData.eqv z d : Nat) : Int)) H
theorem mt_tcount (hu : X.A.units + 64 < cLine) : MtR X "tuple.count" (rCntD X.K) := by
  intro pins s σ H x xs v us Q I rx rxs h
  obtain ⟨y, d, ds, rfl, hl, hy, p1, p2, hk, q⟩ := h
  obtain ⟨u, rfl, ru⟩ := rxs.one
  obtain ⟨bs, r1⟩ := Dp.reads I d y u hy ru
  cases hl with
  | @tup a vs _ hs ha =>
    cases rx
    obtain ⟨its, rv, ht, hlen⟩ := I.tuple hs
    obtain ⟨as, r2⟩ := Dp.readsAll I ds _ its ha rv
    have hm : min (PyData.depthAll ds) d.depth ≤ d.depth := Nat.min_le_right _ _
    exact PySem.SeqAt.count_tuple_data (show s.heap.IsTuple a its.toArray from ht) (show ReadsAll s.heap its.toArray.toList ds as from r2) r1 p1 p2 (by omega) ⟨.int _, H, I.tok _, ⟨_, rfl⟩, q⟩
end
end Dn
namespace Dn
open PySem PySem.Spec PyProof.Rows L2
section
variable {X : Cx} {W : Wr} {G0 H0 : Hp} {ds : List Sl} {e a b c elt : Expr} {es : List Expr} {pos p2 p3 p4 p5 p6 : Pos} {P : PyData → Prop} {d : PyData} {N B C : NX} {r : RT} {rest body : List Stmt} {Pe : Nat → PyData → Prop}
theorem Ds.rev {G : Hp} : ∀ {vs : List V} {as : List PyData}, Ds G vs as → Ds G vs.reverse as.reverse
  | _, _, .nil => .nil
  | _, _, .cons h t => by
    rw [List.reverse_cons, List.reverse_cons]
    exact (Ds.rev t).app (.one h)
theorem em_revT {as : List PyData} {k : Nat} (ha : Em X W ds a (· = .tuple as)) : Em X W ds (.Subscript a (.Slice none none (some (.UnaryOp .USub (.Constant (.int 1) k p2) p3)) p4) pos) (· = .tuple as.reverse) := em_of (pe_revT pe_u) fun σ G H ok env Q q => ha σ G H ok env _ fun v d G1 H1 r1 hd e => by
  subst e
  cases hd with
  | @tup ad _ us _ hq hs =>
    refine ⟨ad, us, rfl, .inl (rdt (W.sub (W.oks r1) _ _ hq)), fun p hp => ?_⟩
    have st := Stp.new (o := .tup us.reverse) (W.sub (W.oks r1)) hp
    exact q _ _ _ _ (W.trans r1 (W.step (W.oks r1) st)) (.tup (o := none) upd_same (dmonoAll st.g _ _ hs.rev)) rfl
theorem em_ltD {d d' : PyData} (hu : X.A.units + 64 < cLine) (hal : PySem.W.alike d d' = true) (hn : d ≠ .none) (hk : d.depth ≤ 60) (ha : Em X W ds a (· = d)) (hb : Em X W ds b (· = d')) : Em X W ds (.Compare a [.Lt] [b] pos) (· = .bool (PySem.W.dataLt d d')) := em_of (pe_cmpR (op_ltD hu) pe_u pe_u (nomark _)) (em_op2 ha hb fun G H u v dx dy ok hx hy px py Q q => by
  subst px
  subst py
  exact ⟨_, _, ddp _ _ (dmono (W.sub ok) _ _ hx), ddp _ _ (dmono (W.sub ok) _ _ hy), hal, hn, hk, q _ _ G H (W.refl ok) (.bl _) rfl⟩)
theorem tm_neB {x y : Bool} (ha : Em X W ds a (· = .bool x)) (hb : Em X W ds b (· = .bool y)) : Tm X W ds (.Compare a [.NotEq] [b] pos) (· = !decide (x = y)) := tm_cmp op_ne (nomark _) (em_op2 ha hb fun G H u v dx dy ok hx hy px py Q q => by
  subst px
  subst py
  cases hx
  cases hy
  exact ⟨rfl, q _ _ G H (W.refl ok) (.bl _) ⟨_, rfl, by rw [dec_bl, Bool.beq_eq_decide_eq]⟩⟩)
/-- y = [elt for x in a tuple] -/
theorem bm_setLcT (i v : Nat) {x y : Str} {scope : Scope} {as : List PyData} (ha : Em X W ds a (· = .tuple as))
    (he : ∀ (s : Shared) (H : Hp) (C : Addr) (cl : List (Str × Addr)) (fp : List Addr) (n : Nat) (d : PyData), as[n]? = some d → Em (X.blk s H scope (compEnvC scope cl C X.env) fp) W (ds.set v (.dat d)) elt (Pe n))
    (k : ∀ ys : List PyData, ys.length = as.length → (∀ n y, ys[n]? = some y → Pe n y) → Bm X W G0 H0 (ds.set i (.dat (.list ys))) rest N B C r) (hz : as.length ≤ 40000) (hc : X.calm = true) (hN : X.N.Nodup) (ok : BlkOk X.N X.env.scope scope [(x, v)])
    (hg : ∀ (s : Shared) (H : Hp) (C : Addr) (cl : List (Str × Addr)) (fp : List Addr), PG (X.blk s H scope (compEnvC scope cl C X.env) fp) (.Name x p2) (gName v)) (hy : X.N[i]? = some y := by rfl) (hyl : X.env.scope.names.lookup y = some .local := by rfl)
    (hsw : swapsWith (.ListComp elt [⟨.Name x p2, a, [], 0⟩] scope p4) (some (.Name y p3)) pos.line X.env = pure true) (hs : ∀ x, foldedSetIterable a X.env x = pure x := by intro _; rfl) :
    Bm X W G0 H0 ds (.Assign [.Name y p3] (.ListComp elt [⟨.Name x p2, a, [], 0⟩] scope p4) pos :: rest) N B C r :=
  bm_st (N1 := fun ds' => ∃ ys : List PyData, ys.length = as.length ∧ (∀ n y, ys[n]? = some y → Pe n y) ∧ ds' = ds.set i (.dat (.list ys))) (ps_setLc hc hN hy hyl hsw (pi_tup pe_u) ok hg (fun _ _ _ _ _ => pts_nil) pe_uEB hs) (fun Gb σ G H D s env n b cc q => ha σ G H s.ok env _ fun u d G1 H1 r1 hu e => by
    subst e
    cases hu with
    | @tup ad _ us _ hq hus =>
      refine ⟨ad, rfl, ⟨us, .inl (rdt (W.sub (W.oks r1) _ _ hq))⟩, fun D' hD => lc_tup (K := X.K) (xs := us) (LcI W G H ds σ G1 D' Pe) (lc_start r1 env hD) (fun i H' _ h => ?_) (fun i y H' hi h => ?_) fun H' h => ?_⟩
      · obtain ⟨G', vs, ys, r, g1, env, gD, hv, hd, hl, hpe⟩ := h.ex
        exact .inl (rdt (W.sub (W.oks r) _ _ (g1 _ _ hq)))
      · show wipe ((wipe σ [v]).set v (some y)) [v] = wipe σ [v] ∧ _
        rw [wipe_set]
        obtain ⟨G', vs, ys, r, g1, env', gD, hv, hd, hl, hpe⟩ := h.ex
        obtain ⟨dd, e1, e2⟩ := hus.atV hi
        have hlt : i < us.length := (List.getElem?_eq_some_iff.mp hi).1
        refine ⟨wipe_back σ v y, fun s0 H0 C cl fp => ?_⟩
        show uE _ elt ((wipe σ [v]).set v (some y)) H' _
        rw [wipe_set]
        exact he s0 H0 C cl fp i dd e1 _ G' H' (W.oks r) (env'.set v (.dat (dmono g1 _ _ e2))) _ fun y d G4 H4 r4 hy py => lc_turn (W.fresh r1 hD) (W.new (W.oks r1) hD) env r g1 env' gD hv hd hl hpe (by rw [hus.len] at hlt; omega) r4 hy py
      · refine lc_end (P := fun d => ∃ ys : List PyData, d = .list ys ∧ ys.length = as.length ∧ ∀ n y, ys[n]? = some y → Pe n y) (Q := fun x H1 => gName i x σ H1 D.nx) (W.fresh r1 hD) (W.new (W.oks r1) hD) (fun ys hl hp => ⟨ys, rfl, by rw [hl, hus.len], hp⟩) (fun v' d' G2 H2 r2 hd2 ⟨ys, e, hl, hp⟩ => ?_) h
        subst e
        exact n _ _ G2 H2 (s.to r2) ((env.mono r2).set i (.dat hd2)) ⟨ys, hl, hp, rfl⟩) fun ds' ⟨ys, h1, h2, e⟩ => by
    rw [e]
    exact k ys h1 h2
end
end Dn
namespace Dn
open PySem PySem.Spec PyProof.Rows L2
/-! ## tuples whose object is known -/
theorem tp_inj {o o' : Option Obj} {xs ys : List V} (h : tp o xs = tp o' ys) : xs = ys := by
  cases o <;> cases o' <;> cases h <;> rfl
/-- a tuple of three, the last one known -/
def Fz3 (G : Hp) (v : V) : Prop := ∃ (t : Addr) (o : Option Obj) (x y z : V), v = .ref t ∧ G t = some (tp o [x, y, z]) ∧ Fz G z
/-- of a bag and data, to data at a place of which L holds -/
def spBZ (L : Hp → V → Prop) (pre : List PyData → Prop) (post : List PyData → PyData → Prop) : Sp := fun vs H Q _ => ∃ b us G as, vs = .ref b :: us ∧ BagOk b G H ∧ Ds G us as ∧ pre as ∧ ∀ v d G' H', BagR b G H G' H' → Dd G' v d → L G' v → post as d → Q v H'
def EmZ (L : Hp → V → Prop) (X : Cx) (W : Wr) (ds : List Sl) (e : Expr) (P : PyData → Prop) : Prop := ∀ σ G H, W.ok G H → EnvOk W G H ds σ → ∀ Q : VK, (∀ v d G2 H2, W.R G H G2 H2 → Dd G2 v d → L G2 v → P d → Q v H2) → uE X e σ H Q
def rDZ (L : Hp → V → Prop) (P : PyData → Prop) : RT := fun v G _ => ∃ d, Dd G v d ∧ L G v ∧ P d
section
variable {X : Cx} {W : Wr} {G0 H0 : Hp} {ds : List Sl} {e a b c e1 e2 e3 : Expr} {es : List Expr} {pos p2 p3 p4 p5 : Pos} {P P1 P2 P3 : PyData → Prop} {d : PyData} {N B C : NX} {r : RT} {rest body : List Stmt} {L : Hp → V → Prop}
theorem call_tuple_ofZ : CallR X (.type "tuple") (fun xs H Q => ∃ p ys, xs = [.ref p] ∧ SqL X.K H p ys ∧ ∀ l ob, H l = none → ob.dict = none → Q (.ref l) (upd H l (tp (some ob) ys))) := by
  intro pins s σ H xs us Q I r h
  obtain ⟨p, ys, rfl, hq, q⟩ := h
  obtain ⟨u, rfl, rx⟩ := vals1 r
  cases rx
  obtain ⟨its, r', pl, hz⟩ := I.list hq
  have hlen := r'.length
  refine call_tuple_list pl.isList (fun h' kp => ?_) (by simp only [List.size_toArray] <;> omega)
  have I1 : Inv X pins σ H { s with heap := h' } := I.kept (t' := s.toks) kp
  have hget : (h'.push { cls := .type "tuple", data := .seq its.toArray }).get? h'.objs.size = some { cls := .type "tuple", data := .seq its.toArray } := Heap.get?_push_size _ rfl
  have I2 : Inv X pins σ (upd H h'.objs.size (tp (some { cls := .type "tuple", data := .seq its.toArray }) ys)) { s with heap := h'.push { cls := .type "tuple", data := .seq its.toArray } } :=
    I1.laid (t' := s.toks) (fun b o e => Heap.get?_push_of_some _ e) (Nat.le_refl _) (show ObjOk X.prog X.w _ _ _ (.frz _ (.tup ys)) from ⟨hget, hz, its, r', IsTup.new _ _⟩)
  exact ⟨.ref h'.objs.size, _, I2, rfl, q _ _ (I1.hok.fresh (Nat.le_refl _)) rfl⟩
theorem emz_tupleOf {Pa : List PyData → Prop} (ha : Em X W ds a (fun d => ∃ as, d = .list as ∧ Pa as)) (hp : ∀ as, Pa as → P (.tuple as)) (hm : X.mg "tuple" = none) (hg : Gl X "tuple" := by rfl) (hs : starEach [a] X.env = (false, eval a X.env) :: starEach [] X.env := by rfl) (hpl : (backTo pos (starEach [] X.env)).any (·.1) = false := by rfl) : EmZ Fz X W ds (.Call (.Name "tuple" p2) [a] [] pos) P := fun σ G H ok env Q q =>
  ⟨_, pe_callTy call_tuple_ofZ hg hm (by decide +kernel) (pa_cons pe_u pa_nil hs) (he := hs) (hpl := hpl), ha σ G H ok env _ fun v d G1 H1 r1 hd ⟨as, e, p⟩ => by
    subst e
    cases hd with
    | @lst _ us _ hh hs =>
      refine ⟨_, us, rfl, .inl (.inl (W.sub (W.oks r1) _ _ hh)), fun l ob hl ho => ?_⟩
      have st := Stp.new (o := tp (some ob) us) (W.sub (W.oks r1)) hl
      exact q _ _ _ _ (W.trans r1 (W.step (W.oks r1) st)) (.tup (o := some ob) upd_same (dmonoAll st.g _ _ hs)) ⟨l, ob, us, rfl, upd_same, ho⟩ (hp as p)⟩
theorem emz_tup3 {n : Nat} (h1 : Em X W ds e1 P1) (h2 : Em X W ds e2 P2) (h3 : EmZ Fz X W ds e3 P3) (k : ∀ x y z, P1 x → P2 y → P3 z → P (.tuple [x, y, z])) (hs1 : starEach [e1, e2, e3] X.env = (false, eval e1 X.env) :: starEach [e2, e3] X.env := by rfl) (hs2 : starEach [e2, e3] X.env = (false, eval e2 X.env) :: starEach [e3] X.env := by rfl) (hs3 : starEach [e3] X.env = (false, eval e3 X.env) :: starEach [] X.env := by rfl) : EmZ Fz3 X W ds (.Tuple [e1, e2, e3] n pos) P := fun σ G H ok env Q q =>
  ⟨_, pe_tup (pa_cons pe_u (pa_cons pe_u (pa_cons pe_u pa_nil hs3) hs2) hs1), h1 σ G H ok env _ fun v1 d1 G1 H1 r1 x1 p1 => h2 σ G1 H1 (W.oks r1) (env.mono r1) _ fun v2 d2 G2 H2 r2 x2 p2 => h3 σ G2 H2 (W.oks r2) ((env.mono r1).mono r2) _ fun v3 d3 G3 H3 r3 x3 z3 p3 => by
    refine ⟨Nat.le_of_lt (small1000 (by show 3 ≤ 1000; decide)), fun t ht => ?_⟩
    have st := Stp.new (o := tp none [v1, v2, v3]) (W.sub (W.oks r3)) ht
    exact q _ _ _ _ (W.trans (W.trans r1 (W.trans r2 r3)) (W.step (W.oks r3) st)) (.tup (o := none) upd_same (.cons (dmono (((W.g r2).trans (W.g r3)).trans st.g) _ _ x1) (.cons (dmono ((W.g r3).trans st.g) _ _ x2) (.one (dmono st.g _ _ x3))))) ⟨t, none, v1, v2, v3, rfl, upd_same, z3.mono st.g⟩ (k _ _ _ p1 p2 p3)⟩
theorem em_callBZ {x y : Str} {k n : Nat} {ps : List Str} {bg : Addr} {pre : List PyData → Prop} {post : List PyData → PyData → Prop} {Pa : List PyData → Prop} (F : Fk X.prog X.w X.K X.mg X.base x k ps (spBZ L pre post)) (hr : Room k X.A) (hn : ds[n]? = some (.raw (.ref bg))) (ha : Am X (bw bg) ds es Pa) (hp : ∀ as, Pa as → pre as ∧ ∀ d, post as d → P d) (hg : Gl X x := by rfl)
    (hN : X.N[n]? = some y := by rfl) (hv : Vis X.env.scope y := by first | exact Or.inl rfl | exact Or.inr (Or.inl rfl) | exact Or.inr (Or.inr rfl)) (hd : (y == ("__debug__" : Str)) = false := by decide) (hcd : (y == ("__classdict__" : Str)) = false := by decide)
    (hdb : (x == ("__debug__" : Str)) = false := by decide) (he : starEach (.Name y p3 :: es) X.env = (false, eval (.Name y p3) X.env) :: starEach es X.env := by rfl) (hpl : (backTo pos (starEach es X.env)).any (·.1) = false := by rfl) : EmZ L X (bw bg) ds (.Call (.Name x p2) (.Name y p3 :: es) [] pos) P := by
  obtain ⟨f, fd, G, hm, hk, hb⟩ := F.ex
  refine fun σ G0 H0 ok env Q q => ⟨_, pe_call G hr hg hm hk hb .nil pass0 (pa_cons (pv n hN hv hd hcd) pa_u he) hdb he hpl, ?_⟩
  obtain ⟨z, e1, e2⟩ := env.at hn
  refine ⟨.ref bg, by rw [e1, show z = some (V.ref bg) from e2], ha σ G0 H0 ok env _ fun vs as G1 H1 r1 hs p => ?_⟩
  obtain ⟨p1, p2⟩ := hp as p
  rw [List.append_nil]
  exact ⟨bg, vs, G1, as, rfl, r1.ok, hs, p1, fun v d G2 H2 st hd hL hpo => q v d G2 H2 ((bw bg).trans r1 st) hd hL (p2 d hpo)⟩
theorem bm_retZ (he : EmZ L X W ds e P) : Bm X W G0 H0 ds (.Return (some e) pos :: rest) N B C (rDZ L P) := bm_of (pss_cons (ps_ret pe_u) pss_never) fun Gb σ G H D s env n b c q =>
  he σ G H s.ok env _ fun v d G2 H2 r2 hd hL p => q v G2 H2 (s.to r2).r ⟨d, hd, hL, p⟩
theorem em_varZ (i : Nat) {x : Str} (hi : ds[i]? = some (.fz d)) (hN : X.N[i]? = some x := by rfl) (hv : Vis X.env.scope x := by first | exact Or.inl rfl | exact Or.inr (Or.inl rfl) | exact Or.inr (Or.inr rfl)) (hd : (x == ("__debug__" : Str)) = false := by decide)
    (hcd : (x == ("__classdict__" : Str)) = false := by decide) : Em X W ds (.Name x pos) (· = d) := em_of (pv i hN hv hd hcd) fun σ G H ok env Q q => by
  obtain ⟨x, e, v, ev, hv, _⟩ := env.at hi
  exact ⟨v, by rw [e, ev], q v d G H (W.refl ok) hv rfl⟩
theorem bm_tup3Z (i j l : Nat) {x y z : Str} {n : Nat} (he : EmZ Fz3 X W ds e P) (k : ∀ d, P d → ∃ u v t, d = .tuple [u, v, t] ∧ Bm X W G0 H0 (((ds.set i (.dat u)).set j (.dat v)).set l (.fz t)) rest N B C r) (hc : X.calm = true) (hN : X.N.Nodup) (hi : X.N[i]? = some x := by rfl) (hj : X.N[j]? = some y := by rfl) (hl : X.N[l]? = some z := by rfl) (hx : Loc X.env.scope x := by first | exact Or.inl rfl | exact Or.inr rfl) (hy : Loc X.env.scope y := by first | exact Or.inl rfl | exact Or.inr rfl) (hz : Loc X.env.scope z := by first | exact Or.inl rfl | exact Or.inr rfl)
    (hfx : X.fn x = true ∨ X.env.scope.names.lookup x = some .local := by first | exact .inl rfl | exact .inr rfl) (hfy : X.fn y = true ∨ X.env.scope.names.lookup y = some .local := by first | exact .inl rfl | exact .inr rfl) (hfz : X.fn z = true ∨ X.env.scope.names.lookup z = some .local := by first | exact .inl rfl | exact .inr rfl)
    (ht : PGs X [.Name x p2, .Name y p3, .Name z p4] (gCons (gName i) (gCons (gName j) (gCons (gName l) gNil))) → PS X (.Assign [.Tuple [.Name x p2, .Name y p3, .Name z p4] n p5] e pos) (tAsg (uE X e) (gTup X.K 3 (gCons (gName i) (gCons (gName j) (gCons (gName l) gNil))))))
    (hs1 : (assignEach [.Name x p2, .Name y p3, .Name z p4] X.env).map (·.2) = assign (.Name x p2) X.env :: (assignEach [.Name y p3, .Name z p4] X.env).map (·.2) := by rfl) (hs2 : (assignEach [.Name y p3, .Name z p4] X.env).map (·.2) = assign (.Name y p3) X.env :: (assignEach [.Name z p4] X.env).map (·.2) := by rfl) (hs3 : (assignEach [.Name z p4] X.env).map (·.2) = assign (.Name z p4) X.env :: (assignEach [] X.env).map (·.2) := by rfl) :
    Bm X W G0 H0 ds (.Assign [.Tuple [.Name x p2, .Name y p3, .Name z p4] n p5] e pos :: rest) N B C r :=
  bm_st (N1 := fun ds' => ∃ u v t, P (.tuple [u, v, t]) ∧ ds' = ((ds.set i (.dat u)).set j (.dat v)).set l (.fz t)) (ht (pgs_cons (pg_name hN hi hx hfx) (pgs_cons (pg_name hN hj hy hfy) (pgs_cons (pg_name hN hl hz hfz) pgs_nil hs3) hs2) hs1)) (fun Gb σ G H D s env n b c q => he σ G H s.ok env _ fun v d G2 H2 r2 hd hL p => by
    obtain ⟨u, w, t, rfl, _⟩ := k d p
    cases hd with
    | @tup ad o us _ hq hd =>
      cases hd with
      | cons h1 hd => cases hd with
        | cons h2 hd => cases hd with
          | cons h3 hd => cases hd with
            | nil =>
              rename_i v1 v2 v3
              obtain ⟨t', o', x', y', z', e1, e2, e3⟩ := hL
              cases e1
              rw [hq] at e2
              have e4 := tp_inj (Option.some.inj e2)
              cases e4
              exact ⟨ad, [v1, v2, v3], rfl, .inl (rdt (W.sub (W.oks r2) _ _ hq)), rfl, v1, [v2, v3], rfl, v2, [v3], rfl, v3, [], rfl, rfl, n _ _ G2 H2 (s.to r2) ((((env.mono r2).set i (.dat h1)).set j (.dat h2)).set l (s := .fz t) ⟨v3, rfl, h3, e3⟩) ⟨u, w, t, p, rfl⟩⟩) fun ds' ⟨u, v, t, p, e⟩ => by
    obtain ⟨u', v', t', e2, h⟩ := k _ p
    cases e2
    rw [e]
    exact h
/-! ### a known tuple's method -/
def tyZ (x : V) (H : Hp) : Prop := ∃ a ob us, x = .ref a ∧ H a = some (tp (some ob) us) ∧ ob.dict = none
def tBMZ (r : V → List V → Hp → VK → Prop) (to : TE) (t : TA) : TE := fun σ H Q => to σ H fun x H1 => tyZ x H1 ∧ t σ H1 fun xs H2 => r x xs H2 Q
theorem tyZ_is {pins : List (Addr × Obj)} {σ : L2.St} {H : Hp} {s : Shared} {x : V} {v : Value} (I : Inv X pins σ H s) (r : RelV x v) (ty : tyZ x H) :
    s.TypeIs v "tuple" ∧ ∀ a, v = .ref a → ∃ ob, s.heap.get? a = some ob ∧ ob.dict = none := by
  obtain ⟨a, ob, us, rfl, h, hd⟩ := ty
  cases r
  obtain ⟨h1, _, its, _, ht⟩ := (show ObjOk X.prog X.w H s.heap a (.frz ob (.tup us)) from I.hok a _ h)
  refine ⟨ht.typeIs, fun b e => ?_⟩
  cases e
  exact ⟨ob, h1, hd⟩
theorem pe_bmZ {o e : Expr} {es : List Expr} {to : TE} {t : TA} {name : Str} {apos cpos : Pos} {id : String} {r : V → List V → Hp → VK → Prop} (slot : Slot "tuple" name id) (hty : typeOf (.builtin id) = pure (.type "method_descriptor")) (hm : MtR X id r) (ho : PE X o to) (ha : PA X (e :: es) t)
    (hbase : attributeBase o name X.env (eval o X.env) = eval o X.env := by rfl)
    (hfew : ((backTo cpos (starEach (e :: es) X.env)).all (fun x => !x.1) && (backToKw cpos (keywordEach [] X.env)).all (fun x => x.1.isSome)
      && decide ((e :: es).length + ([] : List Keyword).length + (if ([] : List Keyword).isEmpty then 0 else 1) < 30)) = true := by rfl)
    (hline : (apos.endLine == cpos.line) = true := by rfl) (hs : starEach (e :: es) X.env = (false, eval e X.env) :: starEach es X.env := by rfl) (hplain : (backTo cpos (starEach es X.env)).any (·.1) = false := by rfl) :
    PE X (.Call (.Attribute o name apos) (e :: es) [] cpos) (tBMZ r to t) := by
  refine ⟨fun pins s σ H Q I h => ?_⟩
  refine wpAny_Call_method_late hbase hfew hline rfl (thn (ho.run pins s σ H _ I h) fun v s1 ⟨x, H1, I1, r1, ty, q1⟩ => ?_)
  obtain ⟨h1, h2⟩ := tyZ_is I1 r1 ty
  refine ⟨"tuple", id, PySem.F.plainAttrs_tuple, slot, hty, h1, h2, ?_⟩
  have hA := ha.run cpos pins s1 σ H1 _ I1 q1
  rw [hs] at hA ⊢
  refine Calls.callWith_builtin (by show (false || (backTo cpos (starEach es X.env)).any (·.1)) = false; rw [hplain] <;> rfl) (Calls.evalArgs_plain ?_)
  exact thn hA fun us s2 ⟨vs, H2, I2, r2, q2⟩ => hm pins s2 σ H2 x vs v us Q I2 r1 r2 q2
theorem em_count (i : Nat) {x : Str} {as : List PyData} (hu : X.A.units + 64 < cLine) (hi : ds[i]? = some (.fz (.tuple as))) (h1 : PyData.plainAll as = true) (h2 : d.plain = true) (hk : d.depth ≤ 50) (hb : Em X W ds b (· = d)) (ht : PA X [b] (tCons (uE X b) tNil) → PE X (.Name x p3) (tVar i) → PE X (.Call (.Attribute (.Name x p3) "count" p2) [b] [] pos) (tBMZ (rCntD X.K) (tVar i) (tCons (uE X b) tNil)))
    (hN : X.N[i]? = some x := by rfl) (hv : Vis X.env.scope x := by first | exact Or.inl rfl | exact Or.inr (Or.inl rfl) | exact Or.inr (Or.inr rfl)) (hd : (x == ("__debug__" : Str)) = false := by decide) (hcd : (x == ("__classdict__" : Str)) = false := by decide)
    (hs : starEach [b] X.env = (false, eval b X.env) :: starEach [] X.env := by rfl) : Em X W ds (.Call (.Attribute (.Name x p3) "count" p2) [b] [] pos) (· = .int ((as.countP fun z => PyData.eqv z d : Nat) : Int)) :=
  em_of (ht (pa_cons pe_u pa_nil hs) (pv i hN hv hd hcd)) fun σ G H ok env Q q => by
    obtain ⟨x, e, v, ev, hv, hz⟩ := env.at hi
    obtain ⟨a, ob, us, z1, z2, z3⟩ := hz
    refine ⟨v, by rw [e, ev], ⟨a, ob, us, z1, W.sub ok _ _ z2, z3⟩, hb σ G H ok env _ fun y dy G2 H2 r2 hy e => ?_⟩
    subst e
    exact ⟨y, _, as, rfl, ddp _ _ (dmono ((W.g r2).trans (W.sub (W.oks r2))) _ _ hv), ddp _ _ (dmono (W.sub (W.oks r2)) _ _ hy), h1, h2, hk, q _ _ G2 H2 r2 (.int _) rfl⟩
end
section
variable {P : Program} {w : World} {K : PySem.W.Frag} {mg : Str → Option Value} {base : Heap} {x qual : Str} {params : Arguments} {body : List Stmt} {scope : Scope} {f : Addr} {fd : FuncData} {N ps : List Str} {k : Nat}
theorem fn_BZ {L : Hp → V → Prop} {pre : List PyData → Prop} {post : List PyData → PyData → Prop} (F : FunD K x qual params body scope [] [] f fd) (S : FnScope N ps scope) (hl : ∀ as, pre as → as.length + 1 = ps.length)
    (hb : ∀ (cdv : Value) (A : Around) (outer : List Env) (s : Shared) (H : Hp) (E : XK) (G : Hp) (b : Addr) (as : List PyData), Room k (A.deeper (envOfC qual scope s.heap.objs.size f cdv)) → BagOk b G H → pre as →
      Bm (Cx0 P w K mg base N qual scope f cdv A outer s H E) (bw b) G H (sl1 N b as) body nono nono nono (rDZ L (post as))) : FnOk P w K mg base CX0 (k + 1) f fd ps (spBZ L pre post) := by
  refine F.ok S (fun vs H Q E ⟨b, us, G, as, e, ok, hd, p, _⟩ => by rw [e, List.length_cons, hd.len]; exact hl as p) fun cdv A outer s H vs Q E hr ⟨b, us, G, as, e, ok, hd, p, q⟩ => ?_
  rw [e]
  obtain ⟨t, ht, h⟩ := hb cdv A outer s H E G b as hr ok p G (start N (.ref b :: us)) G H { nx := fun _ H' => Q .non H', rt := Q } ⟨.refl _, (bw b).refl ok⟩ (env1 hd) (fun _ _ _ _ _ _ z => z.elim) (fun _ _ _ _ _ _ z => z.elim) (fun _ _ _ _ _ _ z => z.elim) fun v G2 H2 s2 ⟨d, hd2, hL, p2⟩ => q v d G2 H2 s2 hd2 hL p2
  exact ⟨t, ht.nox, h⟩
end
end Dn
namespace Dn
open PySem PySem.Spec PyProof.Rows L2
section
variable {X : Cx} {W : Wr} {G0 H0 : Hp} {ds : List Sl} {e a b c : Expr} {es : List Expr} {pos p2 p3 p4 p5 p6 : Pos} {P : PyData → Prop} {d : PyData} {N B C : NX} {r : RT} {rest body : List Stmt} {st : Stmt}
/-! ### repr, of a truth value -/
theorem call_repr_bool : CallR X (.builtin "repr") (fun xs H Q => ∃ b, xs = [.bl b] ∧ Q (.str (if b then "True" else "False")) H) := by
  intro pins s σ H xs us Q I r h
  obtain ⟨b, rfl, q⟩ := h
  obtain ⟨u, rfl, rx⟩ := vals1 r
  cases rx
  exact PySem.P.repr_of_bool ⟨.str _, H, I.tok _, ⟨_, rfl⟩, q⟩
theorem em_reprB {x : Bool} (ha : Em X W ds a (· = .bool x)) (hm : X.mg "repr" = none) (hg : Gl X "repr" := by rfl) (hs : starEach [a] X.env = (false, eval a X.env) :: starEach [] X.env := by rfl) (hpl : (backTo pos (starEach [] X.env)).any (·.1) = false := by rfl) : Em X W ds (.Call (.Name "repr" p2) [a] [] pos) (· = .str (if x then "True" else "False")) :=
  em_of (pe_callB call_repr_bool hg hm (by decide +kernel) (pa_cons pe_u pa_nil hs) (he := hs) (hpl := hpl)) fun σ G H ok env Q q => ha σ G H ok env _ fun v d G1 H1 r1 hd e => by
    subst e
    cases hd
    exact ⟨x, rfl, q _ _ G1 H1 r1 (.str _) rfl⟩
theorem tm_neS {x y : Str} (ha : Em X W ds a (· = .str x)) (hb : Em X W ds b (· = .str y)) : Tm X W ds (.Compare a [.NotEq] [b] pos) (· = !decide (x = y)) := tm_cmp op_ne (nomark _) (em_op2 ha hb fun G H u v dx dy ok hx hy px py Q q => by
  subst px
  subst py
  cases hx
  cases hy
  exact ⟨rfl, q _ _ G H (W.refl ok) (.bl _) ⟨_, rfl, by rw [dec_str]; rw [Bool.beq_eq_decide_eq]⟩⟩)
theorem tm_eqB {x y : Bool} (ha : Em X W ds a (· = .bool x)) (hb : Em X W ds b (· = .bool y)) : Tm X W ds (.Compare a [.Eq] [b] pos) (· = decide (x = y)) := tm_cmp op_eq (nomark _) (em_op2 ha hb fun G H u v dx dy ok hx hy px py Q q => by
  subst px
  subst py
  cases hx
  cases hy
  exact ⟨rfl, q _ _ G H (W.refl ok) (.bl _) ⟨_, rfl, by rw [dec_bl, Bool.beq_eq_decide_eq]⟩⟩)
/-! ### isinstance, one of two -/
theorem em_isiT {T U : String} {x y : Str} {z z' : Bool} {n : Nat} (ha : Em X W ds a (· = d)) (hm : X.mg "isinstance" = none) (hT : X.mg x = none) (hU : X.mg y = none) (hb : bootBuiltins x = some (.type T)) (hb' : bootBuiltins y = some (.type U)) (hk : kitB (tyOf d) T = some z) (hk' : kitB (tyOf d) U = some z') (hg : Gl X "isinstance" := by rfl) (hgT : Gl X x := by rfl) (hgU : Gl X y := by rfl) (hn : x ≠ "__name__" := by decide) (hn' : y ≠ "__name__" := by decide)
    (hdx : (x == ("__debug__" : Str)) = false := by decide) (hdy : (y == ("__debug__" : Str)) = false := by decide)
    (hs0 : starEach [.Name y p4] X.env = (false, eval (.Name y p4) X.env) :: starEach [] X.env := by rfl) (hs1 : starEach [.Name x p3, .Name y p4] X.env = (false, eval (.Name x p3) X.env) :: starEach [.Name y p4] X.env := by rfl)
    (hs2 : starEach [.Tuple [.Name x p3, .Name y p4] n p5] X.env = (false, eval (.Tuple [.Name x p3, .Name y p4] n p5) X.env) :: starEach [] X.env := by rfl) (hs : starEach [a, .Tuple [.Name x p3, .Name y p4] n p5] X.env = (false, eval a X.env) :: starEach [.Tuple [.Name x p3, .Name y p4] n p5] X.env := by rfl) (hpl : (backTo pos (starEach [.Tuple [.Name x p3, .Name y p4] n p5] X.env)).any (·.1) = false := by rfl) :
    Em X W ds (.Call (.Name "isinstance" p2) [a, .Tuple [.Name x p3, .Name y p4] n p5] [] pos) (· = .bool (z || z')) :=
  em_of (pe_callB call_isiT hg hm (by decide +kernel) (pa_cons pe_u (pa_cons (pe_tup (pa_cons (pe_bltn (v := .ty T) hgT hT hb rfl hn hdx) (pa_cons (pe_bltn (v := .ty U) hgU hU hb' rfl hn' hdy) pa_nil hs0) hs1)) pa_nil hs2) hs) (he := hs) (hpl := hpl)) fun σ G H ok env Q q => ha σ G H ok env _ fun v d' G1 H1 r1 hd e => by
    subst e
    refine ⟨Nat.le_of_lt (small1000 (by show 2 ≤ 1000; decide)), fun t ht => ?_⟩
    have g : G1 t = none := (W.sub (W.oks r1)).free ht
    have st : Stp G1 H1 G1 (upd H1 t (.tup [.ty T, .ty U])) := ⟨.refl _, same_upd2 (W.sub (W.oks r1)) g, same_upd ht, fun _ _ h => h⟩
    refine ⟨v, t, [.ty T, .ty U], _, [.type T, .type U], z || z', rfl, upd_same, .cons (.ty T) (.cons (.ty U) .nil), tyx (dmono st.i _ _ hd), ?_, q _ _ G1 _ (W.trans r1 (W.step (W.oks r1) st)) (.bl _) rfl⟩
    refine kitAny_cons (b := z) (kit_ty hk) (fun h => ?_) (fun h => by rw [h]; rfl)
    refine kitAny_cons (b := z') (kit_ty hk') (fun h' => ?_) (fun h' => by rw [h', Bool.or_true])
    rw [h, h']
    rfl
/-! ### an item of one's own list -/
theorem Ds.put {G : Hp} {v : V} {d : PyData} (h : Dd G v d) : ∀ (j : Nat) {vs : List V} {xs : List PyData}, Ds G vs xs → Ds G (vs.set j v) (xs.set j d)
  | _, _, _, .nil => .nil
  | 0, _, _, .cons _ t => .cons h t
  | j + 1, _, _, .cons a t => .cons a (Ds.put h j t)
theorem bm_ostore (i : Nat) {ad : Addr} {xs : List PyData} {k : Int} {j : Nat} (hi : ds[i]? = some (.own ad xs)) (he : Em X W ds e P) (hb : Em X W ds b (· = .int k)) (hj : ixN xs.length k = some j) (h0 : H0 ad = none) (hn : ∀ (j : Nat) zs, ds[j]? = some (.own ad zs) → j = i)
    (kk : ∀ d, P d → Bm X W G0 H0 (ds.set i (.own ad (xs.set j d))) rest N B C r) (ht : PS X st (tAsg (uE X e) (gSub (tVar i) (uE X b) rSetL))) : Bm X W G0 H0 ds (st :: rest) N B C r :=
  bm_st (N1 := fun ds' => ∃ d, P d ∧ ds' = ds.set i (.own ad (xs.set j d))) ht (fun Gb σ G H D s env n b c q => he σ G H s.ok env _ fun v d G2 H2 r2 hd p => by
    obtain ⟨z, e1, e2, g, sb, vs, hvs, hds⟩ := env.at hi
    refine ⟨.ref ad, by rw [e1, e2], hb σ G2 H2 (W.oks r2) (env.mono r2) _ fun u du G3 H3 r3 hu pu => ?_⟩
    subst pu
    cases hu
    obtain ⟨z, e1, e2, g3, sb, vs3, hvs3, hd3⟩ := ((env.mono r2).mono r3).at hi
    refine ⟨ad, vs3, k, j, rfl, rfl, hvs3, by rw [hd3.len]; exact hj, ?_⟩
    have R := (s.to r2).to r3
    exact n _ _ G3 _ (R.chg sb h0 g3 hvs3) (((env.mono r2).mono r3).put hi hn (Ds.put (dmono (W.g r3) _ _ hd) j hd3)) ⟨d, p, rfl⟩) fun ds' ⟨d, p, e⟩ => by
    rw [e]
    exact kk d p
/-! ### (x, y), (z, w) = e -/
theorem bm_tup22 (i j k l : Nat) {x y z w : Str} {n n1 n2 : Nat} {p7 p8 : Pos} {u1 u2 u3 u4 : PyData} (he : Em X W ds e (· = .tuple [.tuple [u1, u2], .tuple [u3, u4]])) (kk : Bm X W G0 H0 ((((ds.set i (.dat u1)).set j (.dat u2)).set k (.dat u3)).set l (.dat u4)) rest N B C r)
    (ht : PS X (.Assign [.Tuple [.Tuple [.Name x p2, .Name y p3] n1 p7, .Tuple [.Name z p4, .Name w p5] n2 p8] n p6] e pos) (tAsg (uE X e) (gTup X.K 2 (gCons (gTup X.K 2 (gCons (gName i) (gCons (gName j) gNil))) (gCons (gTup X.K 2 (gCons (gName k) (gCons (gName l) gNil))) gNil))))) :
    Bm X W G0 H0 ds (.Assign [.Tuple [.Tuple [.Name x p2, .Name y p3] n1 p7, .Tuple [.Name z p4, .Name w p5] n2 p8] n p6] e pos :: rest) N B C r :=
  bm_st (N1 := fun ds' => ds' = (((ds.set i (.dat u1)).set j (.dat u2)).set k (.dat u3)).set l (.dat u4)) ht (fun Gb σ G H D s env n b c q => he σ G H s.ok env _ fun v d G2 H2 r2 hd p => by
    subst p
    cases hd with
    | @tup ad o us _ hq hd =>
      cases hd with
      | cons h1 hd => cases hd with
        | cons h2 hd => cases hd with
          | nil =>
            cases h1 with
            | @tup a1 o1 us1 _ hq1 hd1 =>
              cases h2 with
              | @tup a2 o2 us2 _ hq2 hd2 =>
                cases hd1 with
                | cons x1 hd1 => cases hd1 with
                  | cons x2 hd1 => cases hd1 with
                    | nil => cases hd2 with
                      | cons x3 hd2 => cases hd2 with
                        | cons x4 hd2 => cases hd2 with
                          | nil =>
                            rename_i v1 v2 v3 v4
                            exact ⟨ad, [.ref a1, .ref a2], rfl, .inl (rdt (W.sub (W.oks r2) _ _ hq)), rfl, .ref a1, [.ref a2], rfl, a1, [v1, v2], rfl, .inl (rdt (W.sub (W.oks r2) _ _ hq1)), rfl, v1, [v2], rfl, v2, [], rfl, rfl, .ref a2, [], rfl, a2, [v3, v4], rfl, .inl (rdt (W.sub (W.oks r2) _ _ hq2)), rfl, v3, [v4], rfl, v4, [], rfl, rfl, rfl, n _ _ G2 H2 (s.to r2) (((((env.mono r2).set i (.dat x1)).set j (.dat x2)).set k (.dat x3)).set l (.dat x4)) rfl⟩) fun ds' e => by
    rw [e]
    exact kk
/-! ### in -/
theorem em_inD {k : Nat} {d : PyData} {xs : List PyData} (hu : X.A.units + 65 < cLine) (s : SeqAt.shaped d = true) (s' : SeqAt.shaped (.list xs) = true) (ha : Em X W ds a (· = d)) (hb : Em X W ds b (· = .list xs)) (hm : behindInMarks .In b = false := by rfl) : Em X W ds (.Compare a [.In] [b] pos) (· = .bool (xs.any fun z => PyData.eqv z d)) := em_of (pe_cmpR (op_inD hu) pe_u pe_u hm) (em_op2 ha hb fun G H u v dx dy ok hx hy px py Q q => by
  subst px
  subst py
  exact ⟨_, _, ddp _ _ (dmono (W.sub ok) _ _ hx), ddp _ _ (dmono (W.sub ok) _ _ hy), s, s', q _ _ G H (W.refl ok) (.bl _) rfl⟩)
/-! ### x = list(e), a list of one's own -/
theorem bm_setListOf (i : Nat) {x : Str} {as : List PyData} (ha : Em X W ds a (fun d => d = .list as ∨ d = .tuple as)) (hm : X.mg "list" = none) (k : ∀ ad, H0 ad = none → (∀ (j : Nat) a' xs, ds[j]? = some (.own a' xs) → ad ≠ a') → W.stb ad → Bm X W G0 H0 (ds.set i (.own ad as)) rest N B C r) (hN : X.N.Nodup) (hi : X.N[i]? = some x := by rfl) (hx : Loc X.env.scope x := by first | exact Or.inl rfl | exact Or.inr rfl)
    (hs : swapsWith (.Call (.Name "list" p3) [a] [] p4) (some (.Name x p2)) pos.line X.env = pure false := by rfl) (hf : X.fn x = true ∨ X.env.scope.names.lookup x = some .local := by first | exact .inl rfl | exact .inr rfl) (hg : Gl X "list" := by rfl) (he : starEach [a] X.env = (false, eval a X.env) :: starEach [] X.env := by rfl) (hpl : (backTo p4 (starEach [] X.env)).any (·.1) = false := by rfl) :
    Bm X W G0 H0 ds (.Assign [.Name x p2] (.Call (.Name "list" p3) [a] [] p4) pos :: rest) N B C r :=
  bm_st (N1 := fun ds' => ∃ ad, H0 ad = none ∧ (∀ (j : Nat) a' xs, ds[j]? = some (.own a' xs) → ad ≠ a') ∧ W.stb ad ∧ ds' = ds.set i (.own ad as)) (ps_set (i := i) hN hi hx (pe_callTy call_list_of hg hm (by decide +kernel) (pa_cons pe_u pa_nil he) (he := he) (hpl := hpl)) hs hf) (fun Gb σ G H D s env n b c q => ha σ G H s.ok env _ fun v d G1 H1 r1 hd e => by
    have s1 := s.to r1
    have env1 := env.mono r1
    have fin : ∀ us : List V, Ds G1 us as → ∀ p, H1 p = none → D.nx (σ.set i (some (.ref p))) (upd H1 p (.lst us)) := fun us hs p hp => by
      have g : G1 p = none := (W.sub s1.ok).free hp
      have st : Stp G1 H1 G1 (upd H1 p (.lst us)) := ⟨.refl _, same_upd2 (W.sub s1.ok) g, same_upd hp, fun _ _ h => h⟩
      have r2 := W.step s1.ok st
      have sb := W.new s1.ok hp
      refine n _ _ G1 _ (s1.to r2) ((env1.mono r2).set i (.own g sb upd_same hs)) ⟨p, s1.fresh hp, fun j a' xs h z => ?_, sb, rfl⟩
      obtain ⟨_, _, _, _, _, us', hu, _⟩ := env1.at h
      rw [← z, hp] at hu
      cases hu
    rcases e with e | e
    · subst e
      cases hd with
      | @lst _ us _ hh hs => exact ⟨_, us, rfl, .inl (.inl (.inl (W.sub (W.oks r1) _ _ hh))), fin us hs⟩
    · subst e
      cases hd with
      | @tup _ _ us _ hh hs => exact ⟨_, us, rfl, .inr (.inl (rdt (W.sub (W.oks r1) _ _ hh))), fin us hs⟩) fun ds' ⟨ad, h1, h2, h3, e⟩ => by
    rw [e]
    exact k ad h1 h2 h3
/-! ### a[lo:] where neither is known -/
theorem em_from' {lo : Expr} {Pa Pl : PyData → Prop} (ha : Em X W ds a Pa) (hl : Em X W ds lo Pl) (k : ∀ x y, Pa x → Pl y → ∃ as i, x = .list as ∧ y = .int i ∧ P (.list (cutD as (some i) none))) : Em X W ds (.Subscript a (.Slice (some lo) none none p2) pos) P := by
  refine em_of (pe_slice sl_list pe_u (po_some pe_u) po_none) fun σ G H ok env Q q => ha σ G H ok env _ fun v d G1 H1 r1 hd e => hl σ G1 H1 (W.oks r1) (env.mono r1) _ fun u du G2 H2 r2 hu pu => ?_
  obtain ⟨as, i, rfl, rfl, p⟩ := k _ _ e pu
  cases hu
  refine ⟨i, rfl, ?_⟩
  cases hd with
  | @lst _ us _ hq hs =>
    have hq2 := (W.g r2) _ _ hq
    have g2 := dmonoAll (W.g r2) _ _ hs
    refine ⟨_, us, rfl, .inl (.inl (W.sub (W.oks r2) _ _ hq2)), fun p' hp' => ?_⟩
    have st := Stp.new (o := .lst (cutV us (some i) none)) (W.sub (W.oks r2)) hp'
    exact q _ _ _ _ (W.trans (W.trans r1 r2) (W.step (W.oks r2) st)) (.lst upd_same (dmonoAll st.g _ _ (g2.cut (some i) none))) p
/-! ### a + b of lists that are not known -/
theorem em_catL' {Pa Pb : PyData → Prop} (ha : Em X W ds a Pa) (hb : Em X W ds b Pb) (k : ∀ x y, Pa x → Pb y → ∃ as bs, x = .list as ∧ y = .list bs ∧ as.length + bs.length ≤ 100000 ∧ P (.list (as ++ bs))) : Em X W ds (.BinOp a .Add b pos) P := em_of (pe_op op_cat pe_u pe_u) (em_op2 ha hb fun G H u v dx dy ok hx hy px py Q q => by
  obtain ⟨as, bs, rfl, rfl, hz, p⟩ := k dx dy px py
  cases hx with
  | @lst _ us _ h1 d1 => cases hy with
    | @lst _ ws _ h2 d2 =>
      refine ⟨_, _, us, ws, rfl, rfl, W.sub ok _ _ h1, W.sub ok _ _ h2, Nat.le_trans (by rw [d1.len, d2.len]; exact hz) (by decide : 100000 ≤ sizeLine), fun p' hp' => ?_⟩
      have st := Stp.new (o := .lst (us ++ ws)) (W.sub ok) hp'
      exact q _ _ _ _ (W.step ok st) (.lst upd_same (dmonoAll st.g _ _ (d1.app d2))) p)
theorem ixN_nat {n j : Nat} (h : j < n) : ixN n (j : Int) = some j := by
  unfold ixN
  rw [if_pos (by omega), if_pos (by omega), Int.toNat_natCast]
end
end Dn
namespace Dn
open PySem PySem.Spec PyProof.Rows L2
section
variable {X : Cx} {W : Wr} {G0 H0 : Hp} {ds : List Sl} {e a b c : Expr} {es : List Expr} {pos p2 p3 p4 p5 : Pos} {P : PyData → Prop} {d : PyData} {N B C : NX} {r : RT} {rest body orelse : List Stmt} {st : Stmt}
/-! ### for over a list, a tuple, of which only something is known -/
theorem bm_forLP {N1 : NX} (i : Nat) {x : Str} {Pa : List PyData → Prop} (ha : Em X W ds a (fun d => ∃ as, d = .list as ∧ Pa as)) (I : List PyData → Nat → List Sl → Prop) (h0 : ∀ as, Pa as → I as 0 ds) (hp : PassesOwn (model X.prog X.w) X.A X.env X.xe) (hc : X.calm = true)
    (hs : ∀ as n d ds', Pa as → as[n]? = some d → I as n ds' → Bm X W G0 H0 (ds'.set i (.dat d)) body (I as (n + 1)) N1 (I as (n + 1)) r) (hd : ∀ as ds', Pa as → I as as.length ds' → N1 ds') (k : ∀ ds', N1 ds' → Bm X W G0 H0 ds' rest N B C r) (hN : X.N.Nodup) (hi : X.N[i]? = some x := by rfl) (hx : Loc X.env.scope x := by first | exact Or.inl rfl | exact Or.inr rfl)
    (hf : X.fn x = true ∨ X.env.scope.names.lookup x = some .local := by first | exact .inl rfl | exact .inr rfl) (hs' : ∀ x, foldedSetIterable a X.env x = pure x := by intro _; rfl) : Bm X W G0 H0 ds (.For (.Name x p2) a body [] pos :: rest) N B C r :=
  bm_st (ps_for hp hc (pi_list pe_u) (pg_name (i := i) hN hi hx hf) pss_u hs') (fun Gb σ G H D s env n b cc q => ha σ G H s.ok env _ fun v d G1 H1 r1 hv ⟨as, e, pa⟩ => by
    subst e
    cases hv with
    | @lst ad us _ hq hus =>
      refine ⟨ad, rfl, ⟨us, .inl (.inl (W.sub (W.oks r1) _ _ hq))⟩, for_list (K := X.K) (xs := us) (fun n σ' H' => ∃ ds' G', At W G1 G0 H0 G' H' ∧ EnvOk W G' H' ds' σ' ∧ I as n ds') ⟨ds, G1, ⟨.refl _, (s.to r1).r⟩, env.mono r1, h0 as pa⟩ ?_ ?_ ?_⟩
      · rintro m σ' H' _ ⟨ds', G', s', _, _⟩
        exact .inl (.inl (W.sub s'.ok _ _ (s'.b _ _ hq)))
      · rintro m y σ' H' hm ⟨ds', G', s', env', hI⟩
        obtain ⟨dd, h1, h2⟩ := hus.atV hm
        exact hs as m dd ds' pa h1 hI G1 _ G' H' _ s' (env'.set i (.dat (dmono s'.b _ _ h2))) (fun ds2 σ2 G3 H3 s3 e3 p => ⟨ds2, G3, s3, e3, p⟩) (fun ds2 σ2 G3 H3 s3 e3 p => n ds2 σ2 G3 H3 ⟨(s.to r1).b.trans s3.b, s3.r⟩ e3 p) (fun ds2 σ2 G3 H3 s3 e3 p => ⟨ds2, G3, s3, e3, p⟩) q
      · rintro σ' H' ⟨ds', G', s', env', hI⟩
        exact n ds' σ' G' H' ⟨(s.to r1).b.trans s'.b, s'.r⟩ env' (hd as ds' pa (by rw [← hus.len]; exact hI))) k
theorem bm_forTP {N1 : NX} (i : Nat) {x : Str} {Pa : List PyData → Prop} (ha : Em X W ds a (fun d => ∃ as, d = .tuple as ∧ Pa as)) (I : List PyData → Nat → List Sl → Prop) (h0 : ∀ as, Pa as → I as 0 ds) (hp : PassesOwn (model X.prog X.w) X.A X.env X.xe) (hc : X.calm = true)
    (hs : ∀ as n d ds', Pa as → as[n]? = some d → I as n ds' → Bm X W G0 H0 (ds'.set i (.dat d)) body (I as (n + 1)) N1 (I as (n + 1)) r) (hd : ∀ as ds', Pa as → I as as.length ds' → N1 ds') (k : ∀ ds', N1 ds' → Bm X W G0 H0 ds' rest N B C r) (hN : X.N.Nodup) (hi : X.N[i]? = some x := by rfl) (hx : Loc X.env.scope x := by first | exact Or.inl rfl | exact Or.inr rfl)
    (hf : X.fn x = true ∨ X.env.scope.names.lookup x = some .local := by first | exact .inl rfl | exact .inr rfl) (hs' : ∀ x, foldedSetIterable a X.env x = pure x := by intro _; rfl) : Bm X W G0 H0 ds (.For (.Name x p2) a body [] pos :: rest) N B C r :=
  bm_st (ps_for hp hc (pi_tup pe_u) (pg_name (i := i) hN hi hx hf) pss_u hs') (fun Gb σ G H D s env n b cc q => ha σ G H s.ok env _ fun v d G1 H1 r1 hv ⟨as, e, pa⟩ => by
    subst e
    cases hv with
    | @tup ad _ us _ hq hus =>
      refine ⟨ad, rfl, ⟨us, .inl (rdt (W.sub (W.oks r1) _ _ hq))⟩, for_tup (K := X.K) (xs := us) (fun n σ' H' => ∃ ds' G', At W G1 G0 H0 G' H' ∧ EnvOk W G' H' ds' σ' ∧ I as n ds') ⟨ds, G1, ⟨.refl _, (s.to r1).r⟩, env.mono r1, h0 as pa⟩ ?_ ?_ ?_⟩
      · rintro m σ' H' _ ⟨ds', G', s', _, _⟩
        exact .inl (rdt (W.sub s'.ok _ _ (s'.b _ _ hq)))
      · rintro m y σ' H' hm ⟨ds', G', s', env', hI⟩
        obtain ⟨dd, h1, h2⟩ := hus.atV hm
        exact hs as m dd ds' pa h1 hI G1 _ G' H' _ s' (env'.set i (.dat (dmono s'.b _ _ h2))) (fun ds2 σ2 G3 H3 s3 e3 p => ⟨ds2, G3, s3, e3, p⟩) (fun ds2 σ2 G3 H3 s3 e3 p => n ds2 σ2 G3 H3 ⟨(s.to r1).b.trans s3.b, s3.r⟩ e3 p) (fun ds2 σ2 G3 H3 s3 e3 p => ⟨ds2, G3, s3, e3, p⟩) q
      · rintro σ' H' ⟨ds', G', s', env', hI⟩
        exact n ds' σ' G' H' ⟨(s.to r1).b.trans s'.b, s'.r⟩ env' (hd as ds' pa (by rw [← hus.len]; exact hI))) k
end
end Dn
namespace Pb
open PySem PySem.Spec PyProof.Rows L2 Dn
/-- a fraction as the program has it -/
abbrev rt (q : Rat) : PyData := .tuple [.int q.num, .int q.den]
theorem rt_inj {x y : Rat} (h : rt x = rt y) : x = y := by
  injection h with h
  injection h with h1 h2
  injection h2 with h2 _
  injection h1 with h1
  injection h2 with h2
  exact Rat.ext h1 (Int.ofNat.inj h2)
theorem mkRat_rt (n : Int) (d : Nat) (hd : 0 < d) : rt (mkRat n d) = .tuple [.int (n / (Nat.gcd n.natAbs d : Nat)), .int (d / Nat.gcd n.natAbs d : Nat)] := by
  unfold rt
  rw [Rat.num_mkRat, Rat.den_mkRat, if_neg (by omega), if_neg (by omega), Nat.gcd_comm]
/-! ### small numbers -/
def Sm (i : Int) : Prop := i.natAbs < 2 ^ 4000
structure Smq (q : Rat) : Prop where
  n : q.num.natAbs < 2 ^ 4000
  d : q.den < 2 ^ 4000
theorem Smq.d' {q : Rat} (h : Smq q) : ((q.den : Nat) : Int).natAbs < 2 ^ 4000 := h.d
theorem cm {i j : Int} (a : Sm i) (b : Sm j) : CMulW i j := wide_mul a b (by decide) (by decide) (by decide)
theorem dpos (q : Rat) : 0 < (q.den : Int) := Int.natCast_pos.mpr q.den_pos
/-! ### what the program asks of things -/
def isTupD : PyData → Bool
  | .tuple _ => true
  | _ => false
def isIntD : PyData → Bool
  | .int _ => true
  | .bool _ => true
  | _ => false
def isBoolD : PyData → Bool
  | .bool _ => true
  | _ => false
def isWholeD : PyData → Bool
  | .int _ => true
  | _ => false
def isPairD : PyData → Bool
  | .tuple [_, _] => true
  | _ => false
def isFracD : PyData → Bool
  | .tuple [.int t, .int b] => decide (1 ≤ b) && decide ((Int.gcd t b : Int) = 1)
  | _ => false
def isPartD : PyData → Bool
  | .tuple [.int t, .int b] => isFracD (.tuple [.int t, .int b]) && (decide (0 < t) && (decide (t < b) && decide (b ≤ 12)))
  | _ => false
def arePartsD : PyData → Bool
  | .tuple [.tuple [.int a, .int b], .tuple [.int c, .int d]] => isPartD (.tuple [.int a, .int b]) && (isPartD (.tuple [.int c, .int d]) && decide (b * d ≤ a * d + c * b))
  | _ => false
def isShareD : PyData → Bool
  | .tuple [.int t, .int b] => isFracD (.tuple [.int t, .int b]) && (decide (0 ≤ t) && (decide (t ≤ b) && decide (b ≤ 99999999999999999999)))
  | _ => false
def isPourD (d : PyData) : Bool := PyData.eqv d (.str "right") || PyData.eqv d (.str "left")
def isRowD : PyData → Bool
  | .tuple as => decide (as.length ≤ 40) && as.all isPourD
  | _ => false
def hd1 (f : PyData → PyData) : List PyData → PyData
  | x :: _ => f x
  | [] => .none
theorem kit_int : ∀ d : PyData, kitB (tyOf d) "int" = some (isIntD d)
  | .none => (by decide +kernel : kitB "NoneType" "int" = some false)
  | .bool _ => (by decide +kernel : kitB "bool" "int" = some true)
  | .int _ => (by decide +kernel : kitB "int" "int" = some true)
  | .str _ => (by decide +kernel : kitB "str" "int" = some false)
  | .list _ => (by decide +kernel : kitB "list" "int" = some false)
  | .tuple _ => (by decide +kernel : kitB "tuple" "int" = some false)
  | .dict _ => (by decide +kernel : kitB "dict" "int" = some false)
theorem kit_bool : ∀ d : PyData, kitB (tyOf d) "bool" = some (isBoolD d)
  | .none => (by decide +kernel : kitB "NoneType" "bool" = some false)
  | .bool _ => (by decide +kernel : kitB "bool" "bool" = some true)
  | .int _ => (by decide +kernel : kitB "int" "bool" = some false)
  | .str _ => (by decide +kernel : kitB "str" "bool" = some false)
  | .list _ => (by decide +kernel : kitB "list" "bool" = some false)
  | .tuple _ => (by decide +kernel : kitB "tuple" "bool" = some false)
  | .dict _ => (by decide +kernel : kitB "dict" "bool" = some false)
theorem kit_tuple : ∀ d : PyData, kitB (tyOf d) "tuple" = some (isTupD d)
  | .none => (by decide +kernel : kitB "NoneType" "tuple" = some false)
  | .bool _ => (by decide +kernel : kitB "bool" "tuple" = some false)
  | .int _ => (by decide +kernel : kitB "int" "tuple" = some false)
  | .str _ => (by decide +kernel : kitB "str" "tuple" = some false)
  | .list _ => (by decide +kernel : kitB "list" "tuple" = some false)
  | .tuple _ => (by decide +kernel : kitB "tuple" "tuple" = some true)
  | .dict _ => (by decide +kernel : kitB "dict" "tuple" = some false)
abbrev spF (pre : List PyData → Prop) (f : List PyData → PyData) : Sp := spP pre (fun as d => d = f as)
theorem len1 {as : List PyData} (h : as.length = 1) : ∃ x, as = [x] := match as, h with | [x], _ => ⟨x, rfl⟩
theorem len2 {as : List PyData} (h : as.length = 2) : ∃ x y, as = [x, y] := match as, h with | [x, y], _ => ⟨x, y, rfl⟩
section
variable {X : Cx} {W : Wr} {ds : List Sl} {a b : Expr} {pos : Pos}
theorem em_andB {rest : List Expr} {x y : Bool} (ha : Em X W ds a (· = .bool x)) (hb : x = true → Em X W ds (.BoolOp .And (b :: rest) pos) (· = .bool y)) : Em X W ds (.BoolOp .And (a :: b :: rest) pos) (· = .bool (x && y)) :=
  em_and ha (fun h => by rw [h]; rfl) fun h => em_is (hb h) (by rw [h]; rfl)
theorem em_orB {rest : List Expr} {x y : Bool} (ha : Em X W ds a (· = .bool x)) (hb : x = false → Em X W ds (.BoolOp .Or (b :: rest) pos) (· = .bool y)) : Em X W ds (.BoolOp .Or (a :: b :: rest) pos) (· = .bool (x || y)) :=
  em_or ha (fun h => by rw [h]; rfl) fun h => em_is (hb h) (by rw [h]; rfl)
theorem wm_orB {rest : List Expr} {x y : Bool} (ha : Tm X W ds a (· = x)) (hb : x = false → Wm X W ds (.BoolOp .Or (b :: rest) pos) (· = y)) : Wm X W ds (.BoolOp .Or (a :: b :: rest) pos) (· = (x || y)) :=
  wm_or ha (fun h => by rw [h]; rfl) fun h σ G H ok env Q q => hb h σ G H ok env Q fun z G2 H2 r e => q z G2 H2 r (by rw [e, h]; rfl)
theorem em_callF {x : Str} {k : Nat} {ps : List Str} {pre : List PyData → Prop} {g : List PyData → PyData} {as : List PyData} {d : PyData} {e : Expr} {es : List Expr} {p2 : Pos} (F : Fk X.prog X.w X.K X.mg X.base x k ps (spF pre g)) (hr : Room k X.A) (ha : Am X W ds (e :: es) (· = as)) (hp : pre as) (hd : g as = d := by rfl) (hg : Gl X x := by rfl)
    (hdb : (x == ("__debug__" : Str)) = false := by decide) (he : starEach (e :: es) X.env = (false, eval e X.env) :: starEach es X.env := by rfl) (hpl : (backTo pos (starEach es X.env)).any (·.1) = false := by rfl) : Em X W ds (.Call (.Name x p2) (e :: es) [] pos) (· = d) :=
  em_call' F hr ha (fun _ e => by rw [e]; exact ⟨hp, fun _ h => h.trans hd⟩) hg hdb he hpl
theorem tm_notB {x : Bool} (h : Tm X W ds a (· = x)) : Tm X W ds (.UnaryOp .Not a pos) (· = !x) := tm_not (tm_mono h fun _ e => by rw [e])
end
/-- the built-in names are the built-in ones -/
structure Bi (mg : Str → Option Value) : Prop where
  isi : mg "isinstance" = none
  int : mg "int" = none
  bool : mg "bool" = none
  tuple : mg "tuple" = none
  len : mg "len" = none
  abs : mg "abs" = none
  all : mg "all" = none
/-- the constants of pours -/
structure Cn (mg : Str → Option Value) : Prop where
  r : ∃ t, mg "RIGHT" = some (.str "right" t)
  l : ∃ t, mg "LEFT" = some (.str "left" t)
  m : ∃ t, mg "MOST_POURS" = some (.int 40 t)
  p : ∃ t, mg "MOST_PART_BOTTOM" = some (.int 12 t)
  s : ∃ t, mg "MOST_SHARE_BOTTOM" = some (.int 99999999999999999999 t)
theorem boot_int : bootBuiltins "int" = some (.type "int") := by decide +kernel
theorem boot_bool : bootBuiltins "bool" = some (.type "bool") := by decide +kernel
theorem boot_tuple : bootBuiltins "tuple" = some (.type "tuple") := by decide +kernel
abbrev FnP (K : PySem.W.Frag) (x : Str) (st : Stmt) (f : Addr) (fd : FuncData) : Prop := FunD K x x (defArgs st) (defBody st) (defScope st) [] [] f fd
end Pb
namespace Pb
open PySem PySem.Spec PyProof.Rows L2 Dn
/-! ### fractions as rationals -/
theorem nd (q : Rat) : (q.num : Rat) = q * (q.den : Rat) := by
  have h : (q.den : Rat) ≠ 0 := by
    intro z
    exact q.den_nz (Rat.natCast_eq_zero_iff.mp z)
  have e : (q.num : Rat) / (q.den : Rat) = q := by
    rw [← Rat.mkRat_eq_div, Rat.mkRat_self]
  rw [← Rat.div_mul_cancel (a := (q.num : Rat)) h, e]
theorem dn (q : Rat) : (q.den : Rat) ≠ 0 := fun z => q.den_nz (Rat.natCast_eq_zero_iff.mp z)
theorem mk_div (n : Int) (d : Nat) : mkRat n d = (n : Rat) / (d : Rat) := Rat.mkRat_eq_div n d
theorem mk_right (s p : Rat) : mkRat (s.num * ((p.den : Int) - p.num)) (s.den * p.den) = s * (1 - p) := by
  rw [mk_div]
  have h1 := nd s
  have h2 := nd p
  have h3 := dn s
  have h4 := dn p
  rw [Rat.intCast_mul, Rat.intCast_sub, Rat.natCast_mul, Rat.intCast_natCast]
  grind
theorem mk_left (s q : Rat) : mkRat (s.num * (q.den : Int) + ((s.den : Int) - s.num) * q.num) (s.den * q.den) = s + (1 - s) * q := by
  rw [mk_div]
  have h1 := nd s
  have h2 := nd q
  have h3 := dn s
  have h4 := dn q
  rw [Rat.intCast_add, Rat.intCast_mul, Rat.intCast_mul, Rat.intCast_sub, Rat.natCast_mul, Rat.intCast_natCast, Rat.intCast_natCast]
  grind
theorem le_one {q : Rat} (h : q ≤ 1) : q.num ≤ q.den := by
  have := (Rat.le_iff q 1).mp h
  simpa using this
theorem lt_one {q : Rat} (h : q < 1) : q.num < q.den := by
  have := (Rat.lt_iff q 1).mp h
  simpa using this
theorem nn {q : Rat} (h : 0 ≤ q) : 0 ≤ q.num := Rat.num_nonneg.mpr h
theorem pp {q : Rat} (h : 0 < q) : 0 < q.num := by
  have := (Rat.lt_iff 0 q).mp h
  simpa using this
/-- parts as the document has them -/
structure Parts (p q : Rat) : Prop where
  p0 : 0 < p
  p1 : p < 1
  pd : p.den ≤ 12
  q0 : 0 < q
  q1 : q < 1
  qd : q.den ≤ 12
  ge : 1 ≤ p + q
structure Share (s : Rat) : Prop where
  s0 : 0 ≤ s
  s1 : s ≤ 1
  sd : s.den ≤ 99999999999999999999
theorem gcd_rt (q : Rat) : (Int.gcd q.num q.den : Int) = 1 := by
  have h : Nat.gcd q.num.natAbs q.den = 1 := q.reduced
  show ((Nat.gcd q.num.natAbs (q.den : Int).natAbs : Nat) : Int) = 1
  rw [Int.natAbs_natCast, h]
  rfl
theorem frac_rt (q : Rat) : isFracD (rt q) = true := by
  show (decide (1 ≤ (q.den : Int)) && decide ((Int.gcd q.num q.den : Int) = 1)) = true
  rw [decide_eq_true (gcd_rt q), decide_eq_true (by have := q.den_pos; omega)]
  rfl
theorem part_rt {p : Rat} (h0 : 0 < p) (h1 : p < 1) (hd : p.den ≤ 12) : isPartD (rt p) = true := by
  show (isFracD (rt p) && (decide (0 < p.num) && (decide (p.num < (p.den : Int)) && decide ((p.den : Int) ≤ 12)))) = true
  rw [frac_rt, decide_eq_true (pp h0), decide_eq_true (lt_one h1), decide_eq_true (by omega : (p.den : Int) ≤ 12)]
  rfl
theorem parts_rt {p q : Rat} (h : Parts p q) : arePartsD (.tuple [rt p, rt q]) = true := by
  show (isPartD (rt p) && (isPartD (rt q) && decide ((p.den : Int) * q.den ≤ p.num * q.den + q.num * p.den))) = true
  rw [part_rt h.p0 h.p1 h.pd, part_rt h.q0 h.q1 h.qd]
  have e := h.ge
  have h1 := nd p
  have h2 := nd q
  have z : ((p.den : Int) * q.den : Int) ≤ p.num * q.den + q.num * p.den := by
    rw [← Rat.intCast_le_intCast, Rat.intCast_add, Rat.intCast_mul, Rat.intCast_mul, Rat.intCast_mul, Rat.intCast_natCast, Rat.intCast_natCast, h1, h2]
    have a : (0 : Rat) ≤ (p.den : Rat) * (q.den : Rat) := Rat.mul_nonneg Rat.natCast_nonneg Rat.natCast_nonneg
    have b := Rat.mul_le_mul_of_nonneg_right e a
    grind
  rw [decide_eq_true z]
  rfl
theorem share_rt {s : Rat} (h : Share s) : isShareD (rt s) = true := by
  show (isFracD (rt s) && (decide (0 ≤ s.num) && (decide (s.num ≤ (s.den : Int)) && decide ((s.den : Int) ≤ 99999999999999999999)))) = true
  rw [frac_rt, decide_eq_true (nn h.s0), decide_eq_true (le_one h.s1), decide_eq_true (by have := h.sd; omega : (s.den : Int) ≤ 99999999999999999999)]
  rfl
/-! ### pours -/
inductive Pour where
  | right | left
  deriving DecidableEq
abbrev Pour.d : Pour → PyData
  | .right => .str "right"
  | .left => .str "left"
abbrev rowD (r : List Pour) : PyData := .tuple (r.map Pour.d)
theorem pour_eqv_r (x : Pour) : PyData.eqv x.d (.str "right") = decide (x = .right) := by cases x <;> decide +kernel
theorem pour_eqv_l (x : Pour) : PyData.eqv x.d (.str "left") = decide (x = .left) := by cases x <;> decide +kernel
theorem isPour_d (x : Pour) : isPourD x.d = true := by
  unfold isPourD
  rw [pour_eqv_r, pour_eqv_l]
  cases x <;> rfl
theorem row_rt {r : List Pour} (h : r.length ≤ 40) : isRowD (rowD r) = true := by
  show (decide ((r.map Pour.d).length ≤ 40) && (r.map Pour.d).all isPourD) = true
  rw [List.length_map, decide_eq_true h, List.all_map, show r.all (isPourD ∘ Pour.d) = true from List.all_eq_true.mpr fun x _ => isPour_d x]
  rfl
theorem shaped_pour (x : Pour) : SeqAt.shaped x.d = true := by cases x <;> decide +kernel
/-- one pour, a row -/
def pour1 (p q s : Rat) : Pour → Rat
  | .right => s * (1 - p)
  | .left => s + (1 - s) * q
def pours (p q : Rat) : Rat → List Pour → Rat
  | s, [] => s
  | s, x :: r => pours p q (pour1 p q s x) r
/-! ### bounds -/
theorem den_mk (n : Int) (d : Nat) (h : 0 < d) : (mkRat n d).den ≤ d := by
  rw [Rat.den_mkRat, if_neg (by omega)]
  exact Nat.div_le_self _ _
/-- from 0 to 1, bottom at most b -/
structure Bq (b : Nat) (s : Rat) : Prop where
  s0 : 0 ≤ s
  s1 : s ≤ 1
  sd : s.den ≤ b
theorem Bq.smq {b : Nat} {s : Rat} (h : Bq b s) (hb : b < 2 ^ 4000) : Smq s := by
  have h1 := nn h.s0
  have h2 := le_one h.s1
  have h3 := h.sd
  exact ⟨by omega, by omega⟩
theorem Bq.mono {b c : Nat} {s : Rat} (h : Bq b s) (hb : b ≤ c) : Bq c s := ⟨h.s0, h.s1, Nat.le_trans h.sd hb⟩
theorem Share.bq {s : Rat} (h : Share s) : Bq (10 ^ 20) s := ⟨h.s0, h.s1, Nat.le_trans h.sd (by decide)⟩
theorem Parts.sp {p q : Rat} (h : Parts p q) : Smq p := (Bq.mk (b := 12) (Rat.le_of_lt h.p0) (Rat.le_of_lt h.p1) h.pd).smq (by exact Nat.lt_of_lt_of_le (by decide : 12 < 2 ^ 4) (Nat.pow_le_pow_right (by decide) (by decide)))
theorem Parts.sq {p q : Rat} (h : Parts p q) : Smq q := (Bq.mk (b := 12) (Rat.le_of_lt h.q0) (Rat.le_of_lt h.q1) h.qd).smq (by exact Nat.lt_of_lt_of_le (by decide : 12 < 2 ^ 4) (Nat.pow_le_pow_right (by decide) (by decide)))
theorem m01 {a b : Rat} (a0 : 0 ≤ a) (a1 : a ≤ 1) (b0 : 0 ≤ b) (b1 : b ≤ 1) : 0 ≤ a * b ∧ a * b ≤ a := by
  refine ⟨Rat.mul_nonneg a0 b0, ?_⟩
  have h := Rat.mul_le_mul_of_nonneg_left b1 a0
  rwa [Rat.mul_one] at h
theorem Bq.pour {b : Nat} {p q s : Rat} (h : Bq b s) (hp : Parts p q) (x : Pour) : Bq (b * 12) (pour1 p q s x) := by
  cases x with
  | right =>
    show Bq (b * 12) (s * (1 - p))
    have p1 := Rat.le_of_lt hp.p1
    have p0 := Rat.le_of_lt hp.p0
    obtain ⟨h1, h2⟩ := m01 h.s0 h.s1 (b := 1 - p) (by grind) (by grind)
    refine ⟨h1, Rat.le_trans h2 h.s1, ?_⟩
    rw [← mk_right]
    exact Nat.le_trans (den_mk _ _ (Nat.mul_pos s.den_pos p.den_pos)) (Nat.mul_le_mul h.sd hp.pd)
  | left =>
    show Bq (b * 12) (s + (1 - s) * q)
    have q1 := Rat.le_of_lt hp.q1
    have q0 := Rat.le_of_lt hp.q0
    have s0 := h.s0
    have s1 := h.s1
    obtain ⟨h1, h2⟩ := m01 (a := 1 - s) (b := q) (by grind) (by grind) q0 q1
    refine ⟨by grind, by grind, ?_⟩
    rw [← mk_left]
    exact Nat.le_trans (den_mk _ _ (Nat.mul_pos s.den_pos q.den_pos)) (Nat.mul_le_mul h.sd hp.qd)
theorem Bq.pours {p q : Rat} (hp : Parts p q) : ∀ (r : List Pour) {b : Nat} {s : Rat}, Bq b s → Bq (b * 12 ^ r.length) (Pb.pours p q s r)
  | [], b, s, h => by
    show Bq (b * 1) s
    rw [Nat.mul_one]
    exact h
  | x :: r, b, s, h => by
    have e : b * 12 ^ (x :: r).length = b * 12 * 12 ^ r.length := by
      rw [List.length_cons, Nat.pow_succ, Nat.mul_assoc, Nat.mul_comm 12]
    rw [e]
    exact Bq.pours hp r (h.pour hp x)
theorem big {n : Nat} (h : n ≤ 100) : 10 ^ 20 * 12 ^ n < 2 ^ 4000 := by
  have a : 10 ^ 20 < 2 ^ 67 := by decide
  have b : 12 ^ n ≤ 2 ^ (4 * 100) := by
    rw [Nat.pow_mul]
    exact Nat.le_trans (Nat.pow_le_pow_left (by decide : 12 ≤ 2 ^ 4) n) (Nat.pow_le_pow_right (by decide) h)
  have c : 10 ^ 20 * 12 ^ n < 2 ^ 67 * 2 ^ (4 * 100) := Nat.mul_lt_mul_of_lt_of_le a b (Nat.pow_pos (by decide))
  rw [← Nat.pow_add] at c
  exact Nat.lt_of_lt_of_le c (Nat.pow_le_pow_right (by decide) (by decide))
theorem pours_take {p q s : Rat} {r : List Pour} {n : Nat} {x : Pour} (h : r[n]? = some x) : pours p q s (r.take (n + 1)) = pour1 p q (pours p q s (r.take n)) x := by
  induction r generalizing s n with
  | nil => simp at h
  | cons y r ih =>
    cases n with
    | zero =>
      cases h
      rfl
    | succ n => exact ih (s := pour1 p q s y) h
theorem Share.tk {p q s : Rat} (hp : Parts p q) (hs : Share s) {r : List Pour} (hr : r.length ≤ 40) (n : Nat) : Bq (10 ^ 20 * 12 ^ 40) (Pb.pours p q s (r.take n)) := by
  have h := hs.bq.pours hp (r.take n)
  refine h.mono (Nat.mul_le_mul_left _ (Nat.pow_le_pow_right (by decide) ?_))
  rw [List.length_take]
  omega
theorem row_at {r : List Pour} {n : Nat} {d : PyData} (h : (r.map Pour.d)[n]? = some d) : ∃ x, r[n]? = some x ∧ d = x.d := by
  rw [List.getElem?_map] at h
  cases e : r[n]? with
  | none =>
    rw [e] at h
    cases h
  | some x =>
    rw [e] at h
    cases h
    exact ⟨x, rfl, rfl⟩
/-! ### the law's own reckoning -/
theorem mk_add (x y : Rat) : mkRat (x.num * (y.den : Int) + y.num * (x.den : Int)) (x.den * y.den) = x + y := (Rat.add_def' x y).symm
theorem mk_sub (x y : Rat) : mkRat (x.num * (y.den : Int) - y.num * (x.den : Int)) (x.den * y.den) = x - y := (Rat.sub_def' x y).symm
theorem mk_mul (x y : Rat) : mkRat (x.num * y.num) (x.den * y.den) = x * y := (Rat.mul_def' x y).symm
theorem Bq.one_sub {b : Nat} {s : Rat} (h : Bq b s) : Bq b (1 - s) := by
  have s0 := h.s0
  have s1 := h.s1
  refine ⟨by grind, by grind, ?_⟩
  rw [← mk_sub]
  have e : (1 : Rat).den * s.den = s.den := by simp
  rw [e]
  exact Nat.le_trans (den_mk _ _ s.den_pos) h.sd
theorem Bq.times {b c : Nat} {s p : Rat} (h : Bq b s) (hp : Bq c p) : Bq (b * c) (s * p) := by
  obtain ⟨h1, h2⟩ := m01 h.s0 h.s1 hp.s0 hp.s1
  refine ⟨h1, Rat.le_trans h2 h.s1, ?_⟩
  rw [← mk_mul]
  exact Nat.le_trans (den_mk _ _ (Nat.mul_pos s.den_pos p.den_pos)) (Nat.mul_le_mul h.sd hp.sd)
theorem Parts.bp {p q : Rat} (h : Parts p q) : Bq 12 p := ⟨Rat.le_of_lt h.p0, Rat.le_of_lt h.p1, h.pd⟩
theorem Parts.bq {p q : Rat} (h : Parts p q) : Bq 12 q := ⟨Rat.le_of_lt h.q0, Rat.le_of_lt h.q1, h.qd⟩
theorem mk_pos {t : Int} {b : Nat} (h : 0 < t) (hb : 0 < b) : 0 < mkRat t b := by
  have hb' : (0 : Rat) < (b : Rat) := Rat.natCast_pos.mpr hb
  rw [mk_div, Rat.lt_div_iff hb', Rat.zero_mul]
  exact Rat.intCast_pos.mpr h
theorem mk_nn {t : Int} {b : Nat} (h : 0 ≤ t) (hb : 0 < b) : 0 ≤ mkRat t b := by
  rcases Int.lt_or_eq_of_le h with h | h
  · exact Rat.le_of_lt (mk_pos h hb)
  · rw [← h, Rat.zero_mkRat]
    exact Rat.le_refl
theorem mk_lt1 {t : Int} {b : Nat} (h : t < b) (hb : 0 < b) : mkRat t b < 1 := by
  have hb' : (0 : Rat) < (b : Rat) := Rat.natCast_pos.mpr hb
  rw [mk_div, Rat.div_lt_iff hb', Rat.one_mul, ← Rat.intCast_natCast]
  exact Rat.intCast_lt_intCast.mpr h
theorem mk_le1 {t : Int} {b : Nat} (h : t ≤ b) (hb : 0 < b) : mkRat t b ≤ 1 := by
  rcases Int.lt_or_eq_of_le h with h | h
  · exact Rat.le_of_lt (mk_lt1 h hb)
  · rw [h, mk_div, Rat.intCast_natCast]
    have hb' : (b : Rat) ≠ 0 := fun z => by
      have := Rat.natCast_eq_zero_iff.mp z
      omega
    have e : (b : Rat) / (b : Rat) = 1 := by
      rw [Rat.div_def, Rat.mul_inv_cancel _ hb']
    rw [e]
    exact Rat.le_refl
/-- one of two parts -/
structure Part (p : Rat) : Prop where
  p0 : 0 < p
  p1 : p < 1
  pd : p.den ≤ 12
theorem Part.bq {p : Rat} (h : Part p) : Bq 12 p := ⟨Rat.le_of_lt h.p0, Rat.le_of_lt h.p1, h.pd⟩
theorem Part.sm {p : Rat} (h : Part p) : Smq p := h.bq.smq (Nat.lt_of_lt_of_le (by decide : 12 < 2 ^ 4) (Nat.pow_le_pow_right (by decide) (by decide)))
theorem Part.co {p : Rat} (h : Part p) : Part (1 - p) := by
  have a := h.p0
  have b := h.p1
  exact ⟨by grind, by grind, h.bq.one_sub.sd⟩
theorem Parts.of {p q : Rat} (a : Part p) (b : Part q) (h : 1 ≤ p + q) : Parts p q := ⟨a.p0, a.p1, a.pd, b.p0, b.p1, b.pd, h⟩
theorem sm1 : Smq 1 := ⟨by show (1 : Int).natAbs < _; exact Nat.lt_of_lt_of_le (by decide : 1 < 2 ^ 1) (Nat.pow_le_pow_right (by decide) (by decide)), by show 1 < _; exact Nat.lt_of_lt_of_le (by decide : 1 < 2 ^ 1) (Nat.pow_le_pow_right (by decide) (by decide))⟩
end Pb
namespace Pb
open PySem PySem.Spec PyProof.Rows L2 Dn
def topS (i : Nat) : Stmt := PySem.Challenge.pw_pourback_k01_parts_shares_rows_known.main.body.getD i (.Pass ⟨0, 0, 0, 0⟩)
abbrev s_is_whole : Stmt := topS 1
theorem sc_is_whole : FnScope ["thing"] ["thing"] (defScope s_is_whole) := ⟨rfl, rfl, rfl, by decide +kernel, rfl, by decide +kernel, by decide +kernel⟩
abbrev s_common_divisor : Stmt := topS 2
theorem sc_common_divisor : FnScope ["one", "other"] ["one", "other"] (defScope s_common_divisor) := ⟨rfl, rfl, rfl, by decide +kernel, rfl, by decide +kernel, by decide +kernel⟩
abbrev s_is_pair : Stmt := topS 3
theorem sc_is_pair : FnScope ["thing"] ["thing"] (defScope s_is_pair) := ⟨rfl, rfl, rfl, by decide +kernel, rfl, by decide +kernel, by decide +kernel⟩
abbrev s_is_fraction : Stmt := topS 4
theorem sc_is_fraction : FnScope ["thing", "top", "bottom"] ["thing"] (defScope s_is_fraction) := ⟨rfl, rfl, rfl, by decide +kernel, rfl, by decide +kernel, by decide +kernel⟩
abbrev s_is_part : Stmt := topS 11
theorem sc_is_part : FnScope ["thing", "top", "bottom"] ["thing"] (defScope s_is_part) := ⟨rfl, rfl, rfl, by decide +kernel, rfl, by decide +kernel, by decide +kernel⟩
abbrev s_are_parts : Stmt := topS 12
theorem sc_are_parts : FnScope ["thing", "p", "q", "p_top", "p_bottom", "q_top", "q_bottom"] ["thing"] (defScope s_are_parts) := ⟨rfl, rfl, rfl, by decide +kernel, rfl, by decide +kernel, by decide +kernel⟩
abbrev s_is_share : Stmt := topS 13
theorem sc_is_share : FnScope ["thing", "top", "bottom"] ["thing"] (defScope s_is_share) := ⟨rfl, rfl, rfl, by decide +kernel, rfl, by decide +kernel, by decide +kernel⟩
abbrev s_is_pour : Stmt := topS 14
theorem sc_is_pour : FnScope ["thing"] ["thing"] (defScope s_is_pour) := ⟨rfl, rfl, rfl, by decide +kernel, rfl, by decide +kernel, by decide +kernel⟩
abbrev s_is_row : Stmt := topS 15
theorem sc_is_row : FnScope ["thing", "pour"] ["thing"] (defScope s_is_row) := ⟨rfl, rfl, rfl, by decide +kernel, rfl, by decide +kernel, by decide +kernel⟩
abbrev s__law_cell_at : Stmt := topS 17
theorem sc__law_cell_at : FnScope ["script", "k"] ["script", "k"] (defScope s__law_cell_at) := ⟨rfl, rfl, rfl, by decide +kernel, rfl, by decide +kernel, by decide +kernel⟩
abbrev s__law_draws : Stmt := topS 18
theorem sc__law_draws : FnScope ["cell", "many", "size", "found", "rest", "stirred", "k"] ["cell", "many", "size"] (defScope s__law_draws) := ⟨rfl, rfl, rfl, by decide +kernel, rfl, by decide +kernel, by decide +kernel⟩
abbrev s__law_spoilt : Stmt := topS 19
theorem sc__law_spoilt : FnScope ["thing", "picks", "pieces", "at", "turn_by"] ["thing", "picks"] (defScope s__law_spoilt) := ⟨rfl, rfl, rfl, by decide +kernel, rfl, by decide +kernel, by decide +kernel⟩
abbrev s__law_from : Stmt := topS 20
theorem sc__law_from : FnScope ["thing", "least", "top"] ["thing", "least", "top"] (defScope s__law_from) := ⟨rfl, rfl, rfl, by decide +kernel, rfl, by decide +kernel, by decide +kernel⟩
abbrev s__law_bag : Stmt := topS 21
theorem sc__law_bag : FnScope ["script", "k"] ["script", "k"] (defScope s__law_bag) := ⟨rfl, rfl, rfl, by decide +kernel, rfl, by decide +kernel, by decide +kernel⟩
abbrev s__law_bags : Stmt := topS 22
theorem sc__law_bags : FnScope ["script", "limit", "k"] ["script", "limit"] (defScope s__law_bags) := ⟨rfl, rfl, rfl, by decide +kernel, rfl, by decide +kernel, by decide +kernel⟩
abbrev s__law_take : Stmt := topS 23
theorem sc__law_take : FnScope ["bag", "many"] ["bag", "many"] (defScope s__law_take) := ⟨rfl, rfl, rfl, by decide +kernel, rfl, by decide +kernel, by decide +kernel⟩
abbrev s__law_far_draw : Stmt := topS 24
theorem sc__law_far_draw : FnScope ["bag", "many", "found", "much"] ["bag", "many"] (defScope s__law_far_draw) := ⟨rfl, rfl, rfl, by decide +kernel, rfl, by decide +kernel, by decide +kernel⟩
abbrev s__law_common : Stmt := topS 25
theorem sc__law_common : FnScope ["one", "other"] ["one", "other"] (defScope s__law_common) := ⟨rfl, rfl, rfl, by decide +kernel, rfl, by decide +kernel, by decide +kernel⟩
abbrev s__law_odd : Stmt := topS 26
theorem sc__law_odd : FnScope ["picks", "odd"] ["picks"] (defScope s__law_odd) := ⟨rfl, rfl, rfl, by decide +kernel, rfl, by decide +kernel, by decide +kernel⟩
abbrev s__law_made : Stmt := topS 27
theorem sc__law_made : FnScope ["top", "bottom", "measure"] ["top", "bottom"] (defScope s__law_made) := ⟨rfl, rfl, rfl, by decide +kernel, rfl, by decide +kernel, by decide +kernel⟩
abbrev s__law_plus : Stmt := topS 28
theorem sc__law_plus : FnScope ["one", "other"] ["one", "other"] (defScope s__law_plus) := ⟨rfl, rfl, rfl, by decide +kernel, rfl, by decide +kernel, by decide +kernel⟩
abbrev s__law_minus : Stmt := topS 29
theorem sc__law_minus : FnScope ["one", "other"] ["one", "other"] (defScope s__law_minus) := ⟨rfl, rfl, rfl, by decide +kernel, rfl, by decide +kernel, by decide +kernel⟩
abbrev s__law_below : Stmt := topS 30
theorem sc__law_below : FnScope ["one", "other"] ["one", "other"] (defScope s__law_below) := ⟨rfl, rfl, rfl, by decide +kernel, rfl, by decide +kernel, by decide +kernel⟩
abbrev s__law_a_part : Stmt := topS 31
theorem sc__law_a_part : FnScope ["bag", "bottom"] ["bag"] (defScope s__law_a_part) := ⟨rfl, rfl, rfl, by decide +kernel, rfl, by decide +kernel, by decide +kernel⟩
abbrev s__law_two_parts : Stmt := topS 32
theorem sc__law_two_parts : FnScope ["bag", "one", "other"] ["bag"] (defScope s__law_two_parts) := ⟨rfl, rfl, rfl, by decide +kernel, rfl, by decide +kernel, by decide +kernel⟩
abbrev s__law_a_share : Stmt := topS 33
theorem sc__law_a_share : FnScope ["bag", "bottom"] ["bag"] (defScope s__law_a_share) := ⟨rfl, rfl, rfl, by decide +kernel, rfl, by decide +kernel, by decide +kernel⟩
abbrev s__law_a_row : Stmt := topS 34
theorem sc__law_a_row : FnScope ["bag", "most", "turn"] ["bag", "most"] (defScope s__law_a_row) := ⟨rfl, rfl, rfl, by decide +kernel, rfl, by decide +kernel, by decide +kernel⟩
abbrev s__law_drawn : Stmt := topS 35
theorem sc__law_drawn : FnScope ["bag", "most", "parts", "share"] ["bag", "most"] (defScope s__law_drawn) := ⟨rfl, rfl, rfl, by decide +kernel, rfl, by decide +kernel, by decide +kernel⟩
abbrev s__law_is_share : Stmt := topS 36
theorem sc__law_is_share : FnScope ["thing"] ["thing"] (defScope s__law_is_share) := ⟨rfl, rfl, rfl, by decide +kernel, rfl, by decide +kernel, by decide +kernel⟩
abbrev s__law_are_parts : Stmt := topS 37
theorem sc__law_are_parts : FnScope ["thing", "top", "bottom", "other", "under", "one"] ["thing"] (defScope s__law_are_parts) := ⟨rfl, rfl, rfl, by decide +kernel, rfl, by decide +kernel, by decide +kernel⟩
abbrev s__law_is_row : Stmt := topS 38
theorem sc__law_is_row : FnScope ["thing", "pour"] ["thing"] (defScope s__law_is_row) := ⟨rfl, rfl, rfl, by decide +kernel, rfl, by decide +kernel, by decide +kernel⟩
abbrev s_law : Stmt := topS 39
theorem sc_law : FnScope ["script", "bag", "parts", "share", "row", "things", "thing", "once", "some", "one"] ["script"] (defScope s_law) := ⟨rfl, rfl, rfl, by decide +kernel, rfl, by decide +kernel, by decide +kernel⟩
end Pb
namespace Pb
open PySem PySem.Spec PyProof.Rows L2 Dn
section
variable {P : Program} {w : World} {K : PySem.W.Frag} {mg : Str → Option Value} {base : Heap} {f : Addr} {fd : FuncData}
abbrev sp_is_whole : Sp := spF (fun as => as.length = 1) (hd1 fun x => .bool (isWholeD x))
theorem ok_is_whole (F : FnP K "is_whole" s_is_whole f fd) (B : Bi mg) : FnOk P w K mg base CX0 1 f fd ["thing"] sp_is_whole := by
  refine fn_P F sc_is_whole (fun as h => h) fun cdv A outer s H E G as hr sm hp => ?_
  obtain ⟨x, rfl⟩ := len1 hp
  refine bm_ret (em_andB (em_isi (em_var 0 rfl) B.isi B.int boot_int (kit_int x)) fun _ => em_one (em_not (em_isi (em_var 0 rfl) B.isi B.bool boot_bool (kit_bool x)))) fun v d G H hd e => ⟨d, hd, ?_⟩
  rw [e]
  cases x <;> rfl
abbrev sp_gcd : Sp := spF (fun as => ∃ m n : Nat, as = [.int m, .int n]) fun as => match as with | [.int m, .int n] => .int (Int.gcd m n) | _ => .none
theorem ok_common_divisor (F : FnP K "common_divisor" s_common_divisor f fd) : FnOk P w K mg base CX0 1 f fd ["one", "other"] sp_gcd := by
  refine fn_P F sc_common_divisor (fun as ⟨m, n, e⟩ => by rw [e]; rfl) fun cdv A outer s H E G as hr sm ⟨m, n, e⟩ => ?_
  subst e
  refine bm_while (N1 := fun ds' => ds' = [.dat (.int (Nat.gcd m n : Nat)), .dat (.int 0)]) (fun k ds' => ∃ p q : Nat, ds' = [.dat (.int p), .dat (.int q)] ∧ k = q ∧ Nat.gcd p q = Nat.gcd m n) n ⟨m, n, rfl, rfl, rfl⟩ PassesOwn.never (fun k ds' ⟨p, q, e, ek, eg⟩ => ?_) (fun ds' e => ?_)
  · subst e
    refine ⟨_, tm_gt (em_var 1 rfl) em_int, fun hx => ?_, fun hx => ?_⟩
    · have hq : 0 < (q : Int) := of_decide_eq_true hx
      refine bm_par 0 1 (am_cons (em_var 1 rfl) (am_cons (em_mod hq (em_var 0 rfl) (em_var 1 rfl)) am_nil)) (fun as e => ⟨_, _, e, bm_nil ⟨p % q, by rw [ek]; exact Nat.mod_lt _ (by omega), q, p % q, rfl, rfl, ?_⟩⟩) rfl sc_common_divisor.nd
      rw [Nat.gcd_comm, ← Nat.gcd_rec, Nat.gcd_comm]
      exact eg
    · have hq : ¬ 0 < (q : Int) := of_decide_eq_false hx
      have : q = 0 := by omega
      subst this
      rw [Nat.gcd_zero_right] at eg
      rw [eg]
      rfl
  · subst e
    exact bm_ret (em_var 0 rfl) fun v d G H hd e => ⟨d, hd, e⟩
abbrev sp_lowest : Sp := spF (fun as => ∃ m n : Nat, as = [.int m, .int n] ∧ 0 < n ∧ n < 2 ^ 8010) fun as => match as with | [.int m, .int n] => rt (mkRat m n.toNat) | _ => .none
abbrev sp_is_pair : Sp := spF (fun as => as.length = 1) (hd1 fun x => .bool (isPairD x))
theorem ok_is_pair (F : FnP K "is_pair" s_is_pair f fd) (B : Bi mg) : FnOk P w K mg base CX0 1 f fd ["thing"] sp_is_pair := by
  refine fn_P F sc_is_pair (fun as h => h) fun cdv A outer s H E G as hr sm hp => ?_
  obtain ⟨x, rfl⟩ := len1 hp
  cases x with
  | tuple xs =>
    refine bm_ret (em_andB (em_isi (em_var 0 rfl) B.isi B.tuple boot_tuple (kit_tuple _)) fun _ => em_one (em_eqI (em_len (as := xs) (em_mono (em_var 0 rfl) fun _ e => .inr e) B.len) em_int)) fun v d G H hd e => ⟨d, hd, ?_⟩
    rw [e]
    show PyData.bool (true && decide ((xs.length : Int) = 2)) = .bool (isPairD (.tuple xs))
    match xs with
    | [] => rfl
    | [_] => rfl
    | [_, _] => rfl
    | a :: b :: c :: r =>
      show PyData.bool (true && decide (((a :: b :: c :: r).length : Int) = 2)) = .bool false
      rw [decide_eq_false (by simp only [List.length_cons]; omega)]
      rfl
  | _ =>
    refine bm_ret (em_andB (y := false) (em_isi (em_var 0 rfl) B.isi B.tuple boot_tuple (kit_tuple _)) fun h => nomatch h) fun v d G H hd e => ⟨d, hd, ?_⟩
    rw [e]
    rfl
abbrev sp_is_fraction : Sp := spF (fun as => as.length = 1) (hd1 fun x => .bool (isFracD x))
theorem ok_is_fraction (F : FnP K "is_fraction" s_is_fraction f fd) (B : Bi mg) (Fp : Fk P w K mg base "is_pair" 1 ["thing"] sp_is_pair) (Fw : Fk P w K mg base "is_whole" 1 ["thing"] sp_is_whole) (Fg : Fk P w K mg base "common_divisor" 1 ["one", "other"] sp_gcd) :
    FnOk P w K mg base CX0 2 f fd ["thing"] sp_is_fraction := by
  refine fn_P F sc_is_fraction (fun as h => h) fun cdv A outer s H E G as hr sm hp => ?_
  obtain ⟨x, rfl⟩ := len1 hp
  refine bm_ifR (tm_notB (tm_val (em_callF (d := .bool (isPairD x)) Fp hr (am_cons (em_var 0 rfl) am_nil) rfl))) (fun h => bm_ret em_bl fun v d G H hd e => ⟨d, hd, ?_⟩) fun h => ?_
  · rw [e]
    show PyData.bool false = .bool (isFracD x)
    have h : isPairD x = false := by simpa using h
    unfold isFracD
    split
    · cases h
    · rfl
  have h : isPairD x = true := by simpa using h
  obtain ⟨t, b, rfl⟩ : ∃ t b, x = .tuple [t, b] := by
    unfold isPairD at h
    split at h
    · exact ⟨_, _, rfl⟩
    · cases h
  refine bm_tup2 1 2 (em_var 0 rfl) ?_ rfl sc_is_fraction.nd (ht := fun h => ps_asg pe_u (pg_tup rfl h))
  by_cases ht : isWholeD t = true
  · by_cases hb : isWholeD b = true
    · obtain ⟨t, rfl⟩ : ∃ i, t = .int i := by cases t <;> first | exact ⟨_, rfl⟩ | cases ht
      obtain ⟨b, rfl⟩ : ∃ i, b = .int i := by cases b <;> first | exact ⟨_, rfl⟩ | cases hb
      refine bm_ifR (tm_w (wm_orB (tm_notB (tm_val (em_callF (d := .bool true) Fw hr (am_cons (em_var 1 rfl) am_nil) rfl))) fun _ => wm_orB (tm_notB (tm_val (em_callF (d := .bool true) Fw hr (am_cons (em_var 2 rfl) am_nil) rfl))) fun _ => wm_or1 (tm_lt (em_var 2 rfl) em_int))) (fun h => bm_ret em_bl fun v d G H hd e => ⟨d, hd, ?_⟩) fun h => ?_
      · rw [e]
        have h : b < 1 := by simpa using h
        show PyData.bool false = .bool (decide (1 ≤ b) && _)
        rw [decide_eq_false (by omega)]
        rfl
      · have h : ¬ b < 1 := by simpa using h
        refine bm_ret (em_eqI (em_callF (d := .int (Int.gcd t b)) Fg hr (am_cons (em_abs (em_var 1 rfl) B.abs) (am_cons (em_var 2 rfl) am_nil)) ⟨t.natAbs, b.toNat, ?_⟩ ?_) em_int) fun v d G H hd e => ⟨d, hd, ?_⟩
        · rw [Int.toNat_of_nonneg (by omega)]
        · show PyData.int (Int.gcd (t.natAbs : Int) b) = _
          unfold Int.gcd
          rw [Int.natAbs_natCast]
        · rw [e]
          show _ = PyData.bool (decide (1 ≤ b) && _)
          rw [decide_eq_true (by omega : 1 ≤ b)]
          rfl
    · have hb : isWholeD b = false := by simpa using hb
      obtain ⟨t, rfl⟩ : ∃ i, t = .int i := by cases t <;> first | exact ⟨_, rfl⟩ | cases ht
      refine bm_ifR (x := true) (tm_mono (tm_w (wm_orB (y := true) (tm_notB (tm_val (em_callF (d := .bool true) Fw hr (am_cons (em_var 1 rfl) am_nil) rfl))) fun _ => wm_or (x := true) (tm_mono (tm_notB (tm_val (em_callF (d := .bool false) Fw hr (am_cons (em_var 2 rfl) am_nil) rfl (congrArg PyData.bool hb)))) fun _ e => e) (fun _ => rfl) fun h => nomatch h)) fun _ e => e) (fun _ => bm_ret em_bl fun v d G H hd e => ⟨d, hd, ?_⟩) fun h => nomatch h
      rw [e]
      show PyData.bool false = .bool (isFracD _)
      cases b <;> first | rfl | cases hb
  · have ht : isWholeD t = false := by simpa using ht
    refine bm_ifR (x := true) (tm_mono (tm_w (wm_or (x := true) (P := (· = true)) (tm_mono (tm_notB (tm_val (em_callF (d := .bool false) Fw hr (am_cons (em_var 1 rfl) am_nil) rfl (congrArg PyData.bool ht)))) fun _ e => e) (fun _ => rfl) fun h => nomatch h)) fun _ e => e) (fun _ => bm_ret em_bl fun v d G H hd e => ⟨d, hd, ?_⟩) fun h => nomatch h
    rw [e]
    show PyData.bool false = .bool (isFracD _)
    cases t <;> first | rfl | cases ht
theorem frac_of {x : PyData} (h : isFracD x = true) : ∃ t b, x = .tuple [.int t, .int b] := by
  unfold isFracD at h
  split at h
  · exact ⟨_, _, rfl⟩
  · cases h
abbrev sp_is_part : Sp := spF (fun as => as.length = 1) (hd1 fun x => .bool (isPartD x))
theorem ok_is_part (F : FnP K "is_part" s_is_part f fd) (C : Cn mg) (Fp : Fk P w K mg base "is_fraction" 2 ["thing"] sp_is_fraction) : FnOk P w K mg base CX0 3 f fd ["thing"] sp_is_part := by
  refine fn_P F sc_is_part (fun as h => h) fun cdv A outer s H E G as hr sm hp => ?_
  obtain ⟨x, rfl⟩ := len1 hp
  obtain ⟨tk, hk⟩ := C.p
  refine bm_ifR (tm_notB (tm_val (em_callF (d := .bool (isFracD x)) Fp hr (am_cons (em_var 0 rfl) am_nil) rfl))) (fun h => bm_ret em_bl fun v d G H hd e => ⟨d, hd, ?_⟩) fun h => ?_
  · rw [e]
    have h : isFracD x = false := by simpa using h
    show PyData.bool false = .bool (isPartD x)
    unfold isPartD
    split
    · rw [h]
      rfl
    · rfl
  · have h : isFracD x = true := by simpa using h
    obtain ⟨t, b, rfl⟩ := frac_of h
    refine bm_tup2 1 2 (em_var 0 rfl) ?_ rfl sc_is_part.nd (ht := fun h => ps_asg pe_u (pg_tup rfl h))
    refine bm_ret (em_chain3 op_lt op_lt op_le em_int (em_var 1 rfl) (em_var 2 rfl) (em_gint hk)) fun v d G H hd e => ⟨d, hd, ?_⟩
    rw [e]
    show _ = PyData.bool (isFracD _ && _)
    rw [h]
    rfl
abbrev sp_is_share : Sp := spF (fun as => as.length = 1) (hd1 fun x => .bool (isShareD x))
theorem ok_is_share (F : FnP K "is_share" s_is_share f fd) (C : Cn mg) (Fp : Fk P w K mg base "is_fraction" 2 ["thing"] sp_is_fraction) : FnOk P w K mg base CX0 3 f fd ["thing"] sp_is_share := by
  refine fn_P F sc_is_share (fun as h => h) fun cdv A outer s H E G as hr sm hp => ?_
  obtain ⟨x, rfl⟩ := len1 hp
  obtain ⟨tk, hk⟩ := C.s
  refine bm_ifR (tm_notB (tm_val (em_callF (d := .bool (isFracD x)) Fp hr (am_cons (em_var 0 rfl) am_nil) rfl))) (fun h => bm_ret em_bl fun v d G H hd e => ⟨d, hd, ?_⟩) fun h => ?_
  · rw [e]
    have h : isFracD x = false := by simpa using h
    show PyData.bool false = .bool (isShareD x)
    unfold isShareD
    split
    · rw [h]
      rfl
    · rfl
  · have h : isFracD x = true := by simpa using h
    obtain ⟨t, b, rfl⟩ := frac_of h
    refine bm_tup2 1 2 (em_var 0 rfl) ?_ rfl sc_is_share.nd (ht := fun h => ps_asg pe_u (pg_tup rfl h))
    refine bm_ret (em_chain3 op_le op_le op_le em_int (em_var 1 rfl) (em_var 2 rfl) (em_gint hk)) fun v d G H hd e => ⟨d, hd, ?_⟩
    rw [e]
    show _ = PyData.bool (isFracD _ && _)
    rw [h]
    rfl
theorem pair_of {x : PyData} (h : isPairD x = true) : ∃ t b, x = .tuple [t, b] := by
  unfold isPairD at h
  split at h
  · exact ⟨_, _, rfl⟩
  · cases h
theorem part_of {x : PyData} (h : isPartD x = true) : ∃ t b : Int, x = .tuple [.int t, .int b] ∧ 0 < t ∧ t < b ∧ b ≤ 12 := by
  unfold isPartD at h
  split at h
  · rename_i t b
    rw [Bool.and_eq_true, Bool.and_eq_true, Bool.and_eq_true] at h
    exact ⟨t, b, rfl, of_decide_eq_true h.2.1, of_decide_eq_true h.2.2.1, of_decide_eq_true h.2.2.2⟩
  · cases h
abbrev sp_are_parts : Sp := spF (fun as => as.length = 1) (hd1 fun x => .bool (arePartsD x))
theorem are_no {a b : PyData} (h : isPartD a = false ∨ isPartD b = false) : arePartsD (.tuple [a, b]) = false := by
  unfold arePartsD
  split
  · rename_i z
    injection z with z
    injection z with z1 z2
    injection z2 with z2 _
    subst z1
    subst z2
    rcases h with h | h
    · rw [h]
      rfl
    · rw [h, Bool.false_and, Bool.and_false]
  · rfl
theorem ok_are_parts (F : FnP K "are_parts" s_are_parts f fd) (Fp : Fk P w K mg base "is_pair" 1 ["thing"] sp_is_pair) (Fq : Fk P w K mg base "is_part" 3 ["thing"] sp_is_part) : FnOk P w K mg base CX0 4 f fd ["thing"] sp_are_parts := by
  refine fn_P F sc_are_parts (fun as h => h) fun cdv A outer s H E G as hr sm hp => ?_
  obtain ⟨x, rfl⟩ := len1 hp
  refine bm_ifR (tm_notB (tm_val (em_callF (d := .bool (isPairD x)) Fp (hr.mono (by decide)) (am_cons (em_var 0 rfl) am_nil) rfl))) (fun h => bm_ret em_bl fun v d G H hd e => ⟨d, hd, ?_⟩) fun h => ?_
  · rw [e]
    have h : isPairD x = false := by simpa using h
    show PyData.bool false = .bool (arePartsD x)
    unfold arePartsD
    split
    · cases h
    · rfl
  have h : isPairD x = true := by simpa using h
  obtain ⟨a, b, rfl⟩ := pair_of h
  refine bm_tup2 1 2 (em_var 0 rfl) ?_ rfl sc_are_parts.nd (ht := fun h => ps_asg pe_u (pg_tup rfl h))
  by_cases ha : isPartD a = true
  · by_cases hb : isPartD b = true
    · obtain ⟨t, u, rfl, h1, h2, h3⟩ := part_of ha
      obtain ⟨t', u', rfl, h4, h5, h6⟩ := part_of hb
      refine bm_ifR (tm_w (wm_orB (tm_notB (tm_val (em_callF (d := .bool true) Fq hr (am_cons (em_var 1 rfl) am_nil) rfl (congrArg PyData.bool ha)))) fun _ => wm_or1 (tm_notB (tm_val (em_callF (d := .bool true) Fq hr (am_cons (em_var 2 rfl) am_nil) rfl (congrArg PyData.bool hb)))))) (fun h => nomatch h) fun _ => ?_
      refine bm_tup2 3 4 (em_var 1 rfl) ?_ rfl sc_are_parts.nd (ht := fun h => ps_asg pe_u (pg_tup rfl h))
      refine bm_tup2 5 6 (em_var 2 rfl) ?_ rfl sc_are_parts.nd (ht := fun h => ps_asg pe_u (pg_tup rfl h))
      refine bm_ret (em_ge (em_add (em_mulS (.inl (by omega)) (em_var 3 rfl) (em_var 6 rfl)) (em_mulS (.inl (by omega)) (em_var 5 rfl) (em_var 4 rfl))) (em_mulS (.inl (by omega)) (em_var 4 rfl) (em_var 6 rfl))) fun v d G H hd e => ⟨d, hd, ?_⟩
      rw [e]
      show _ = PyData.bool (isPartD _ && (isPartD _ && _))
      rw [ha, hb]
      rfl
    · have hb : isPartD b = false := by simpa using hb
      refine bm_ifR (tm_w (wm_orB (tm_notB (tm_val (em_callF (d := .bool true) Fq hr (am_cons (em_var 1 rfl) am_nil) rfl (congrArg PyData.bool ha)))) fun _ => wm_or1 (tm_notB (tm_val (em_callF (d := .bool false) Fq hr (am_cons (em_var 2 rfl) am_nil) rfl (congrArg PyData.bool hb)))))) (fun _ => bm_ret em_bl fun v d G H hd e => ⟨d, hd, ?_⟩) fun h => nomatch h
      rw [e]
      exact congrArg PyData.bool (are_no (.inr hb)).symm
  · have ha : isPartD a = false := by simpa using ha
    refine bm_ifR (x := true) (tm_mono (tm_w (wm_or (x := true) (P := (· = true)) (tm_mono (tm_notB (tm_val (em_callF (d := .bool false) Fq hr (am_cons (em_var 1 rfl) am_nil) rfl (congrArg PyData.bool ha)))) fun _ e => e) (fun _ => rfl) fun h => nomatch h)) fun _ e => e) (fun _ => bm_ret em_bl fun v d G H hd e => ⟨d, hd, ?_⟩) fun h => nomatch h
    rw [e]
    exact congrArg PyData.bool (are_no (.inl ha)).symm
abbrev sp_is_pour : Sp := spF (fun as => ∃ x, as = [x] ∧ SeqAt.shaped x = true) (hd1 fun x => .bool (isPourD x))
theorem shaped_r : SeqAt.shaped (.str "right") = true := by decide +kernel
theorem shaped_l : SeqAt.shaped (.str "left") = true := by decide +kernel
theorem ok_is_pour (F : FnP K "is_pour" s_is_pour f fd) (C : Cn mg) : FnOk P w K mg base CX0 1 f fd ["thing"] sp_is_pour := by
  refine fn_P F sc_is_pour (fun as ⟨x, e, _⟩ => by rw [e]; rfl) fun cdv A outer s H E G as hr sm ⟨x, e, hx⟩ => ?_
  subst e
  obtain ⟨tk, hk⟩ := C.r
  obtain ⟨tl, hl⟩ := C.l
  exact bm_ret (em_orB (em_eqD hr hx shaped_r (em_var 0 rfl) (em_gstr hk)) fun _ => em_one (em_eqD hr hx shaped_l (em_var 0 rfl) (em_gstr hl))) fun v d G H hd e => ⟨d, hd, e⟩
end
end Pb
namespace Pb
open PySem PySem.Spec PyProof.Rows L2 Dn
section
variable {P : Program} {w : World} {K : PySem.W.Frag} {mg : Str → Option Value} {base : Heap} {f : Addr} {fd : FuncData}
abbrev sp_is_row : Sp := spF (fun as => ∃ x, as = [x] ∧ ∀ xs, x = .tuple xs → ∀ y ∈ xs, SeqAt.shaped y = true) (hd1 fun x => .bool (isRowD x))
theorem ok_is_row (F : FnP K "is_row" s_is_row f fd) (B : Bi mg) (C : Cn mg) (Fp : Fk P w K mg base "is_pour" 1 ["thing"] sp_is_pour) : FnOk P w K mg base CX0 2 f fd ["thing"] sp_is_row := by
  refine fn_P F sc_is_row (fun as ⟨x, e, _⟩ => by rw [e]; rfl) fun cdv A outer s H E G as hr sm ⟨x, e, hx⟩ => ?_
  subst e
  obtain ⟨tk, hk⟩ := C.m
  cases x with
  | tuple xs =>
    refine bm_ifR (tm_w (wm_orB (tm_notB (tm_val (em_isi (em_var 0 rfl) B.isi B.tuple boot_tuple (kit_tuple _)))) fun _ => wm_or1 (tm_gt (em_len (as := xs) (em_mono (em_var 0 rfl) fun _ e => .inr e) B.len) (em_gint hk)))) (fun h => bm_ret em_bl fun v d G H hd e => ⟨d, hd, ?_⟩) fun h => ?_
    · rw [e]
      have h : (40 : Int) < xs.length := by simpa [isTupD] using h
      show PyData.bool false = .bool (decide (xs.length ≤ 40) && _)
      rw [decide_eq_false (by omega)]
      rfl
    · have h : ¬ (40 : Int) < xs.length := by simpa [isTupD] using h
      refine bm_ret (em_all (bs := xs.map isPourD) rfl (em_lcT (Pe := fun n y => ∀ d, xs[n]? = some d → y = .bool (isPourD d)) 1 (em_var 0 rfl) (fun s H C cl fp n d hd => em_mono (em_callF (d := .bool (isPourD d)) Fp (show Room 1 _ from hr) (am_cons (em_var 1 rfl) am_nil) ⟨d, rfl, hx xs rfl d (List.mem_of_getElem? hd)⟩) fun z e d' hd' => ?_) (fun ys hl hy => ?_) (by omega) rfl sc_is_row.nd (blkOk_by (N := ["thing", "pour"]) (sc := defScope s_is_row) (by decide +kernel)) fun s H C cl fp => pg_name (i := 1) sc_is_row.nd rfl (Or.inl rfl)) B.all) fun v d G H hd e => ⟨d, hd, ?_⟩
      · rw [hd] at hd'
        cases hd'
        exact e
      · congr 1
        apply List.ext_getElem?
        intro n
        rw [List.map_map, List.getElem?_map]
        cases e : xs[n]? with
        | none =>
          rw [List.getElem?_eq_none_iff] at e
          rw [List.getElem?_eq_none (by omega)]
          rfl
        | some d =>
          have hn := (List.getElem?_eq_some_iff.mp e).1
          rw [List.getElem?_eq_getElem (show n < ys.length by omega)]
          exact congrArg some (hy n _ (List.getElem?_eq_getElem (show n < ys.length by omega)) d e)
      · rw [e]
        show _ = PyData.bool (decide (xs.length ≤ 40) && xs.all isPourD)
        rw [decide_eq_true (by omega), List.all_map]
        rfl
  | _ =>
    refine bm_ifR (x := true) (tm_mono (tm_w (wm_or (x := true) (P := (· = true)) (tm_mono (tm_notB (tm_val (em_isi (em_var 0 rfl) B.isi B.tuple boot_tuple (kit_tuple _)))) fun _ e => e) (fun _ => rfl) fun h => nomatch h)) fun _ e => e) (fun _ => bm_ret em_bl fun v d G H hd e => ⟨d, hd, ?_⟩) fun h => nomatch h
    rw [e]
    rfl
abbrev spN (pre : List PyData → Prop) : Sp := spF pre fun _ => .none
abbrev sp_need_parts : Sp := spN fun as => ∃ x, as = [x] ∧ arePartsD x = true
abbrev sp_need_share : Sp := spN fun as => ∃ x, as = [x] ∧ isShareD x = true
abbrev sp_need_row : Sp := spN fun as => ∃ r : List Pour, as = [rowD r] ∧ r.length ≤ 40
theorem low_pre {a b : Int} {m n : Nat} (ha : 0 ≤ a) (hb : 0 < b) (hl : b.natAbs < 2 ^ 8010) : ∃ m n : Nat, [PyData.int a, .int b] = [.int m, .int n] ∧ 0 < n ∧ n < 2 ^ 8010 :=
  ⟨a.toNat, b.toNat, by rw [Int.toNat_of_nonneg ha, Int.toNat_of_nonneg (by omega)], by omega, by omega⟩
theorem mul_small {a b : Nat} (ha : a < 2 ^ 4000) (hb : b < 2 ^ 4000) : a * b < 2 ^ 8010 :=
  Nat.lt_of_lt_of_le (Nat.mul_lt_mul'' ha hb) (by rw [← Nat.pow_add]; exact Nat.pow_le_pow_right (by decide) (by decide))
abbrev sp_behind_right : Sp := spP (fun as => ∃ p s, as = [rt p, rt s] ∧ Smq p ∧ Smq s ∧ 0 ≤ s ∧ p ≤ 1 ∧ 0 ≤ p) fun as d => ∀ p s, as = [rt p, rt s] → d = rt (s * (1 - p))
theorem rts {a b c d : Rat} (h : [rt a, rt b] = [rt c, rt d]) : a = c ∧ b = d := by
  injection h with h1 h2
  injection h2 with h2 _
  exact ⟨rt_inj h1, rt_inj h2⟩
theorem sub_sm {p : Rat} (h : Smq p) (h0 : 0 ≤ p) (h1 : p ≤ 1) : Sm ((p.den : Int) - p.num) := by
  have a := nn h0
  have b := le_one h1
  have c := h.d
  unfold Sm
  omega
abbrev sp_behind_left : Sp := spP (fun as => ∃ p s, as = [rt p, rt s] ∧ Smq p ∧ Smq s ∧ 0 ≤ s ∧ s ≤ 1 ∧ 0 ≤ p) fun as d => ∀ p s, as = [rt p, rt s] → d = rt (s + (1 - s) * p)
abbrev ptD (p q : Rat) : PyData := .tuple [rt p, rt q]
abbrev sp_behind_pour : Sp := spP (fun as => ∃ p q s x, as = [ptD p q, rt s, Pour.d x] ∧ Parts p q ∧ Smq s ∧ 0 ≤ s ∧ s ≤ 1) fun as d => ∀ p q s x, as = [ptD p q, rt s, Pour.d x] → d = rt (pour1 p q s x)
theorem pt_inj {p q p' q' : Rat} (h : ptD p q = ptD p' q') : p = p' ∧ q = q' := by
  injection h with h
  exact rts h
theorem pour_inj {x y : Pour} (h : x.d = y.d) : x = y := by
  have e := pour_eqv_r x
  rw [h, pour_eqv_r] at e
  cases x <;> cases y <;> first | rfl | cases e
abbrev pre_behind (as : List PyData) : Prop := ∃ p q s r, as = [ptD p q, rt s, rowD r] ∧ Parts p q ∧ Share s ∧ r.length ≤ 40
abbrev sp_behind : Sp := spP pre_behind fun as d => ∀ p q s r, as = [ptD p q, rt s, rowD r] → d = rt (pours p q s r)
theorem row_inj {r r' : List Pour} (h : rowD r = rowD r') : r = r' := by
  injection h with h
  induction r generalizing r' with
  | nil => cases r' with
    | nil => rfl
    | cons => cases h
  | cons x r ih => cases r' with
    | nil => cases h
    | cons y r' =>
      injection h with h1 h2
      rw [pour_inj h1, ih h2]
theorem psr_inj {p q s p' q' s' : Rat} {r r' : List Pour} (h : [ptD p q, rt s, rowD r] = [ptD p' q', rt s', rowD r']) : p = p' ∧ q = q' ∧ s = s' ∧ r = r' := by
  injection h with h1 h2
  injection h2 with h2 h3
  injection h3 with h3 _
  obtain ⟨a, b⟩ := pt_inj h1
  exact ⟨a, b, rt_inj h2, row_inj h3⟩
def allPours (p q s : Rat) (r : List Pour) : List PyData := (List.range r.length).map fun n => rt (pours p q s (r.take (n + 1)))
abbrev sp_all_behind : Sp := spL pre_behind fun as xs => ∀ p q s r, as = [ptD p q, rt s, rowD r] → xs = allPours p q s r
end
end Pb
namespace Pb
open PySem PySem.Spec PyProof.Rows L2 Dn
structure Bj (mg : Str → Option Value) : Prop where
  range : mg "range" = none
  max : mg "max" = none
  min : mg "min" = none
section
variable {P : Program} {w : World} {K : PySem.W.Frag} {mg : Str → Option Value} {base : Heap} {f : Addr} {fd : FuncData}
abbrev isI (d : PyData) : Prop := ∃ x : Int, d = .int x
abbrev isIn (m : Int) (d : PyData) : Prop := ∃ x : Int, d = .int x ∧ 0 ≤ x ∧ x < m
abbrev sp_cell (K : PySem.W.Frag) : Sp := spS K (fun ns as => ∃ k : Nat, as = [.int k]) fun _ _ d => isI d
theorem ok__law_cell_at (F : FnP K "_law_cell_at" s__law_cell_at f fd) (B : Bi mg) : FnOk P w K mg base CX0 1 f fd ["script", "k"] (sp_cell K) := by
  refine fn_S F sc__law_cell_at (fun ns as ⟨k, e⟩ => by rw [e]; rfl) fun cdv A outer s H E G b ns as hr ⟨k, e⟩ => ?_
  subst e
  refine bm_ifR (tm_lt (em_var 1 rfl) (em_slen 0 rfl B.len)) (fun h => ?_) fun _ => bm_ret em_int fun v d G H hd e => ⟨d, hd, _, e⟩
  have h : k < ns.length := by
    have := of_decide_eq_true h
    omega
  exact bm_ret (em_six 0 rfl (em_var 1 rfl) (List.getElem?_eq_getElem h)) fun v d G H hd e => ⟨d, hd, _, e⟩
abbrev sp_draws : Sp := spL (fun as => ∃ c : Int, as = [.int c, .int 400, .int 1000]) fun _ xs => ∃ ns : List Int, xs = ns.map .int ∧ ns.length = 400
theorem ok__law_draws (F : FnP K "_law_draws" s__law_draws f fd) (B : Bi mg) (J : Bj mg) : FnOk P w K mg base CX0 1 f fd ["cell", "many", "size"] sp_draws := by
  refine fn_L F sc__law_draws (fun as ⟨c, e⟩ => by rw [e]; rfl) fun cdv A outer s H E G as hr sm ⟨c, e⟩ => ?_
  subst e
  refine bm_new 3 (fun a ha _ _ => ?_) sc__law_draws.nd
  refine bm_set 4 (em_mulS (.inr ?_) (em_var 0 rfl) (em_intB (em_ge (em_var 0 rfl) (em_pow ⟨by decide, by decide, by decide⟩ em_int em_int)) B.int)) ?_ sc__law_draws.nd
  · split <;> decide
  refine bm_set 5 (em_mod (by decide) (em_var 0 rfl) em_int) ?_ sc__law_draws.nd
  refine bm_forR (N1 := fun ds' => ∃ (fs : List Int) (x y z : Sl), ds' = [.dat (.int c), .dat (.int 400), .dat (.int 1000), .own a (fs.map .int), x, y, z] ∧ fs.length = 400) 6 (em_add (em_var 1 rfl) em_int) (by decide)
    (fun n ds' => ∃ (fs : List Int) (x y : Int) (z : Sl), ds' = [.dat (.int c), .dat (.int 400), .dat (.int 1000), .own a (fs.map .int), .dat (.int x), .dat (.int y), z] ∧ fs.length = n - 3 ∧ 0 ≤ y ∧ y < 2305843009213693951)
    ⟨[], _, _, .un, rfl, rfl, Int.emod_nonneg _ (by decide), Int.emod_lt_of_pos _ (by decide)⟩ PassesOwn.never rfl (fun n ds' hn ⟨fs, x, y, z, e, hl, h0, h1⟩ => ?_) (fun ds' ⟨fs, x, y, z, e, hl, _⟩ => ?_) (fun ds' ⟨fs, x, y, z, e, hl⟩ => ?_) J.range sc__law_draws.nd
  · subst e
    have hn : n < 403 := hn
    refine bm_set 5 (em_mod (by decide) (em_add (em_add (em_add (em_mulS (.inl ⟨by omega, by omega⟩) (em_var 5 rfl) (em_var 5 rfl)) (em_mulS (.inl ⟨by decide, by decide⟩) em_int (em_var 5 rfl))) (em_var 6 rfl)) em_int) em_int) ?_ sc__law_draws.nd
    have g0 : 0 ≤ (y * y + 48271 * y + (n : Int) + 1) % 2305843009213693951 := Int.emod_nonneg _ (by decide)
    have g1 : (y * y + 48271 * y + (n : Int) + 1) % 2305843009213693951 < 2305843009213693951 := Int.emod_lt_of_pos _ (by decide)
    generalize (y * y + 48271 * y + (n : Int) + 1) % 2305843009213693951 = y' at g0 g1
    have own : ∀ (j : Nat) zs, [Sl.dat (.int c), .dat (.int 400), .dat (.int 1000), .own a (fs.map .int), .dat (.int x), .dat (.int y'), .dat (.int n)][j]? = some (.own a zs) → j = 3 := by
      intro j zs h
      match j with
      | 0 => cases h
      | 1 => cases h
      | 2 => cases h
      | 3 => rfl
      | 4 => cases h
      | 5 => cases h
      | 6 => cases h
    have hz : (fs.map PyData.int).length < 100000 := by
      rw [List.length_map]
      omega
    have app : ∀ v : Int, fs.map PyData.int ++ [.int v] = (fs ++ [v]).map .int := fun v => by
      rw [List.map_append]
      rfl
    refine bm_if' (N1 := fun ds' => ∃ (fs : List Int) (x y : Int) (z : Sl), ds' = [.dat (.int c), .dat (.int 400), .dat (.int 1000), .own a (fs.map .int), .dat (.int x), .dat (.int y), z] ∧ fs.length = n + 1 - 3 ∧ 0 ≤ y ∧ y < 2305843009213693951) (Pc := fun b => b = true → 2 < n) (tm_w (wm_and (tm_gt (em_var 6 rfl) em_int) (fun _ h => nomatch h) fun h => wm_and1 (tm_mono (tm_gt (em_var 4 rfl) em_int) fun _ _ _ => by have := of_decide_eq_true h; omega))) (fun h => ?_) (fun _ => ?_) fun ds' h => bm_nil h
    · refine bm_app 3 rfl (em_mod (by decide) (em_var 4 rfl) (em_var 2 rfl)) ha hz own (fun d e => ?_) (ht := ps_expr (pe_bm PySem.F.plainAttrs_list PySem.F.slot_list_append PySem.F.type_list_append mt_append (pv 3) (pa_cons pe_u pa_nil)))
      refine bm_set 4 (em_fdiv ⟨by decide, by decide +kernel⟩ (em_var 4 rfl) (em_var 2 rfl)) (bm_nil ⟨fs ++ [x % 1000], x / 1000, y', .dat (.int n), ?_, ?_, g0, g1⟩) sc__law_draws.nd
      · rw [e, ← app]
        rfl
      · have := h rfl
        rw [List.length_append, List.length_singleton]
        omega
    · refine bm_if' (N1 := fun ds' => ∃ (fs : List Int) (x y : Int) (z : Sl), ds' = [.dat (.int c), .dat (.int 400), .dat (.int 1000), .own a (fs.map .int), .dat (.int x), .dat (.int y), z] ∧ fs.length = n + 1 - 3 ∧ 0 ≤ y ∧ y < 2305843009213693951) (tm_gt (em_var 6 rfl) em_int) (fun h => ?_) (fun h => bm_nil ⟨fs, x, y', .dat (.int n), rfl, ?_, g0, g1⟩) fun ds' h => bm_nil h
      · refine bm_app 3 rfl (em_mod (by decide) (em_fdiv ⟨by decide, by decide +kernel⟩ (em_var 5 rfl) em_int) (em_var 2 rfl)) ha hz own (fun d e => bm_nil ⟨fs ++ [y' / 4096 % 1000], x, y', .dat (.int n), ?_, ?_, g0, g1⟩) (ht := ps_expr (pe_bm PySem.F.plainAttrs_list PySem.F.slot_list_append PySem.F.type_list_append mt_append (pv 3) (pa_cons pe_u pa_nil)))
        · rw [e, ← app]
          rfl
        · have h : (2 : Int) < n := of_decide_eq_true h.symm
          rw [List.length_append, List.length_singleton]
          omega
      · have h : ¬ (2 : Int) < n := of_decide_eq_false h.symm
        omega
  · exact ⟨fs, _, _, z, e, hl⟩
  · subst e
    exact bm_retL 3 rfl ha ⟨fs, rfl, hl⟩
abbrev sp_bag (K : PySem.W.Frag) : Sp := spSL K (fun ns as => ∃ k : Nat, as = [.int k]) fun _ _ xs => ∃ ns : List Int, xs = [.list (ns.map .int), .int 0] ∧ ns.length = 400
theorem ok__law_bag (F : FnP K "_law_bag" s__law_bag f fd) (F1 : Fk P w K mg base "_law_cell_at" 1 ["script", "k"] (sp_cell K)) (F2 : Fk P w K mg base "_law_draws" 1 ["cell", "many", "size"] sp_draws) : FnOk P w K mg base CX0 2 f fd ["script", "k"] (sp_bag K) := by
  refine fn_SL F sc__law_bag (fun ns as ⟨k, e⟩ => by rw [e]; rfl) fun cdv A outer s H E G b ns as hr ⟨k, e⟩ => ?_
  subst e
  refine bm_retNew (Pa := fun as => ∃ ns : List Int, as = [.list (ns.map .int), .int 0] ∧ ns.length = 400) (am_cons' (Pa := fun d => ∃ ns : List Int, d = .list (ns.map .int) ∧ ns.length = 400) (em_callL F2 hr (Pa := fun as => ∃ c : Int, as = [.int c, .int 400, .int 1000]) (am_cons' (em_callS (n := 0) F1 hr rfl (am_cons (em_var 1 rfl) am_nil) fun as e => ⟨⟨k, e⟩, fun d h => h⟩) (am_cons em_int (am_cons em_int am_nil)) fun x xs ⟨c, h1⟩ h2 => ⟨c, by rw [h1, h2]⟩) fun as h => ⟨h, fun xs ⟨ns, e, hl⟩ => ⟨ns, by rw [e], hl⟩⟩) (am_cons em_int am_nil) fun x xs ⟨ns, h1, hl⟩ h2 => ⟨ns, by rw [h1, h2], hl⟩) fun as ⟨ns, e, hl⟩ => ⟨by rw [e]; exact Nat.le_of_ble_eq_true rfl, ns, e, hl⟩
theorem ok__law_bags (F : FnP K "_law_bags" s__law_bags f fd) (B : Bi mg) (J : Bj mg) (F1 : Fk P w K mg base "_law_bag" 2 ["script", "k"] (sp_bag K)) : FnOk P w K mg base CX0 3 f fd ["script", "limit"] (spBags K) := by
  refine F.ok sc__law_bags (fun vs H Q E ⟨a, G, ns, z, e, _⟩ => by rw [e]; rfl) fun cdv A outer s H vs Q E hr ⟨a, G, ns, z, e, h1, h2, sm, hS, q⟩ => ?_
  subst e
  obtain ⟨fb, fdb, Gb, hmb, hkb, hbb⟩ := F1.ex
  have main : ∃ t, PSs (Cx0 P w K mg base ["script", "limit", "k"] "_law_bags" (defScope s__law_bags) f cdv A outer s H E) (defBody s__law_bags) t ∧ t { nx := fun _ H' => Q .non H', rt := Q } (L2.start ["script", "limit", "k"] [.ref a, .int z]) H := by
    refine ⟨_, pss_one (ps_ret (pe_lc (own := [("k", 2)]) (g := gName 2) rfl sc__law_bags.nd (pi_range1 rfl J.range (pa_cons pe_u pa_nil)) (blkOk_by (N := ["script", "limit", "k"]) (sc := defScope s__law_bags) (by decide +kernel)) (fun _ _ _ _ _ => pg_name (i := 2) sc__law_bags.nd rfl (Or.inl rfl)) (fun _ _ _ _ _ => pts_nil)
      (fun _ _ _ _ _ => pe_call Gb hr rfl hmb hkb hbb .nil pass0 (pa_cons (pv 0) (pa_cons (pv 2) pa_nil))))), ?_⟩
    refine (em_max (W := pw) (ds := slS ["script", "limit", "k"] K a ns [.int z]) rfl em_int (em_min rfl (em_var 1 rfl) (em_slen 0 rfl B.len) J.min) J.max) _ G H sm (envS hS (.cons (.int z) .nil)) _ fun v d G1 H1 r1 hd e => ?_
    subst e
    cases hd
    refine ⟨_, rfl, by omega, by omega, fun D hD => lc_range (fun i H' => ∃ (G' : Hp) (bs : List Addr), Stp G H G' H' ∧ G' D = none ∧ H' D = some (.lst (bs.map V.ref)) ∧ bs.length = i ∧ bs.Nodup ∧ ∀ b ∈ bs, BagAt b G' H' ∧ b ≠ D) ⟨G1, [], ?_, (Same.free r1.i hD), upd_same, rfl, .nil, fun b hb => nomatch hb⟩ (fun i H' hi ⟨G', bs, r, gD, hv, hl, nd, hb⟩ => ?_) fun H' ⟨G', bs, r, gD, hv, hl, nd, hb⟩ => ?_⟩
    · exact r1.trans ⟨.refl _, same_upd2 r1.i (Same.free r1.i hD), same_upd hD, fun _ _ h => h⟩
    · refine ⟨rfl, ?_⟩
      have e0 : (0 : Int) + (i : Int) = (i : Int) := Int.zero_add _
      refine ⟨.ref a, rfl, .int ((0 : Int) + i), rfl, a, [.int ((0 : Int) + i)], G', ns, [.int i], rfl, r.i, r.g.seq hS, ?_, ⟨i, rfl⟩, fun p us xs G2 H2 st hp g2 hp2 hd hx => ?_⟩
      · rw [e0]
        exact .cons (.int _) .nil
      obtain ⟨ms, ex, hm⟩ := hx
      subst ex
      cases hd with
      | cons d1 d2 => cases d2 with
        | cons d2 d3 =>
          cases d3
          cases d2
          cases d1 with
          | @lst l us' _ hl2 hu =>
            have eu := hu.intsV
            subst eu
            have hD2 : H2 D = some (.lst (bs.map V.ref)) := st.h _ _ hv
            have gD2 : G2 D = none := st.k D (by rw [hv]; exact fun z => nomatch z) gD
            have pD : p ≠ D := fun z => by
              rw [z, hv] at hp
              cases hp
            have hDn : H D = none := r1.h.free hD
            refine ⟨bs.map V.ref, hD2, ?_, G2, bs ++ [p], pw.chg (pw.trans r st) trivial hDn gD2 hD2, gD2, ?_, by rw [List.length_append, hl]; rfl, ?_, fun b hb' => ?_⟩
            · rw [List.length_map, hl]
              exact small1000 (by omega)
            · rw [upd_same, List.map_append]
              rfl
            · refine List.nodup_append.mpr ⟨nd, by simp, fun b hb' c hc => ?_⟩
              have : c = p := by simpa using hc
              subst this
              intro z
              obtain ⟨⟨_, _, _, _, q1, _⟩, _⟩ := hb b hb'
              rw [z, hp] at q1
              cases q1
            · rcases List.mem_append.mp hb' with h | h
              · obtain ⟨⟨g, l', k', ns', q1, q2, q3⟩, ne⟩ := hb b h
                exact ⟨⟨st.k b (by rw [q1]; exact fun z => nomatch z) g, l', k', ns', by rw [upd_ne ne]; exact st.h _ _ q1, st.g _ _ q2, q3⟩, ne⟩
              · have : b = p := by simpa using h
                subst this
                exact ⟨⟨g2, l, 0, ms, by rw [upd_ne pD]; exact hp2, hl2, hm⟩, pD⟩
    · have hDn : H D = none := r1.h.free hD
      refine q D bs _ H' (r.freeze hDn gD hv) upd_same nd fun b hb' => ?_
      obtain ⟨⟨g, l', k', ns', q1, q2, q3⟩, ne⟩ := hb b hb'
      exact ⟨by rw [upd_ne ne]; exact g, l', k', ns', q1, same_upd gD _ _ q2, q3⟩
  obtain ⟨t, ht, h⟩ := main
  exact ⟨t, ht.nox, h⟩
abbrev sp_take : Sp := spB (fun as => ∃ m : Int, as = [.int m] ∧ 0 < m) fun as d => ∀ m : Int, as = [.int m] → isIn m d
theorem int_inj {m m' : Int} (h : [PyData.int m] = [.int m']) : m = m' := by
  injection h with h _
  injection h
theorem ok__law_take (F : FnP K "_law_take" s__law_take f fd) (B : Bi mg) : FnOk P w K mg base CX0 1 f fd ["bag", "many"] sp_take := by
  refine fn_B F sc__law_take (fun as ⟨m, e, _⟩ => by rw [e]; rfl) fun cdv A outer s H E G b as hr ok ⟨m, e, hm⟩ => ?_
  subst e
  refine bm_bag1 0 rfl (em_add' (em_bag1 0 rfl) em_int fun x y ⟨k, hx⟩ hy => ⟨k, 1, hx, hy, _, rfl⟩) ?_ (ps_asg pe_u (pg_sub (pv 0) pe_int set_list))
  refine bm_ret (P := isIn m) (em_mod' (Pa := isI) (em_ixL' (em_bag0 0 rfl) (em_mod' (P := isIn 400) (em_bag1 0 rfl) (em_lenP (Pa := isDraws) (em_mono (em_bag0 0 rfl) fun d ⟨ns, e, h⟩ => ⟨_, e, ns, rfl, h⟩) B.len) fun x y ⟨k, hx⟩ hy => ?_) fun x y ⟨ns, hx, hl⟩ ⟨i, hy, h0, h1⟩ => ?_) (em_var 1 rfl) fun x y ⟨k, hx⟩ hy => ⟨k, m, hx, hy, hm, _, rfl, Int.emod_nonneg _ (by omega), Int.emod_lt_of_pos _ hm⟩) fun v d G H hd e => ⟨d, hd, fun m' h => by rw [← int_inj h]; exact e⟩
  · obtain ⟨as, h1, h2⟩ := hy
    obtain ⟨ns, h3, h4⟩ := h1
    injection h3 with h3
    rw [h3, List.length_map, h4] at h2
    exact ⟨k, 400, hx, h2, by decide, _, rfl, Int.emod_nonneg _ (by decide), Int.emod_lt_of_pos _ (by decide)⟩
  · obtain ⟨j, rfl⟩ : ∃ j : Nat, i = j := ⟨i.toNat, by omega⟩
    have hj : j < ns.length := by omega
    refine ⟨_, _, .int ns[j], hx, hy, atI_nat ?_, _, rfl⟩
    rw [List.getElem?_map, List.getElem?_eq_getElem hj]
    rfl
end
end Pb
namespace Pb
open PySem PySem.Spec PyProof.Rows L2 Dn
section
variable {P : Program} {w : World} {K : PySem.W.Frag} {mg : Str → Option Value} {base : Heap} {f : Addr} {fd : FuncData}
abbrev sp_far : Sp := spB (fun as => ∃ m : Int, as = [.int m] ∧ 0 < m) fun as d => ∀ m : Int, as = [.int m] → isIn m d
theorem ok__law_far_draw (F : FnP K "_law_far_draw" s__law_far_draw f fd) (Ft : Fk P w K mg base "_law_take" 1 ["bag", "many"] sp_take) : FnOk P w K mg base CX0 2 f fd ["bag", "many"] sp_far := by
  refine fn_B F sc__law_far_draw (fun as ⟨m, e, _⟩ => by rw [e]; rfl) fun cdv A outer s H E G b as hr ok ⟨m, e, hm⟩ => ?_
  subst e
  refine bm_par 2 3 (am_cons em_int (am_cons (em_var 1 rfl) am_nil)) (fun as e => ⟨_, _, e, ?_⟩) rfl sc__law_far_draw.nd
  refine bm_while (N1 := fun ds' => ∃ x y : Int, ds' = [.raw (.ref b), .dat (.int m), .dat (.int x), .dat (.int y)]) (fun k ds' => ∃ x y : Int, ds' = [.raw (.ref b), .dat (.int m), .dat (.int x), .dat (.int y)] ∧ k = y.toNat) m.toNat ⟨0, m, rfl, rfl⟩ PassesOwn.never (fun k ds' ⟨x, y, e, ek⟩ => ?_) (fun ds' ⟨x, y, e⟩ => ?_)
  · subst e
    refine ⟨_, tm_gt (em_var 3 rfl) em_int, fun h => ?_, fun _ => ⟨x, y, rfl⟩⟩
    have h : 0 < y := of_decide_eq_true h
    refine bm_par (Pa := fun as => ∃ t : Int, as = [.int (1000 * x + t), .int (y / 1000)]) 2 3 (am_cons' (Pa := fun d => ∃ t : Int, d = .int (1000 * x + t)) (em_add' (em_mulS (.inl ⟨by decide, by decide⟩) em_int (em_var 2 rfl)) (em_callB (n := 0) Ft hr rfl (am_cons em_int am_nil) fun as e => ⟨⟨1000, e, by decide⟩, fun d hd => hd 1000 e⟩) fun u v hu ⟨t, hv, _⟩ => ⟨_, t, hu, hv, t, rfl⟩) (am_cons (em_fdiv ⟨by decide, by decide +kernel⟩ (em_var 3 rfl) em_int) am_nil) fun u us ⟨t, hu⟩ hus => ⟨t, by rw [hu, hus]⟩) (fun as ⟨t, e⟩ => ⟨_, _, e, bm_nil ⟨(y / 1000).toNat, ?_, 1000 * x + t, y / 1000, rfl, rfl⟩⟩) rfl sc__law_far_draw.nd
    rw [ek]
    omega
  · subst e
    refine bm_ret (P := isIn m) (em_ixL' (em_lst (am_cons (em_mod hm (em_var 2 rfl) (em_var 1 rfl)) (am_cons em_int (am_cons (em_sub (em_var 1 rfl) em_int) (am_cons (em_mod hm (em_var 2 rfl) (em_var 1 rfl)) am_nil))))) (em_callB (n := 0) (P := isIn 4) Ft hr rfl (am_cons em_int am_nil) fun as e => ⟨⟨4, e, by decide⟩, fun d hd => hd 4 e⟩) fun u v hu ⟨t, hv, h0, h1⟩ => ?_) fun v d G H hd e => ⟨d, hd, fun m' h => by rw [← int_inj h]; exact e⟩
    have a0 : 0 ≤ x % m := Int.emod_nonneg _ (by omega)
    have a1 : x % m < m := Int.emod_lt_of_pos _ hm
    have ht : t = 0 ∨ t = 1 ∨ t = 2 ∨ t = 3 := by omega
    rcases ht with rfl | rfl | rfl | rfl
    · exact ⟨_, _, _, hu, hv, rfl, _, rfl, a0, a1⟩
    · exact ⟨_, _, _, hu, hv, rfl, _, rfl, by omega, by omega⟩
    · exact ⟨_, _, _, hu, hv, rfl, _, rfl, by omega, by omega⟩
    · exact ⟨_, _, _, hu, hv, rfl, _, rfl, a0, a1⟩
theorem ok__law_common (F : FnP K "_law_common" s__law_common f fd) : FnOk P w K mg base CX0 1 f fd ["one", "other"] sp_gcd := by
  refine fn_P F sc__law_common (fun as ⟨m, n, e⟩ => by rw [e]; rfl) fun cdv A outer s H E G as hr sm ⟨m, n, e⟩ => ?_
  subst e
  refine bm_while (N1 := fun ds' => ds' = [.dat (.int (Nat.gcd m n : Nat)), .dat (.int 0)]) (fun k ds' => ∃ p q : Nat, ds' = [.dat (.int p), .dat (.int q)] ∧ k = q ∧ Nat.gcd p q = Nat.gcd m n) n ⟨m, n, rfl, rfl, rfl⟩ PassesOwn.never (fun k ds' ⟨p, q, e, ek, eg⟩ => ?_) (fun ds' e => ?_)
  · subst e
    refine ⟨_, tm_neI (em_var 1 rfl) em_int, fun hx => ?_, fun hx => ?_⟩
    · have hq : 0 < (q : Int) := by
        have : ¬ (q : Int) = 0 := by simpa using hx
        omega
      refine bm_par 0 1 (am_cons (em_var 1 rfl) (am_cons (em_mod hq (em_var 0 rfl) (em_var 1 rfl)) am_nil)) (fun as e => ⟨_, _, e, bm_nil ⟨p % q, by rw [ek]; exact Nat.mod_lt _ (by omega), q, p % q, rfl, rfl, ?_⟩⟩) rfl sc__law_common.nd
      rw [Nat.gcd_comm, ← Nat.gcd_rec, Nat.gcd_comm]
      exact eg
    · have : (q : Int) = 0 := by simpa using hx
      have : q = 0 := by omega
      subst this
      rw [Nat.gcd_zero_right] at eg
      rw [eg]
      rfl
  · subst e
    exact bm_ret (em_var 0 rfl) fun v d G H hd e => ⟨d, hd, e⟩
abbrev sp_made : Sp := spF (fun as => ∃ (m : Int) (n : Nat), as = [.int m, .int n] ∧ 0 < n ∧ n < 2 ^ 8010) fun as => match as with | [.int m, .int n] => rt (mkRat m n.toNat) | _ => .none
theorem ok__law_made (F : FnP K "_law_made" s__law_made f fd) (B : Bi mg) (Fg : Fk P w K mg base "_law_common" 1 ["one", "other"] sp_gcd) : FnOk P w K mg base CX0 2 f fd ["top", "bottom"] sp_made := by
  refine fn_P F sc__law_made (fun as ⟨m, n, e, _⟩ => by rw [e]; rfl) fun cdv A outer s H E G as hr sm ⟨m, n, e, hn, hb⟩ => ?_
  subst e
  refine bm_set (d := .int (Nat.gcd m.natAbs n : Nat)) 2 (em_callF Fg hr (am_cons (em_abs (em_var 0 rfl) B.abs) (am_cons (em_var 1 rfl) am_nil)) ⟨m.natAbs, n, rfl⟩) ?_ sc__law_made.nd
  have hg : 0 < Nat.gcd m.natAbs n := Nat.gcd_pos_of_pos_right _ hn
  have hl : Nat.gcd m.natAbs n < 2 ^ 8010 := Nat.lt_of_le_of_lt (Nat.gcd_le_right _ hn) hb
  have hd : ∀ i : Int, CDivW i (Nat.gcd m.natAbs n : Nat) := fun i => wide_div (b := 8010) (Int.natCast_pos.mpr hg) hl (by decide) (by decide)
  refine bm_ret (em_tup (am_cons (em_fdiv (hd _) (em_var 0 rfl) (em_var 2 rfl)) (am_cons (em_fdiv (hd _) (em_var 1 rfl) (em_var 2 rfl)) am_nil))) fun v d G H hd e => ⟨d, hd, ?_⟩
  rw [e]
  exact (mkRat_rt m n hn).symm
abbrev pre2 (as : List PyData) : Prop := ∃ x y : Rat, as = [rt x, rt y] ∧ Smq x ∧ Smq y
abbrev sp2 (g : Rat → Rat → PyData) : Sp := spP pre2 fun as d => ∀ x y : Rat, as = [rt x, rt y] → d = g x y
theorem made_pre {t : Int} {x y : Rat} (hx : Smq x) (hy : Smq y) : ∃ (m : Int) (n : Nat), [PyData.int t, .int ((x.den : Int) * (y.den : Int))] = [.int m, .int n] ∧ 0 < n ∧ n < 2 ^ 8010 :=
  ⟨t, x.den * y.den, by rw [Int.natCast_mul], Nat.mul_pos x.den_pos y.den_pos, mul_small hx.d hy.d⟩
theorem made_is (t : Int) (x y : Rat) : rt (mkRat t ((x.den : Int) * (y.den : Int)).toNat) = rt (mkRat t (x.den * y.den)) := rfl
theorem ok__law_plus (F : FnP K "_law_plus" s__law_plus f fd) (Fm : Fk P w K mg base "_law_made" 2 ["top", "bottom"] sp_made) : FnOk P w K mg base CX0 3 f fd ["one", "other"] (sp2 fun x y => rt (x + y)) := by
  refine fn_P F sc__law_plus (fun as ⟨x, y, e, _⟩ => by rw [e]; rfl) fun cdv A outer s H E G as hr sm ⟨x, y, e, hx, hy⟩ => ?_
  subst e
  refine bm_ret (em_callF (d := rt (x + y)) Fm hr (am_cons (em_add (em_mul (cm hx.n hy.d') (em_ixT (by rfl) (em_var 0 rfl) em_int) (em_ixT (by rfl) (em_var 1 rfl) em_int)) (em_mul (cm hy.n hx.d') (em_ixT (by rfl) (em_var 1 rfl) em_int) (em_ixT (by rfl) (em_var 0 rfl) em_int))) (am_cons (em_mul (cm hx.d' hy.d') (em_ixT (by rfl) (em_var 0 rfl) em_int) (em_ixT (by rfl) (em_var 1 rfl) em_int)) am_nil)) (made_pre hx hy) ((made_is _ x y).trans (congrArg rt (mk_add x y)))) fun v d G H hd e => ⟨d, hd, fun x' y' h => ?_⟩
  obtain ⟨rfl, rfl⟩ := rts h
  exact e
theorem ok__law_minus (F : FnP K "_law_minus" s__law_minus f fd) (Fm : Fk P w K mg base "_law_made" 2 ["top", "bottom"] sp_made) : FnOk P w K mg base CX0 3 f fd ["one", "other"] (sp2 fun x y => rt (x - y)) := by
  refine fn_P F sc__law_minus (fun as ⟨x, y, e, _⟩ => by rw [e]; rfl) fun cdv A outer s H E G as hr sm ⟨x, y, e, hx, hy⟩ => ?_
  subst e
  refine bm_ret (em_callF (d := rt (x - y)) Fm hr (am_cons (em_sub (em_mul (cm hx.n hy.d') (em_ixT (by rfl) (em_var 0 rfl) em_int) (em_ixT (by rfl) (em_var 1 rfl) em_int)) (em_mul (cm hy.n hx.d') (em_ixT (by rfl) (em_var 1 rfl) em_int) (em_ixT (by rfl) (em_var 0 rfl) em_int))) (am_cons (em_mul (cm hx.d' hy.d') (em_ixT (by rfl) (em_var 0 rfl) em_int) (em_ixT (by rfl) (em_var 1 rfl) em_int)) am_nil)) (made_pre hx hy) ((made_is _ x y).trans (congrArg rt (mk_sub x y)))) fun v d G H hd e => ⟨d, hd, fun x' y' h => ?_⟩
  obtain ⟨rfl, rfl⟩ := rts h
  exact e
theorem ok__law_below (F : FnP K "_law_below" s__law_below f fd) : FnOk P w K mg base CX0 1 f fd ["one", "other"] (sp2 fun x y => .bool (decide (x < y))) := by
  refine fn_P F sc__law_below (fun as ⟨x, y, e, _⟩ => by rw [e]; rfl) fun cdv A outer s H E G as hr sm ⟨x, y, e, hx, hy⟩ => ?_
  subst e
  refine bm_ret (em_lt (em_mul (cm hx.n hy.d') (em_ixT (by rfl) (em_var 0 rfl) em_int) (em_ixT (by rfl) (em_var 1 rfl) em_int)) (em_mul (cm hy.n hx.d') (em_ixT (by rfl) (em_var 1 rfl) em_int) (em_ixT (by rfl) (em_var 0 rfl) em_int))) fun v d G H hd e => ⟨d, hd, fun x' y' h => ?_⟩
  obtain ⟨rfl, rfl⟩ := rts h
  rw [e]
  congr 1
  exact decide_eq_decide.mpr (Rat.lt_iff x y).symm
end
end Pb
namespace Pb
open PySem PySem.Spec PyProof.Rows L2 Dn
/-! ### data that may be compared -/
structure Shp (n : Nat) (d : PyData) : Prop where
  c : d.canLay0 = true
  k : d.depth ≤ n
theorem Shp.shaped {n : Nat} {d : PyData} (h : Shp n d) (hn : n ≤ 64) : SeqAt.shaped d = true := by
  show (d.canLay0 && decide (d.depth ≤ 64)) = true
  rw [h.c, decide_eq_true (Nat.le_trans h.k hn)]
  rfl
theorem Shp.int (i : Int) : Shp 0 (.int i) := ⟨by simp only [PyData.canLay0], by simp only [PyData.depth, Nat.le_refl]⟩
theorem Shp.pour (x : Pour) : Shp 0 x.d := by
  have h := shaped_pour x
  have a : x.d.canLay0 = true := (Bool.and_eq_true_iff.mp h).1
  refine ⟨a, ?_⟩
  cases x <;> simp [PyData.depth]
theorem Shp.all {n : Nat} : ∀ {xs : List PyData}, (∀ x ∈ xs, Shp n x) → PyData.canLayAll0 xs = true ∧ PyData.depthAll xs ≤ n
  | [], _ => ⟨by simp only [PyData.canLayAll0], by simp only [PyData.depthAll, Nat.zero_le]⟩
  | x :: xs, h => by
    obtain ⟨a, b⟩ := Shp.all (xs := xs) fun y hy => h y (List.mem_cons_of_mem _ hy)
    have c := h x (List.mem_cons_self ..)
    exact ⟨by simp only [PyData.canLayAll0, c.c, a, Bool.and_self], by simp only [PyData.depthAll]; exact Nat.max_le.mpr ⟨c.k, b⟩⟩
theorem Shp.tup {n : Nat} {xs : List PyData} (h : ∀ x ∈ xs, Shp n x) : Shp (n + 1) (.tuple xs) := by
  obtain ⟨a, b⟩ := Shp.all h
  exact ⟨by simp only [PyData.canLay0, a], by simp only [PyData.depth]; omega⟩
theorem Shp.lst {n : Nat} {xs : List PyData} (h : ∀ x ∈ xs, Shp n x) : Shp (n + 1) (.list xs) := by
  obtain ⟨a, b⟩ := Shp.all h
  exact ⟨by simp only [PyData.canLay0, a], by simp only [PyData.depth]; omega⟩
theorem Shp.mono {n m : Nat} {d : PyData} (h : Shp n d) (hm : n ≤ m) : Shp m d := ⟨h.c, Nat.le_trans h.k hm⟩
theorem Shp.rt (q : Rat) : Shp 1 (Pb.rt q) := .tup fun x hx => by
  rcases List.mem_cons.mp hx with e | hx
  · rw [e]
    exact .int _
  · have e : x = .int q.den := by simpa using hx
    rw [e]
    exact .int _
theorem Shp.row (r : List Pour) : Shp 1 (rowD r) := .tup fun x hx => by
  obtain ⟨p, _, rfl⟩ := List.mem_map.mp hx
  exact .pour p
theorem eqv_same {n : Nat} {d : PyData} (h : Shp n d) : PyData.eqv d d = true := SeqAt.eqv_refl d h.c
section
variable {X : Cx} {W : Wr} {ds : List Sl} {e : Expr} {es : List Expr} {pos p2 : Pos}
theorem em_call2 {x : Str} {k : Nat} {ps : List Str} {g : Rat → Rat → PyData} {u v : Rat} {d : PyData} (F : Fk X.prog X.w X.K X.mg X.base x k ps (sp2 g)) (hr : Room k X.A) (ha : Am X W ds (e :: es) (· = [rt u, rt v])) (hu : Smq u) (hv : Smq v) (hd : g u v = d := by rfl) (hg : Gl X x := by rfl)
    (hdb : (x == ("__debug__" : Str)) = false := by decide) (he : starEach (e :: es) X.env = (false, eval e X.env) :: starEach es X.env := by rfl) (hpl : (backTo pos (starEach es X.env)).any (·.1) = false := by rfl) : Em X W ds (.Call (.Name x p2) (e :: es) [] pos) (· = d) :=
  em_call' F hr ha (fun _ e => by rw [e]; exact ⟨⟨u, v, rfl, hu, hv⟩, fun d' h => (h u v rfl).trans hd⟩) hg hdb he hpl
end
theorem rt1 : rt 1 = .tuple [.int 1, .int 1] := rfl
section
variable {P : Program} {w : World} {K : PySem.W.Frag} {mg : Str → Option Value} {base : Heap} {f : Addr} {fd : FuncData}
abbrev sp_a_part : Sp := spB (fun as => as = []) fun _ d => ∃ p, d = rt p ∧ Part p
theorem ok__law_a_part (F : FnP K "_law_a_part" s__law_a_part f fd) (Ft : Fk P w K mg base "_law_take" 1 ["bag", "many"] sp_take) (Fm : Fk P w K mg base "_law_made" 2 ["top", "bottom"] sp_made) : FnOk P w K mg base CX0 3 f fd ["bag"] sp_a_part := by
  refine fn_B F sc__law_a_part (fun as e => by rw [e]; rfl) fun cdv A outer s H E G b as hr ok e => ?_
  subst e
  refine bm_set' (P := fun d => ∃ t : Int, d = .int (2 + t) ∧ 0 ≤ t ∧ t < 11) 1 (em_add' em_int (em_callB (n := 0) (P := isIn 11) Ft (hr.mono (by decide)) rfl (am_cons em_int am_nil) fun as e => ⟨⟨11, e, by decide⟩, fun d hd => hd 11 e⟩) fun u v hu ⟨t, hv, h0, h1⟩ => ⟨2, t, hu, hv, t, rfl, h0, h1⟩) (fun d ⟨t, e, h0, h1⟩ => ?_) sc__law_a_part.nd
  subst e
  refine bm_ret (P := fun d => ∃ p, d = rt p ∧ Part p) (em_call' Fm hr (Pa := fun as => ∃ u : Int, as = [.int (1 + u), .int (2 + t)] ∧ 0 ≤ u ∧ u < 1 + t) (am_cons' (Pa := fun d => ∃ u : Int, d = .int (1 + u) ∧ 0 ≤ u ∧ u < 1 + t) (em_add' em_int (em_callB (n := 0) (P := isIn (1 + t)) Ft (hr.mono (by decide)) rfl (am_cons (em_sub (em_var 1 rfl) em_int) am_nil) fun as e => ⟨⟨2 + t - 1, e, by omega⟩, fun d hd => ?_⟩) fun u v hu ⟨t', hv, h0, h1⟩ => ⟨1, t', hu, hv, t', rfl, h0, h1⟩) (am_cons (em_var 1 rfl) am_nil) fun u us ⟨t', hu, h0, h1⟩ hus => ⟨t', by rw [hu, hus], h0, h1⟩) fun as ⟨u, e, h2, h3⟩ => ?_) fun v d G H hd e => ⟨d, hd, e⟩
  · obtain ⟨x, e1, e2, e3⟩ := hd (2 + t - 1) e
    exact ⟨x, e1, e2, by omega⟩
  · obtain ⟨n, hn⟩ : ∃ n : Nat, 2 + t = n := ⟨(2 + t).toNat, by omega⟩
    rw [hn] at e
    have hn2 : 0 < n := by omega
    refine ⟨⟨1 + u, n, e, hn2, Nat.lt_of_le_of_lt (by omega : n ≤ 12) (Nat.lt_of_lt_of_le (by decide : 12 < 2 ^ 4) (Nat.pow_le_pow_right (by decide) (by decide)))⟩, fun d hd => ⟨mkRat (1 + u) n, ?_, mk_pos (by omega) hn2, mk_lt1 (by omega) hn2, Nat.le_trans (den_mk _ _ hn2) (by omega)⟩⟩
    rw [hd, e]
    rfl
abbrev sp_two_parts : Sp := spB (fun as => as = []) fun _ d => ∃ p q, d = ptD p q ∧ Parts p q
theorem ok__law_two_parts (F : FnP K "_law_two_parts" s__law_two_parts f fd) (Ft : Fk P w K mg base "_law_take" 1 ["bag", "many"] sp_take) (Fa : Fk P w K mg base "_law_a_part" 3 ["bag"] sp_a_part) (Fm : Fk P w K mg base "_law_minus" 3 ["one", "other"] (sp2 fun x y => rt (x - y))) (Fp : Fk P w K mg base "_law_plus" 3 ["one", "other"] (sp2 fun x y => rt (x + y))) (Fb : Fk P w K mg base "_law_below" 1 ["one", "other"] (sp2 fun x y => .bool (decide (x < y)))) : FnOk P w K mg base CX0 4 f fd ["bag"] sp_two_parts := by
  refine fn_B F sc__law_two_parts (fun as e => by rw [e]; rfl) fun cdv A outer s H E G b as hr ok e => ?_
  subst e
  refine bm_par (Pa := fun as => ∃ p q, as = [rt p, rt q] ∧ Part p ∧ Part q) 1 2 (am_cons' (Pa := fun d => ∃ p, d = rt p ∧ Part p) (em_callB (n := 0) Fa hr rfl am_nil fun as e => ⟨e, fun d h => h⟩) (am_cons' (Pa := fun d => ∃ p, d = rt p ∧ Part p) (P := fun us => ∃ q, us = [rt q] ∧ Part q) (em_callB (n := 0) Fa hr rfl am_nil fun as e => ⟨e, fun d h => h⟩) am_nil fun u us ⟨p, hu, hp⟩ hus => ⟨p, by rw [hu, hus], hp⟩) fun u us ⟨p, hu, hp⟩ ⟨q, hus, hq⟩ => ⟨p, q, by rw [hu, hus], hp, hq⟩) (fun as ⟨p, q, e, hp, hq⟩ => ⟨_, _, e, ?_⟩) rfl sc__law_two_parts.nd
  refine bm_if' (N1 := fun ds' => ∃ p q, ds' = [.raw (.ref b), .dat (rt p), .dat (rt q)] ∧ Part p ∧ Part q) (Pc := fun _ => True) (tm_eqI' (em_callB (n := 0) (P := isIn 4) Ft (hr.mono (by decide)) rfl (am_cons em_int am_nil) fun as e => ⟨⟨4, e, by decide⟩, fun d hd => hd 4 e⟩) em_int fun u v ⟨t, hu, _⟩ hv => ⟨t, 0, hu, hv, trivial⟩) (fun _ => ?_) (fun _ => bm_nil ⟨p, q, rfl, hp, hq⟩) fun ds' ⟨p, q, e, hp, hq⟩ => ?_
  · exact bm_set 2 (em_call2 (u := 1) (v := p) (d := rt (1 - p)) Fm hr (am_cons (em_is (em_tup (am_cons em_int (am_cons em_int am_nil))) rt1.symm) (am_cons (em_var 1 rfl) am_nil)) sm1 hp.sm) (bm_nil ⟨p, 1 - p, rfl, hp, hp.co⟩) sc__law_two_parts.nd
  subst e
  have sm2 : Smq (p + q) := by
    have a0 := hp.p0
    have a1 := hp.p1
    have b0 := hq.p0
    have b1 := hq.p1
    have hd : (p + q).den ≤ 144 := by
      rw [← mk_add]
      exact Nat.le_trans (den_mk _ _ (Nat.mul_pos p.den_pos q.den_pos)) (Nat.mul_le_mul hp.pd hq.pd)
    have h0 : 0 ≤ (p + q).num := nn (by grind)
    have h2 : (p + q).num ≤ 2 * (p + q).den := by
      have h : p + q ≤ 2 := by grind
      have := (Rat.le_iff (p + q) 2).mp h
      simpa using this
    have z : (512 : Nat) < 2 ^ 4000 := Nat.lt_of_lt_of_le (by decide : 512 < 2 ^ 10) (Nat.pow_le_pow_right (by decide) (by decide))
    exact ⟨by omega, by omega⟩
  refine bm_if' (N1 := fun ds' => ∃ p q, ds' = [.raw (.ref b), .dat (rt p), .dat (rt q)] ∧ Parts p q) (tm_val (em_call2 (u := p + q) (v := 1) (d := .bool (decide (p + q < 1))) Fb (hr.mono (by decide)) (am_cons (em_call2 (u := p) (v := q) (d := rt (p + q)) Fp hr (am_cons (em_var 1 rfl) (am_cons (em_var 2 rfl) am_nil)) hp.sm hq.sm) (am_cons (em_is (em_tup (am_cons em_int (am_cons em_int am_nil))) rt1.symm) am_nil)) sm2 sm1)) (fun h => ?_) (fun h => bm_nil ⟨p, q, rfl, .of hp hq ?_⟩) fun ds' ⟨p, q, e, hpq⟩ => ?_
  · have h : p + q < 1 := of_decide_eq_true h.symm
    refine bm_par 1 2 (am_cons (em_call2 (u := 1) (v := p) (d := rt (1 - p)) Fm hr (am_cons (em_is (em_tup (am_cons em_int (am_cons em_int am_nil))) rt1.symm) (am_cons (em_var 1 rfl) am_nil)) sm1 hp.sm) (am_cons (em_call2 (u := 1) (v := q) (d := rt (1 - q)) Fm hr (am_cons (em_is (em_tup (am_cons em_int (am_cons em_int am_nil))) rt1.symm) (am_cons (em_var 2 rfl) am_nil)) sm1 hq.sm) am_nil)) (fun as e => ⟨_, _, e, bm_nil ⟨1 - p, 1 - q, rfl, .of hp.co hq.co ?_⟩⟩) rfl sc__law_two_parts.nd
    grind
  · have h : ¬ p + q < 1 := of_decide_eq_false h.symm
    exact Rat.not_lt.mp h
  · subst e
    exact bm_ret (em_tup (am_cons (em_var 1 rfl) (am_cons (em_var 2 rfl) am_nil))) fun v d G H hd e => ⟨d, hd, p, q, e, hpq⟩
end
end Pb
namespace Pb
open PySem PySem.Spec PyProof.Rows L2 Dn
section
variable {P : Program} {w : World} {K : PySem.W.Frag} {mg : Str → Option Value} {base : Heap} {f : Addr} {fd : FuncData}
/-- shares as the law draws them -/
structure Drawn (s : Rat) : Prop where
  s0 : 0 ≤ s
  s1 : s ≤ 1
  sd : s.den ≤ 10 ^ 17
theorem Drawn.share {s : Rat} (h : Drawn s) : Share s := ⟨h.s0, h.s1, Nat.le_trans h.sd (by decide)⟩
abbrev sp_a_share : Sp := spB (fun as => as = []) fun _ d => ∃ s, d = rt s ∧ Drawn s
theorem ok__law_a_share (F : FnP K "_law_a_share" s__law_a_share f fd) (Ft : Fk P w K mg base "_law_take" 1 ["bag", "many"] sp_take) (Ff : Fk P w K mg base "_law_far_draw" 2 ["bag", "many"] sp_far) (Fm : Fk P w K mg base "_law_made" 2 ["top", "bottom"] sp_made) : FnOk P w K mg base CX0 3 f fd ["bag"] sp_a_share := by
  refine fn_B F sc__law_a_share (fun as e => by rw [e]; rfl) fun cdv A outer s H E G b as hr ok e => ?_
  subst e
  refine bm_set' (P := fun d => ∃ t : Int, d = .int (1 + t) ∧ 0 ≤ t ∧ t < 10 ^ 17) 1 (em_add' em_int (em_ixL' (P := isIn (10 ^ 17)) (em_lst' (P := fun d => ∃ t u : Int, d = .list [.int 0, .int t, .int u] ∧ (0 ≤ t ∧ t < 12) ∧ 0 ≤ u ∧ u < 10 ^ 17) (am_cons' (P := fun as => ∃ t u : Int, as = [.int 0, .int t, .int u] ∧ (0 ≤ t ∧ t < 12) ∧ 0 ≤ u ∧ u < 10 ^ 17) em_int (am_cons' (P := fun as => ∃ t u : Int, as = [.int t, .int u] ∧ (0 ≤ t ∧ t < 12) ∧ 0 ≤ u ∧ u < 10 ^ 17) (em_callB (n := 0) (P := isIn 12) Ft (hr.mono (by decide)) rfl (am_cons em_int am_nil) fun as e => ⟨⟨12, e, by decide⟩, fun d hd => hd 12 e⟩)
      (am_cons' (P := fun as => ∃ u : Int, as = [.int u] ∧ 0 ≤ u ∧ u < 10 ^ 17) (em_callB (n := 0) (P := isIn (10 ^ 17)) Ff hr rfl (am_cons (em_pow ⟨by decide, by decide, by decide⟩ em_int em_int) am_nil) fun as e => ⟨⟨10 ^ 17, e, by decide⟩, fun d hd => hd (10 ^ 17) e⟩) am_nil fun u us ⟨t, hu, h⟩ hus => ⟨t, by rw [hu, hus], h⟩)
      fun u us ⟨t, hu, h⟩ ⟨t', hus, h'⟩ => ⟨t, t', by rw [hu, hus], h, h'⟩) fun u us hu ⟨t, t', hus, h⟩ => ⟨t, t', by rw [hu, hus], h⟩) fun as ⟨t, u, e, h⟩ => ⟨by rw [e]; exact Nat.le_of_ble_eq_true rfl, t, u, by rw [e], h⟩)
      (em_callB (n := 0) (P := isIn 3) Ft (hr.mono (by decide)) rfl (am_cons em_int am_nil) fun as e => ⟨⟨3, e, by decide⟩, fun d hd => hd 3 e⟩) fun x y ⟨t, u, hx, h1, h2⟩ ⟨i, hy, h3, h4⟩ => ?_) fun u v hu ⟨t, hv, h0, h1⟩ => ⟨1, t, hu, hv, t, rfl, h0, h1⟩) (fun d ⟨t, e, h0, h1⟩ => ?_) sc__law_a_share.nd
  · have hi : i = 0 ∨ i = 1 ∨ i = 2 := by omega
    rcases hi with rfl | rfl | rfl
    · exact ⟨_, _, _, hx, hy, rfl, _, rfl, by omega, by decide⟩
    · exact ⟨_, _, _, hx, hy, rfl, _, rfl, by omega, by omega⟩
    · exact ⟨_, _, _, hx, hy, rfl, _, rfl, h2.1, h2.2⟩
  · subst e
    refine bm_ret (P := fun d => ∃ s, d = rt s ∧ Drawn s) (em_call' Fm hr (Pa := fun as => ∃ u : Int, as = [.int u, .int (1 + t)] ∧ 0 ≤ u ∧ u ≤ 1 + t) (am_cons' (em_callB (n := 0) (P := isIn (2 + t)) Ff hr rfl (am_cons (em_add (em_var 1 rfl) em_int) am_nil) fun as e => ⟨⟨1 + t + 1, e, by omega⟩, fun d hd => ?_⟩) (am_cons (em_var 1 rfl) am_nil) fun u us ⟨t', hu, h0, h1⟩ hus => ⟨t', by rw [hu, hus], h0, by omega⟩) fun as ⟨u, e, h2, h3⟩ => ?_) fun v d G H hd e => ⟨d, hd, e⟩
    · obtain ⟨x, e1, e2, e3⟩ := hd (1 + t + 1) e
      exact ⟨x, e1, e2, by omega⟩
    · obtain ⟨n, hn⟩ : ∃ n : Nat, 1 + t = n := ⟨(1 + t).toNat, by omega⟩
      rw [hn] at e
      have hn2 : 0 < n := by omega
      refine ⟨⟨u, n, e, hn2, Nat.lt_of_le_of_lt (by omega : n ≤ 10 ^ 17) (Nat.lt_of_lt_of_le (by decide : 10 ^ 17 < 2 ^ 60) (Nat.pow_le_pow_right (by decide) (by decide)))⟩, fun d hd => ⟨mkRat u n, ?_, mk_nn h2 hn2, mk_le1 (by omega) hn2, Nat.le_trans (den_mk _ _ hn2) (by omega)⟩⟩
      rw [hd, e]
      rfl
abbrev sp_a_row : Sp := spB (fun as => ∃ m : Int, as = [.int m] ∧ 0 ≤ m ∧ m ≤ 1000) fun as d => ∀ m : Int, as = [.int m] → ∃ r : List Pour, d = rowD r ∧ (r.length : Int) ≤ m
theorem all_pours : ∀ (ys : List PyData), (∀ (n : Nat) y, ys[n]? = some y → ∃ x : Pour, y = x.d) → ∃ r : List Pour, ys = r.map Pour.d
  | [], _ => ⟨[], rfl⟩
  | y :: ys, h => by
    obtain ⟨x, rfl⟩ := h 0 y rfl
    obtain ⟨r, rfl⟩ := all_pours ys fun n y e => h (n + 1) y e
    exact ⟨x :: r, rfl⟩
theorem ok__law_a_row (F : FnP K "_law_a_row" s__law_a_row f fd) (B : Bi mg) (J : Bj mg) (Ft : Fk P w K mg base "_law_take" 1 ["bag", "many"] sp_take) : FnOk P w K mg base CX0 2 f fd ["bag", "most"] sp_a_row := by
  refine fn_B F sc__law_a_row (fun as ⟨m, e, _⟩ => by rw [e]; rfl) fun cdv A outer s H E G b as hr ok ⟨m, e, h0, h1⟩ => ?_
  subst e
  refine bm_ret (P := fun d => ∃ r : List Pour, d = rowD r ∧ (r.length : Int) ≤ m) (em_tupleOf' (Pa := fun as => ∃ r : List Pour, as = r.map Pour.d ∧ (r.length : Int) ≤ m) (em_lcR (Pe := fun _ y => ∃ x : Pour, y = x.d) (Pz := fun z => 0 ≤ z ∧ z < m + 1) 2 (em_callB (n := 0) Ft hr rfl (am_cons (em_add (em_var 1 rfl) em_int) am_nil) fun as e => ⟨⟨m + 1, e, by omega⟩, fun d hd => hd (m + 1) e⟩) (fun z hz => ⟨hz.1, by omega⟩) (fun s H C cl fp z n hz hn => ?_) (fun z ys hz hl hy => ?_) rfl sc__law_a_row.nd (blkOk_by (N := ["bag", "most", "turn"]) (sc := defScope s__law_a_row) (by decide +kernel)) (fun s H C cl fp => pg_name (i := 2) sc__law_a_row.nd rfl (Or.inl rfl)) J.range) (fun as ⟨r, e, h⟩ => ⟨r, by rw [e], h⟩) B.tuple) fun v d G H hd e => ⟨d, hd, fun m' h => by rw [← int_inj h]; exact e⟩
  · refine em_ixL' (em_lst (am_cons em_str (am_cons em_str am_nil))) (em_callB (n := 0) (P := isIn 2) Ft (show Room 1 _ from hr) rfl (am_cons em_int am_nil) fun as e => ⟨⟨2, e, by decide⟩, fun d hd => hd 2 e⟩) fun x y hx ⟨i, hy, h3, h4⟩ => ?_
    have hi : i = 0 ∨ i = 1 := by omega
    rcases hi with rfl | rfl
    · exact ⟨_, _, _, hx, hy, rfl, .right, rfl⟩
    · exact ⟨_, _, _, hx, hy, rfl, .left, rfl⟩
  · obtain ⟨r, hr'⟩ := all_pours ys hy
    refine ⟨ys, rfl, r, hr', ?_⟩
    rw [hr', List.length_map] at hl
    omega
abbrev bE : Nat := 10 ^ 20 * 12 ^ 50
abbrev pre_end (as : List PyData) : Prop := ∃ p q s r, as = [ptD p q, rt s, rowD r] ∧ Parts p q ∧ Bq bE s ∧ r.length ≤ 40
abbrev sp_end : Sp := spP pre_end fun as d => ∀ p q s r, as = [ptD p q, rt s, rowD r] → d = rt (pours p q s r)
theorem end_tk {p q s : Rat} (hp : Parts p q) (hs : Bq bE s) {r : List Pour} (hr : r.length ≤ 40) (n : Nat) : Bq (10 ^ 20 * 12 ^ 90) (pours p q s (r.take n)) := by
  have h := hs.pours hp (r.take n)
  refine h.mono ?_
  rw [Nat.mul_assoc, ← Nat.pow_add]
  refine Nat.mul_le_mul_left _ (Nat.pow_le_pow_right (by decide) ?_)
  rw [List.length_take]
  omega
theorem big2 : 10 ^ 20 * 12 ^ 90 * 12 < 2 ^ 4000 := by
  rw [Nat.mul_assoc, ← Nat.pow_succ]
  exact big (by decide)
abbrev sp_drawn : Sp := spB (fun as => ∃ m : Int, as = [.int m] ∧ 0 ≤ m ∧ m ≤ 1000) fun as d => ∀ m : Int, as = [.int m] → ∃ p q s r, d = .tuple [ptD p q, rt s, rowD r] ∧ Parts p q ∧ Drawn s ∧ (r.length : Int) ≤ m
theorem ok__law_drawn (F : FnP K "_law_drawn" s__law_drawn f fd) (F1 : Fk P w K mg base "_law_two_parts" 4 ["bag"] sp_two_parts) (F2 : Fk P w K mg base "_law_a_share" 3 ["bag"] sp_a_share) (F3 : Fk P w K mg base "_law_a_row" 2 ["bag", "most"] sp_a_row) : FnOk P w K mg base CX0 5 f fd ["bag", "most"] sp_drawn := by
  refine fn_B F sc__law_drawn (fun as ⟨m, e, _⟩ => by rw [e]; rfl) fun cdv A outer s H E G b as hr ok ⟨m, e, h0, h1⟩ => ?_
  subst e
  refine bm_set' (P := fun d => ∃ p q, d = ptD p q ∧ Parts p q) 2 (em_callB (n := 0) F1 hr rfl am_nil fun as e => ⟨e, fun d h => h⟩) (fun d ⟨p, q, e, hp⟩ => ?_) sc__law_drawn.nd
  subst e
  refine bm_set' (P := fun d => ∃ s, d = rt s ∧ Drawn s) 3 (em_callB (n := 0) F2 (hr.mono (by decide)) rfl am_nil fun as e => ⟨e, fun d h => h⟩) (fun d ⟨s, e, hs⟩ => ?_) sc__law_drawn.nd
  subst e
  refine bm_ret (P := fun d => ∃ p q s r, d = .tuple [ptD p q, rt s, rowD r] ∧ Parts p q ∧ Drawn s ∧ (r.length : Int) ≤ m) (em_tup' (Pa := fun as => ∃ r : List Pour, as = [ptD p q, rt s, rowD r] ∧ (r.length : Int) ≤ m) (am_cons' (em_var 2 rfl) (am_cons' (P := fun as => ∃ r : List Pour, as = [rt s, rowD r] ∧ (r.length : Int) ≤ m) (em_var 3 rfl) (am_cons' (P := fun as => ∃ r : List Pour, as = [rowD r] ∧ (r.length : Int) ≤ m) (em_callB (n := 0) (P := fun d => ∃ r : List Pour, d = rowD r ∧ (r.length : Int) ≤ m) F3 (hr.mono (by decide)) rfl (am_cons (em_var 1 rfl) am_nil) fun as e => ⟨⟨m, e, h0, h1⟩, fun d hd => hd m e⟩) am_nil fun u us ⟨r, hu, h⟩ hus => ⟨r, by rw [hu, hus], h⟩) fun u us hu ⟨r, hus, h⟩ => ⟨r, by rw [hu, hus], h⟩) fun u us hu ⟨r, hus, h⟩ => ⟨r, by rw [hu, hus], h⟩) fun as ⟨r, e, h⟩ => ⟨by rw [e]; exact Nat.le_of_ble_eq_true rfl, p, q, s, r, by rw [e], hp, hs, h⟩) fun v d G H hd e => ⟨d, hd, fun m' h => by rw [← int_inj h]; exact e⟩
end
end Pb
namespace Pb
open PySem PySem.Spec PyProof.Rows L2 Dn
/-! ### data of pours: equal, cut, counted -/
theorem eqv_rt (a b : Rat) : PyData.eqv (rt a) (rt b) = decide (a = b) := by
  by_cases h : a = b
  · subst h
    rw [eqv_same (.rt a), decide_eq_true rfl]
  · rw [decide_eq_false h]
    show PyData.eqv (.tuple [.int a.num, .int a.den]) (.tuple [.int b.num, .int b.den]) = false
    simp only [PyData.eqv, PyData.eqvAll, Bool.and_true]
    by_cases e1 : a.num = b.num
    · have e2 : ¬ (a.den : Int) = (b.den : Int) := fun z => h (Rat.ext e1 (Int.ofNat.inj z))
      rw [show ((a.den : Int) == (b.den : Int)) = false from beq_eq_false_iff_ne.mpr e2, Bool.and_false]
    · rw [show (a.num == b.num) = false from beq_eq_false_iff_ne.mpr e1, Bool.false_and]
theorem rt0 : rt 0 = .tuple [.int 0, .int 1] := rfl
theorem neq_same {n : Nat} {d : PyData} (h : Shp n d) : (!PyData.eqv d d) = false := by
  rw [eqv_same h]
  rfl
theorem rep_row (n : Nat) (x : Pour) : (List.replicate n [x.d]).flatten = (List.replicate n x).map Pour.d := by
  induction n with
  | zero => rfl
  | succ n ih =>
    rw [List.replicate_succ, List.flatten_cons, ih, List.replicate_succ]
    rfl
theorem eqv_pour (x y : Pour) : PyData.eqv x.d y.d = decide (x = y) := by
  cases x <;> cases y <;> decide +kernel
theorem eqv_rows : ∀ r o : List Pour, PyData.eqvAll (r.map Pour.d) (o.map Pour.d) = decide (r = o)
  | [], [] => rfl
  | [], _ :: _ => rfl
  | _ :: _, [] => rfl
  | x :: r, y :: o => by
    show PyData.eqvAll (x.d :: r.map Pour.d) (y.d :: o.map Pour.d) = _
    simp only [PyData.eqvAll]
    rw [eqv_pour, eqv_rows r o]
    by_cases h1 : x = y
    · by_cases h2 : r = o
      · rw [decide_eq_true h1, decide_eq_true h2, decide_eq_true (by rw [h1, h2])]
        rfl
      · rw [decide_eq_false h2, decide_eq_false (fun z => h2 (List.cons.inj z).2), Bool.and_false]
    · rw [decide_eq_false h1, decide_eq_false (fun z => h1 (List.cons.inj z).1), Bool.false_and]
theorem eqv_row (r o : List Pour) : PyData.eqv (rowD r) (rowD o) = decide (r = o) := by
  show PyData.eqv (.tuple (r.map Pour.d)) (.tuple (o.map Pour.d)) = _
  simp only [PyData.eqv]
  exact eqv_rows r o
theorem cut_to (r : List Pour) (n : Nat) : Dn.cutD (r.map Pour.d) none (some (n : Int)) = (r.take n).map Pour.d := by
  unfold Dn.cutD
  have h1 : HT.sIx (r.map Pour.d).length 0 none = 0 := rfl
  have h2 : HT.sIx (r.map Pour.d).length (r.map Pour.d).length (some (n : Int)) = min n (r.map Pour.d).length := HT.sIx_nat _ _ n
  rw [h1, h2, List.drop_zero, Nat.sub_zero, List.map_take]
  by_cases h : n ≤ (r.map Pour.d).length
  · rw [Nat.min_eq_left h]
  · rw [Nat.min_eq_right (by omega), List.take_length, List.take_of_length_le (by omega)]
theorem cut_from (r : List Pour) (n : Nat) : Dn.cutD (r.map Pour.d) (some (n : Int)) none = (r.drop n).map Pour.d := by
  unfold Dn.cutD
  have h1 : HT.sIx (r.map Pour.d).length (r.map Pour.d).length none = (r.map Pour.d).length := rfl
  have h2 : HT.sIx (r.map Pour.d).length 0 (some (n : Int)) = min n (r.map Pour.d).length := HT.sIx_nat _ _ n
  rw [h1, h2, List.map_drop]
  by_cases h : n ≤ (r.map Pour.d).length
  · rw [Nat.min_eq_left h, List.take_of_length_le (by rw [List.length_drop]; exact Nat.le_refl _)]
  · rw [Nat.min_eq_right (by omega), Nat.sub_self, List.take_zero, List.drop_eq_nil_of_le (by omega)]
theorem count_row (r : List Pour) : ((r.map Pour.d).countP fun z => PyData.eqv z (.str "left")) = r.count .left := by
  induction r with
  | nil => rfl
  | cons x r ih =>
    rw [List.map_cons, List.countP_cons, ih, List.count_cons]
    have e : PyData.eqv x.d (.str "left") = (x == Pour.left) := by
      rw [pour_eqv_l]
      cases x <;> rfl
    rw [e]
theorem plain_row (r : List Pour) : PyData.plainAll (r.map Pour.d) = true := by
  induction r with
  | nil => rfl
  | cons x r ih =>
    show PyData.plainAll (x.d :: r.map Pour.d) = true
    simp only [PyData.plainAll]
    rw [ih]
    cases x <;> rfl
theorem share_of {s : Rat} (h : isShareD (rt s) = true) : Share s := by
  have h : (isFracD (rt s) && (decide (0 ≤ s.num) && (decide (s.num ≤ (s.den : Int)) && decide ((s.den : Int) ≤ 99999999999999999999)))) = true := h
  rw [Bool.and_eq_true, Bool.and_eq_true, Bool.and_eq_true] at h
  obtain ⟨_, h1, h2, h3⟩ := h
  have h1 := of_decide_eq_true h1
  have h2 := of_decide_eq_true h2
  have h3 := of_decide_eq_true h3
  refine ⟨Rat.num_nonneg.mp h1, (Rat.le_iff s 1).mpr (by simpa using h2), by omega⟩
theorem list_of {f : Pour → PyData} {r : List Pour} {ys : List PyData} (hl : ys.length = r.length) (h : ∀ (n : Nat) y x, ys[n]? = some y → r[n]? = some x → y = f x) : ys = r.map f := by
  refine List.ext_getElem? fun n => ?_
  rw [List.getElem?_map]
  cases e : ys[n]? with
  | none =>
    have : r[n]? = none := List.getElem?_eq_none (by rw [← hl]; exact List.getElem?_eq_none_iff.mp e)
    rw [this]
    rfl
  | some y =>
    have hn : n < r.length := by
      rw [← hl]
      exact (List.getElem?_eq_some_iff.mp e).1
    rw [List.getElem?_eq_getElem hn]
    exact congrArg some (h n y _ e (List.getElem?_eq_getElem hn))
end Pb
namespace Pb
open PySem PySem.Spec PyProof.Rows L2 Dn
/-! ### things: not too deep, not too long -/
def thB (m : Nat) : Nat → PyData → Bool
  | _, .none => true
  | _, .bool _ => true
  | _, .int _ => true
  | _, .str x => PyData.canLay0 (.str x)
  | k + 1, .list xs => decide (xs.length ≤ m) && xs.all (thB m k)
  | k + 1, .tuple xs => decide (xs.length ≤ m) && xs.all (thB m k)
  | _, _ => false
def Th (m k : Nat) (d : PyData) : Prop := thB m k d = true
theorem Th.int {m k : Nat} (i : Int) : Th m k (.int i) := by
  cases k <;> rfl
theorem Th.seq {m k : Nat} {xs : List PyData} (hl : xs.length ≤ m) (h : ∀ x ∈ xs, Th m k x) : Th m (k + 1) (.list xs) ∧ Th m (k + 1) (.tuple xs) := by
  have e : (decide (xs.length ≤ m) && xs.all (thB m k)) = true := by
    rw [decide_eq_true hl, Bool.true_and, List.all_eq_true]
    exact h
  exact ⟨e, e⟩
theorem Th.tup {m k : Nat} {xs : List PyData} (hl : xs.length ≤ m) (h : ∀ x ∈ xs, Th m k x) : Th m (k + 1) (.tuple xs) := (Th.seq hl h).2
theorem Th.lst {m k : Nat} {xs : List PyData} (hl : xs.length ≤ m) (h : ∀ x ∈ xs, Th m k x) : Th m (k + 1) (.list xs) := (Th.seq hl h).1
theorem Th.of {m k : Nat} {d : PyData} {xs : List PyData} (hd : d = .list xs ∨ d = .tuple xs) (h : Th m k d) : ∃ j, k = j + 1 ∧ xs.length ≤ m ∧ ∀ x ∈ xs, Th m j x := by
  cases k with
  | zero => rcases hd with rfl | rfl <;> exact absurd h (by unfold Th thB; exact Bool.false_ne_true)
  | succ j =>
    have e : (decide (xs.length ≤ m) && xs.all (thB m j)) = true := by rcases hd with rfl | rfl <;> exact h
    rw [Bool.and_eq_true, List.all_eq_true] at e
    exact ⟨j, rfl, of_decide_eq_true e.1, e.2⟩
theorem Th.mono {m m' : Nat} (hm : m ≤ m') : ∀ {k k' : Nat} {d : PyData}, k ≤ k' → Th m k d → Th m' k' d := by
  intro k
  induction k with
  | zero =>
    intro k' d hk h
    cases d with
    | none => cases k' <;> rfl
    | bool b => cases k' <;> rfl
    | int i => cases k' <;> rfl
    | str x => cases k' <;> exact h
    | list xs => exact absurd h (by unfold Th thB; exact Bool.false_ne_true)
    | tuple xs => exact absurd h (by unfold Th thB; exact Bool.false_ne_true)
    | dict _ => exact absurd h (by unfold Th thB; exact Bool.false_ne_true)
  | succ k ih =>
    intro k' d hk h
    obtain ⟨j, rfl⟩ : ∃ j, k' = j + 1 := ⟨k' - 1, by omega⟩
    cases d with
    | none => rfl
    | bool b => rfl
    | int i => rfl
    | str x => exact h
    | list xs =>
      obtain ⟨_, e, hl, hx⟩ := Th.of (.inl rfl) h
      cases e
      exact Th.lst (by omega) fun x q => ih (by omega) (hx x q)
    | tuple xs =>
      obtain ⟨_, e, hl, hx⟩ := Th.of (.inr rfl) h
      cases e
      exact Th.tup (by omega) fun x q => ih (by omega) (hx x q)
    | dict _ => exact absurd h (by unfold Th thB; exact Bool.false_ne_true)
theorem Th.shp {m : Nat} : ∀ {k : Nat} {d : PyData}, Th m k d → Shp k d := by
  intro k
  induction k with
  | zero =>
    intro d h
    cases d with
    | none => exact ⟨by simp only [PyData.canLay0], by simp only [PyData.depth, Nat.le_refl]⟩
    | bool b => exact ⟨by simp only [PyData.canLay0], by simp only [PyData.depth, Nat.le_refl]⟩
    | int i => exact .int i
    | str x => exact ⟨h, by simp only [PyData.depth, Nat.le_refl]⟩
    | list xs => exact absurd h (by unfold Th thB; exact Bool.false_ne_true)
    | tuple xs => exact absurd h (by unfold Th thB; exact Bool.false_ne_true)
    | dict _ => exact absurd h (by unfold Th thB; exact Bool.false_ne_true)
  | succ k ih =>
    intro d h
    cases d with
    | none => exact ⟨by simp only [PyData.canLay0], by simp only [PyData.depth, Nat.zero_le]⟩
    | bool b => exact ⟨by simp only [PyData.canLay0], by simp only [PyData.depth, Nat.zero_le]⟩
    | int i => exact (Shp.int i).mono (Nat.zero_le _)
    | str x => exact ⟨h, by simp only [PyData.depth, Nat.zero_le]⟩
    | list xs =>
      obtain ⟨_, e, hl, hx⟩ := Th.of (.inl rfl) h
      cases e
      exact .lst fun x q => ih (hx x q)
    | tuple xs =>
      obtain ⟨_, e, hl, hx⟩ := Th.of (.inr rfl) h
      cases e
      exact .tup fun x q => ih (hx x q)
    | dict _ => exact absurd h (by unfold Th thB; exact Bool.false_ne_true)
theorem Th.rt {m k : Nat} (hm : 2 ≤ m) (q : Rat) : Th m (k + 1) (Pb.rt q) := .tup hm fun x hx => by
  rcases List.mem_cons.mp hx with e | hx
  · rw [e]
    exact .int _
  · have e : x = .int q.den := by simpa using hx
    rw [e]
    exact .int _
theorem Th.row {m k : Nat} {r : List Pour} (hl : r.length ≤ m) : Th m (k + 1) (rowD r) := .tup (by rw [List.length_map]; exact hl) fun x hx => by
  obtain ⟨p, _, rfl⟩ := List.mem_map.mp hx
  have h := (Shp.pour p).c
  cases p <;> cases k <;> exact h
theorem Th.pt {m k : Nat} (hm : 2 ≤ m) (p q : Rat) : Th m (k + 2) (ptD p q) := .tup hm fun x hx => by
  rcases List.mem_cons.mp hx with e | hx
  · rw [e]
    exact .rt hm _
  · have e : x = Pb.rt q := by simpa using hx
    rw [e]
    exact .rt hm _
/-! ### lists cut -/
theorem cutD_to (xs : List PyData) (n : Nat) : Dn.cutD xs none (some (n : Int)) = xs.take n := by
  unfold Dn.cutD
  have h1 : HT.sIx xs.length 0 none = 0 := rfl
  have h2 : HT.sIx xs.length xs.length (some (n : Int)) = min n xs.length := HT.sIx_nat _ _ n
  rw [h1, h2, List.drop_zero, Nat.sub_zero]
  by_cases h : n ≤ xs.length
  · rw [Nat.min_eq_left h]
  · rw [Nat.min_eq_right (by omega), List.take_length, List.take_of_length_le (by omega)]
theorem cutD_from (xs : List PyData) (n : Nat) : Dn.cutD xs (some (n : Int)) none = xs.drop n := by
  unfold Dn.cutD
  have h1 : HT.sIx xs.length xs.length none = xs.length := rfl
  have h2 : HT.sIx xs.length 0 (some (n : Int)) = min n xs.length := HT.sIx_nat _ _ n
  rw [h1, h2]
  by_cases h : n ≤ xs.length
  · rw [Nat.min_eq_left h, List.take_of_length_le (by rw [List.length_drop]; exact Nat.le_refl _)]
  · rw [Nat.min_eq_right (by omega), Nat.sub_self, List.take_zero, List.drop_eq_nil_of_le (by omega)]
def isLstD : PyData → Bool
  | .list _ => true
  | _ => false
def isStrD : PyData → Bool
  | .str _ => true
  | _ => false
theorem kit_list : ∀ d : PyData, kitB (tyOf d) "list" = some (isLstD d)
  | .none => (by decide +kernel : kitB "NoneType" "list" = some false)
  | .bool _ => (by decide +kernel : kitB "bool" "list" = some false)
  | .int _ => (by decide +kernel : kitB "int" "list" = some false)
  | .str _ => (by decide +kernel : kitB "str" "list" = some false)
  | .list _ => (by decide +kernel : kitB "list" "list" = some true)
  | .tuple _ => (by decide +kernel : kitB "tuple" "list" = some false)
  | .dict _ => (by decide +kernel : kitB "dict" "list" = some false)
theorem kit_str : ∀ d : PyData, kitB (tyOf d) "str" = some (isStrD d)
  | .none => (by decide +kernel : kitB "NoneType" "str" = some false)
  | .bool _ => (by decide +kernel : kitB "bool" "str" = some false)
  | .int _ => (by decide +kernel : kitB "int" "str" = some false)
  | .str _ => (by decide +kernel : kitB "str" "str" = some true)
  | .list _ => (by decide +kernel : kitB "list" "str" = some false)
  | .tuple _ => (by decide +kernel : kitB "tuple" "str" = some false)
  | .dict _ => (by decide +kernel : kitB "dict" "str" = some false)
theorem list_boot : bootBuiltins "list" = some (.type "list") := by decide +kernel
theorem str_boot : bootBuiltins "str" = some (.type "str") := by decide +kernel
end Pb
namespace Pb
open PySem PySem.Spec PyProof.Rows L2 Dn
section
variable {P : Program} {w : World} {K : PySem.W.Frag} {mg : Str → Option Value} {base : Heap} {f : Addr} {fd : FuncData}
def fromD (a b : Int) : PyData → Bool
  | .int i => decide (a ≤ i) && decide (i ≤ b)
  | _ => false
abbrev sp_from : Sp := spP (fun as => ∃ (x : PyData) (a b : Int), as = [x, .int a, .int b]) fun as d => ∀ (x : PyData) (a b : Int), as = [x, .int a, .int b] → d = .bool (fromD a b x)
theorem ok__law_from (F : FnP K "_law_from" s__law_from f fd) (B : Bi mg) : FnOk P w K mg base CX0 1 f fd ["thing", "least", "top"] sp_from := by
  refine fn_P F sc__law_from (fun as ⟨x, a, b, e⟩ => by rw [e]; rfl) fun cdv A outer s H E G as hr sm ⟨x, a, b, e⟩ => ?_
  subst e
  suffices main : Em (Cx0 P w K mg base ["thing", "least", "top"] "_law_from" (defScope s__law_from) f cdv A outer s H E) pw (sl0 ["thing", "least", "top"] [x, .int a, .int b]) _ (· = .bool (fromD a b x)) from
    bm_ret main fun v d G H hd e => ⟨d, hd, fun x' a' b' h => by cases h; exact e⟩
  cases x with
  | int i => exact em_is (em_andB (em_isi (em_var 0 rfl) B.isi B.int boot_int (kit_int _)) fun _ => em_andB (em_not (em_isi (em_var 0 rfl) B.isi B.bool boot_bool (kit_bool _))) fun _ => em_andB (em_le (em_var 1 rfl) (em_var 0 rfl)) fun _ => em_one (em_le (em_var 0 rfl) (em_var 2 rfl))) rfl
  | bool z => exact em_is (em_andB (em_isi (em_var 0 rfl) B.isi B.int boot_int (kit_int _)) fun _ => em_andB (y := false) (em_not (em_isi (em_var 0 rfl) B.isi B.bool boot_bool (kit_bool _))) fun h => nomatch h) rfl
  | _ => exact em_is (em_andB (y := false) (em_isi (em_var 0 rfl) B.isi B.int boot_int (kit_int _)) fun h => nomatch h) rfl
theorem em_from {X : Cx} {W : Wr} {ds : List Sl} {a b c : Expr} {pos p2 : Pos} {x : PyData} {i j : Int} {z : Bool} (F : Fk X.prog X.w X.K X.mg X.base "_law_from" 1 ["thing", "least", "top"] sp_from) (hr : Room 1 X.A) (ha : Em X W ds a (· = x)) (hb : Em X W ds b (· = .int i)) (hc : Em X W ds c (· = .int j)) (hz : fromD i j x = z) (hg : Gl X "_law_from" := by rfl) (h1 : starEach [a, b, c] X.env = (false, eval a X.env) :: starEach [b, c] X.env := by rfl) (h2 : starEach [b, c] X.env = (false, eval b X.env) :: starEach [c] X.env := by rfl) (h3 : starEach [c] X.env = (false, eval c X.env) :: starEach [] X.env := by rfl) (hpl : (backTo pos (starEach [b, c] X.env)).any (·.1) = false := by rfl) : Em X W ds (.Call (.Name "_law_from" p2) [a, b, c] [] pos) (· = .bool z) :=
  em_mono (em_call F hr (am_cons ha (am_cons hb (am_cons hc am_nil h3) h2) h1) ⟨x, i, j, rfl⟩ hg (by decide) h1 hpl) fun d h => (h x i j rfl).trans (congrArg PyData.bool hz)
theorem share_at {x y : PyData} : isShareD (.tuple [x, y]) = match y with | .int b => fromD 1 99999999999999999999 y && (fromD 0 b x && match x with | .int t => decide (Int.gcd t b = 1) | _ => false) | _ => false := by
  cases y with
  | int b => cases x with
    | int t =>
      show ((decide (1 ≤ b) && decide ((Int.gcd t b : Int) = 1)) && (decide (0 ≤ t) && (decide (t ≤ b) && decide (b ≤ 99999999999999999999)))) = ((decide (1 ≤ b) && decide (b ≤ 99999999999999999999)) && ((decide (0 ≤ t) && decide (t ≤ b)) && decide (Int.gcd t b = 1)))
      have e : decide ((Int.gcd t b : Int) = 1) = decide (Int.gcd t b = 1) := decide_eq_decide.mpr (by omega)
      rw [e]
      cases decide (1 ≤ b) <;> cases decide (Int.gcd t b = 1) <;> cases decide (0 ≤ t) <;> cases decide (t ≤ b) <;> cases decide (b ≤ 99999999999999999999) <;> rfl
    | _ =>
      show false = (_ && (false && _))
      rw [Bool.false_and, Bool.and_false]
  | _ => cases x <;> rfl
theorem share_no {d : PyData} (h : ∀ x y, d ≠ .tuple [x, y]) : isShareD d = false := by
  unfold isShareD
  split
  · exact absurd rfl (h _ _)
  · rfl
abbrev sp_lshare : Sp := spF (fun as => as.length = 1) (hd1 fun x => .bool (isShareD x))
theorem ok__law_is_share (F : FnP K "_law_is_share" s__law_is_share f fd) (B : Bi mg) (F1 : Fk P w K mg base "_law_from" 1 ["thing", "least", "top"] sp_from) (F2 : Fk P w K mg base "_law_common" 1 ["one", "other"] sp_gcd) : FnOk P w K mg base CX0 2 f fd ["thing"] sp_lshare := by
  refine fn_P F sc__law_is_share (fun as h => h) fun cdv A outer s H E G as hr sm hp => ?_
  obtain ⟨d, rfl⟩ := len1 hp
  have big20 : ∀ {X : Cx} {W : Wr} {ds : List Sl} {n m k : Nat} {p1 p2 p3 p4 p5 : Pos}, Em X W ds (.BinOp (.BinOp (.Constant (.int 10) n p1) .Pow (.Constant (.int 20) m p2) p3) .Sub (.Constant (.int 1) k p4) p5) (· = .int 99999999999999999999) := fun {_ _ _ _ _ _ _ _ _ _ _} => em_is (em_sub (em_pow ⟨by decide, by decide, by decide⟩ em_int em_int) em_int) (congrArg PyData.int (by decide +kernel))
  have no : ∀ (xs : List PyData), d = .tuple xs → xs.length ≠ 2 → isShareD d = false := fun xs e h => share_no fun x y z => by
    rw [z] at e
    cases e
    exact h rfl
  cases d with
  | tuple xs =>
    by_cases hl : xs.length = 2
    · match xs, hl with
      | [x, y], _ =>
        cases hy : fromD 1 99999999999999999999 y with
        | false =>
          refine bm_ifR (x := true) (tm_w (wm_or (x := false) (tm_mono (tm_notB (tm_val (em_isi (em_var 0 rfl) B.isi B.tuple boot_tuple (kit_tuple _)))) fun _ e => e) (fun h => nomatch h) fun _ => wm_or (x := false) (tm_mono (tm_neI (em_len (as := [x, y]) (em_mono (em_var 0 rfl) fun _ e => .inr e) B.len) em_int) fun _ e => e) (fun h => nomatch h) fun _ => wm_or1 (tm_mono (tm_notB (tm_val (em_from F1 hr (em_ixT (by rfl) (em_var 0 rfl) em_int) em_int big20 hy))) fun _ e => e))) (fun _ => bm_ret em_bl fun v d G H hd e => ⟨d, hd, ?_⟩) fun h => nomatch h
          rw [e]
          show PyData.bool false = .bool (isShareD (.tuple [x, y]))
          rw [share_at]
          cases y with
          | int b =>
            show PyData.bool false = .bool (fromD 1 99999999999999999999 (.int b) && _)
            rw [hy]
            rfl
          | _ => rfl
        | true =>
          obtain ⟨b, rfl⟩ : ∃ b, y = .int b := by cases y <;> first | exact ⟨_, rfl⟩ | cases hy
          have hb : (decide (1 ≤ b) && decide (b ≤ 99999999999999999999)) = true := hy
          rw [Bool.and_eq_true] at hb
          have hb1 := of_decide_eq_true hb.1
          have hb2 := of_decide_eq_true hb.2
          refine bm_ifR (x := false) (tm_w (wm_or (x := false) (tm_mono (tm_notB (tm_val (em_isi (em_var 0 rfl) B.isi B.tuple boot_tuple (kit_tuple _)))) fun _ e => e) (fun h => nomatch h) fun _ => wm_or (x := false) (tm_mono (tm_neI (em_len (as := [x, .int b]) (em_mono (em_var 0 rfl) fun _ e => .inr e) B.len) em_int) fun _ e => e) (fun h => nomatch h) fun _ => wm_or1 (tm_mono (tm_notB (tm_val (em_from F1 hr (em_ixT (by rfl) (em_var 0 rfl) em_int) em_int big20 hy))) fun _ e => e))) (fun h => nomatch h) fun _ => ?_
          refine bm_ret (P := (· = .bool (isShareD (.tuple [x, .int b])))) ?_ fun v d G H hd e => ⟨d, hd, e⟩
          rw [share_at]
          show Em _ _ _ _ (· = .bool (fromD 1 99999999999999999999 (.int b) && (fromD 0 b x && _)))
          rw [hy, Bool.true_and]
          cases hx : fromD 0 b x with
          | false => exact em_is (em_andB (y := false) (em_from F1 hr (em_ixT (by rfl) (em_var 0 rfl) em_int) em_int (em_ixT (by rfl) (em_var 0 rfl) em_int) hx) fun h => nomatch h) rfl
          | true =>
            obtain ⟨t, rfl⟩ : ∃ t, x = .int t := by cases x <;> first | exact ⟨_, rfl⟩ | cases hx
            have ht : (decide (0 ≤ t) && decide (t ≤ b)) = true := hx
            rw [Bool.and_eq_true] at ht
            have ht1 := of_decide_eq_true ht.1
            refine em_is (em_andB (em_from F1 hr (em_ixT (by rfl) (em_var 0 rfl) em_int) em_int (em_ixT (by rfl) (em_var 0 rfl) em_int) hx) fun _ => em_one (em_eqI (em_callF (d := .int (Int.gcd t b)) F2 hr (am_cons (em_ixT (by rfl) (em_var 0 rfl) em_int) (am_cons (em_ixT (by rfl) (em_var 0 rfl) em_int) am_nil)) ⟨t.toNat, b.toNat, by rw [Int.toNat_of_nonneg ht1, Int.toNat_of_nonneg (by omega)]⟩) em_int)) ?_
            exact congrArg PyData.bool (by rw [Bool.true_and, Bool.true_and]; exact decide_eq_decide.mpr (by omega))
    · refine bm_ifR (x := true) (tm_w (wm_or (x := false) (tm_mono (tm_notB (tm_val (em_isi (em_var 0 rfl) B.isi B.tuple boot_tuple (kit_tuple _)))) fun _ e => e) (fun h => nomatch h) fun _ => wm_or (x := true) (tm_mono (tm_neI (em_len (as := xs) (em_mono (em_var 0 rfl) fun _ e => .inr e) B.len) em_int) fun _ e => ?_) (fun _ => rfl) fun h => nomatch h)) (fun _ => bm_ret em_bl fun v d G H hd e => ⟨d, hd, ?_⟩) fun h => nomatch h
      · rw [e, decide_eq_false (by omega)]
        rfl
      · rw [e]
        exact congrArg PyData.bool (no xs rfl hl).symm
  | _ =>
    refine bm_ifR (x := true) (tm_w (wm_or (x := true) (P := (· = true)) (tm_mono (tm_notB (tm_val (em_isi (em_var 0 rfl) B.isi B.tuple boot_tuple (kit_tuple _)))) fun _ e => e) (fun _ => rfl) fun h => nomatch h)) (fun _ => bm_ret em_bl fun v d G H hd e => ⟨d, hd, ?_⟩) fun h => nomatch h
    rw [e]
    rfl
theorem list_ofD {g : PyData → PyData} {as ys : List PyData} (hl : ys.length = as.length) (h : ∀ (n : Nat) y d, ys[n]? = some y → as[n]? = some d → y = g d) : ys = as.map g := by
  refine List.ext_getElem? fun n => ?_
  rw [List.getElem?_map]
  cases e : ys[n]? with
  | none =>
    have : as[n]? = none := List.getElem?_eq_none (by rw [← hl]; exact List.getElem?_eq_none_iff.mp e)
    rw [this]
    rfl
  | some y =>
    have hn : n < as.length := by
      rw [← hl]
      exact (List.getElem?_eq_some_iff.mp e).1
    rw [List.getElem?_eq_getElem hn]
    exact congrArg some (h n y _ e (List.getElem?_eq_getElem hn))
theorem part_share {x : PyData} (h : isPartD x = true) : isShareD x = true := by
  obtain ⟨t, u, rfl, h1, h2, h3⟩ := part_of h
  have hf : (isFracD (.tuple [.int t, .int u]) && (decide (0 < t) && (decide (t < u) && decide (u ≤ 12)))) = true := h
  rw [Bool.and_eq_true] at hf
  show (isFracD (.tuple [.int t, .int u]) && (decide (0 ≤ t) && (decide (t ≤ u) && decide (u ≤ 99999999999999999999)))) = true
  rw [hf.1, decide_eq_true (by omega : 0 ≤ t), decide_eq_true (by omega : t ≤ u), decide_eq_true (by omega : u ≤ 99999999999999999999)]
  rfl
def narrow : PyData → Bool
  | .tuple [.int t, .int b] => decide (0 < t) && (decide (t < b) && decide (b ≤ 12))
  | _ => false
theorem part_is {t b : Int} (h : isShareD (.tuple [.int t, .int b]) = true) : isPartD (.tuple [.int t, .int b]) = narrow (.tuple [.int t, .int b]) := by
  have hf : (isFracD (.tuple [.int t, .int b]) && _) = true := h
  rw [Bool.and_eq_true] at hf
  show (isFracD (.tuple [.int t, .int b]) && _) = _
  rw [hf.1]
  rfl
theorem share_ints {x : PyData} (h : isShareD x = true) : ∃ t b, x = .tuple [.int t, .int b] := by
  unfold isShareD at h
  split at h
  · exact ⟨_, _, rfl⟩
  · cases h
theorem parts_no {d : PyData} (h : ∀ x y, d ≠ .tuple [x, y]) : arePartsD d = false := by
  unfold arePartsD
  split
  · exact absurd rfl (h _ _)
  · rfl
theorem ok__law_are_parts (F : FnP K "_law_are_parts" s__law_are_parts f fd) (B : Bi mg) (F1 : Fk P w K mg base "_law_is_share" 2 ["thing"] sp_lshare) : FnOk P w K mg base CX0 3 f fd ["thing"] sp_are_parts := by
  refine fn_P F sc__law_are_parts (fun as h => h) fun cdv A outer s H E G as hr sm hp => ?_
  obtain ⟨d, rfl⟩ := len1 hp
  cases d with
  | tuple xs =>
    by_cases hl : xs.length = 2
    · match xs, hl with
      | [x, y], _ =>
        refine bm_ifR (x := !(isShareD x && isShareD y)) (tm_w (wm_or (x := false) (tm_mono (tm_notB (tm_val (em_isi (em_var 0 rfl) B.isi B.tuple boot_tuple (kit_tuple _)))) fun _ e => e) (fun h => nomatch h) fun _ => wm_or (x := false) (tm_mono (tm_neI (em_len (as := [x, y]) (em_mono (em_var 0 rfl) fun _ e => .inr e) B.len) em_int) fun _ e => e) (fun h => nomatch h) fun _ => wm_or1 (tm_notB (tm_val (em_is (em_all (bs := [x, y].map isShareD) rfl (em_lcT (Pe := fun n w => ∀ d, [x, y][n]? = some d → w = .bool (isShareD d)) 5 (em_var 0 rfl) (fun s H C cl fp n d hd => em_mono (em_callF (d := .bool (isShareD d)) F1 (show Room 2 _ from hr) (am_cons (em_var 5 rfl) am_nil) rfl) fun w e d' hd' => ?_) (fun ys hl hy => congrArg PyData.list ((list_ofD (g := fun d => .bool (isShareD d)) hl fun n w d h1 h2 => hy n w h1 d h2).trans (by rw [List.map_map]; rfl))) (by show 2 ≤ 40000; decide) rfl sc__law_are_parts.nd (blkOk_by (N := ["thing", "top", "bottom", "other", "under", "one"]) (sc := defScope s__law_are_parts) (by decide +kernel)) fun s H C cl fp => pg_name (i := 5) sc__law_are_parts.nd rfl (Or.inl rfl)) B.all) (congrArg PyData.bool ?_)))))) (fun hz => bm_ret em_bl fun v d G H hd e => ⟨d, hd, ?_⟩) fun hz => ?_
        · rw [hd] at hd'
          cases hd'
          exact e
        · show (isShareD x && (isShareD y && true)) = _
          rw [Bool.and_true]
        · rw [e]
          refine congrArg PyData.bool (are_no ?_).symm
          cases h1 : isPartD x with
          | false => exact .inl rfl
          | true => cases h2 : isPartD y with
            | false => exact .inr rfl
            | true =>
              rw [part_share h1, part_share h2] at hz
              cases hz
        · have hz : (isShareD x && isShareD y) = true := by simpa using hz
          rw [Bool.and_eq_true] at hz
          obtain ⟨hx, hy⟩ := hz
          obtain ⟨t, b, rfl⟩ := share_ints hx
          obtain ⟨t', b', rfl⟩ := share_ints hy
          have pair : ∀ {n : Nat} {d : PyData}, [PyData.tuple [.int t, .int b], .tuple [.int t', .int b']][n]? = some d → ∃ i j, d = .tuple [.int i, .int j] := fun {n d} h => by
            match n, h with
            | 0, h =>
              cases h
              exact ⟨_, _, rfl⟩
            | 1, h =>
              cases h
              exact ⟨_, _, rfl⟩
          refine bm_ifR (x := !(narrow (.tuple [.int t, .int b]) && narrow (.tuple [.int t', .int b']))) (tm_notB (tm_val (em_is (em_all (bs := [PyData.tuple [.int t, .int b], .tuple [.int t', .int b']].map narrow) rfl (em_lcT (Pe := fun n w => ∀ d, [PyData.tuple [.int t, .int b], .tuple [.int t', .int b']][n]? = some d → w = .bool (narrow d)) 5 (em_var 0 rfl) (fun s H C cl fp n d hd => ?_) (fun ys hl hy => congrArg PyData.list ((list_ofD (g := fun d => .bool (narrow d)) hl fun n w d h1 h2 => hy n w h1 d h2).trans (by rw [List.map_map]; rfl))) (by show 2 ≤ 40000; decide) rfl sc__law_are_parts.nd (blkOk_by (N := ["thing", "top", "bottom", "other", "under", "one"]) (sc := defScope s__law_are_parts) (by decide +kernel)) fun s H C cl fp => pg_name (i := 5) sc__law_are_parts.nd rfl (Or.inl rfl)) B.all) (congrArg PyData.bool ?_)))) (fun h => bm_ret em_bl fun v d G H hd e => ⟨d, hd, ?_⟩) fun h => ?_
          · obtain ⟨i, j, rfl⟩ := pair hd
            refine em_mono (em_chain3 op_lt op_lt op_le em_int (em_ixT (by rfl) (em_var 5 rfl) em_int) (em_ixT (by rfl) (em_var 5 rfl) em_int) em_int) fun w e d' hd' => ?_
            rw [hd] at hd'
            cases hd'
            exact e
          · show (narrow _ && (narrow _ && true)) = _
            rw [Bool.and_true]
          · rw [e]
            refine congrArg PyData.bool (are_no ?_).symm
            rw [part_is hx, part_is hy]
            cases h1 : narrow (.tuple [.int t, .int b]) with
            | false => exact .inl rfl
            | true => cases h2 : narrow (.tuple [.int t', .int b']) with
              | false => exact .inr rfl
              | true =>
                rw [h1, h2] at h
                cases h
          · have hn : (narrow (.tuple [.int t, .int b]) && narrow (.tuple [.int t', .int b'])) = true := by simpa using h
            rw [Bool.and_eq_true] at hn
            have p1 := (part_is hx).trans hn.1
            have p2 := (part_is hy).trans hn.2
            obtain ⟨_, _, e1, h1, h2, h3⟩ := part_of p1
            cases e1
            obtain ⟨_, _, e2, h4, h5, h6⟩ := part_of p2
            cases e2
            refine bm_tup22 1 2 3 4 (em_var 0 rfl) ?_ (ps_asg pe_u (pg_tup rfl (pgs_cons (pg_tup rfl (pgs_cons (pg_name sc__law_are_parts.nd rfl (Or.inl rfl)) (pgs_cons (pg_name sc__law_are_parts.nd rfl (Or.inl rfl)) pgs_nil)) ) (pgs_cons (pg_tup rfl (pgs_cons (pg_name sc__law_are_parts.nd rfl (Or.inl rfl)) (pgs_cons (pg_name sc__law_are_parts.nd rfl (Or.inl rfl)) pgs_nil))) pgs_nil))))
            refine bm_ret (em_ge (em_add (em_mulS (.inl (by omega)) (em_var 1 rfl) (em_var 4 rfl)) (em_mulS (.inl (by omega)) (em_var 3 rfl) (em_var 2 rfl))) (em_mulS (.inl (by omega)) (em_var 2 rfl) (em_var 4 rfl))) fun v d G H hd e => ⟨d, hd, ?_⟩
            rw [e]
            show _ = PyData.bool (isPartD _ && (isPartD _ && _))
            rw [p1, p2]
            rfl
    · refine bm_ifR (x := true) (tm_w (wm_or (x := false) (tm_mono (tm_notB (tm_val (em_isi (em_var 0 rfl) B.isi B.tuple boot_tuple (kit_tuple _)))) fun _ e => e) (fun h => nomatch h) fun _ => wm_or (x := true) (tm_mono (tm_neI (em_len (as := xs) (em_mono (em_var 0 rfl) fun _ e => .inr e) B.len) em_int) fun _ e => ?_) (fun _ => rfl) fun h => nomatch h)) (fun _ => bm_ret em_bl fun v d G H hd e => ⟨d, hd, ?_⟩) fun h => nomatch h
      · rw [e, decide_eq_false (by omega)]
        rfl
      · rw [e]
        refine congrArg PyData.bool (parts_no fun x y z => hl ?_).symm
        cases z
        rfl
  | _ =>
    refine bm_ifR (x := true) (tm_w (wm_or (x := true) (P := (· = true)) (tm_mono (tm_notB (tm_val (em_isi (em_var 0 rfl) B.isi B.tuple boot_tuple (kit_tuple _)))) fun _ e => e) (fun _ => rfl) fun h => nomatch h)) (fun _ => bm_ret em_bl fun v d G H hd e => ⟨d, hd, ?_⟩) fun h => nomatch h
    rw [e]
    rfl
end
end Pb
namespace Pb
open PySem PySem.Spec PyProof.Rows L2 Dn
section
variable {P : Program} {w : World} {K : PySem.W.Frag} {mg : Str → Option Value} {base : Heap} {f : Addr} {fd : FuncData}
theorem pour_no {d : PyData} (h : isStrD d = false) : isPourD d = false := by
  unfold isPourD
  cases d with
  | str x => cases h
  | _ => simp [PyData.eqv]
theorem pour_in (x : Str) : ([PyData.str "right", .str "left"].any fun z => PyData.eqv z (.str x)) = isPourD (.str x) := by
  show (PyData.eqv (.str "right") (.str x) || (PyData.eqv (.str "left") (.str x) || false)) = (PyData.eqv (.str x) (.str "right") || PyData.eqv (.str x) (.str "left"))
  simp only [PyData.eqv, Bool.or_false]
  rw [Bool.beq_comm (a := Str.ofString "right"), Bool.beq_comm (a := Str.ofString "left")]
theorem two_shaped : SeqAt.shaped (.list [.str "right", .str "left"]) = true := by decide +kernel
theorem ok__law_is_row (F : FnP K "_law_is_row" s__law_is_row f fd) (B : Bi mg) (ms : mg "str" = none) : FnOk P w K mg base CX0 2 f fd ["thing"] sp_is_row := by
  refine fn_P F sc__law_is_row (fun as ⟨x, e, _⟩ => by rw [e]; rfl) fun cdv A outer s H E G as hr sm ⟨x, e, hx⟩ => ?_
  subst e
  cases x with
  | tuple xs =>
    refine bm_ifR (tm_w (wm_orB (tm_notB (tm_val (em_isi (em_var 0 rfl) B.isi B.tuple boot_tuple (kit_tuple _)))) fun _ => wm_or1 (tm_gt (em_len (as := xs) (em_mono (em_var 0 rfl) fun _ e => .inr e) B.len) em_int))) (fun h => bm_ret em_bl fun v d G H hd e => ⟨d, hd, ?_⟩) fun h => ?_
    · rw [e]
      have h : (40 : Int) < xs.length := by simpa [isTupD] using h
      show PyData.bool false = .bool (decide (xs.length ≤ 40) && _)
      rw [decide_eq_false (by omega)]
      rfl
    · have h : ¬ (40 : Int) < xs.length := by simpa [isTupD] using h
      refine bm_ret (em_all (bs := xs.map isPourD) rfl (em_lcT (Pe := fun n y => ∀ d, xs[n]? = some d → y = .bool (isPourD d)) 1 (em_var 0 rfl) (fun s' H' C cl fp n d hd => em_mono (P := (· = .bool (isPourD d))) ?_ fun z e d' hd' => ?_) (fun ys hl hy => congrArg PyData.list ((list_ofD (g := fun d => .bool (isPourD d)) hl fun n w d h1 h2 => hy n w h1 d h2).trans (by rw [List.map_map]; rfl))) (by omega) rfl sc__law_is_row.nd (blkOk_by (N := ["thing", "pour"]) (sc := defScope s__law_is_row) (by decide +kernel)) fun s H C cl fp => pg_name (i := 1) sc__law_is_row.nd rfl (Or.inl rfl)) B.all) fun v d G H hd e => ⟨d, hd, ?_⟩
      · cases hs : isStrD d with
        | false =>
          rw [pour_no hs]
          exact em_is (em_andB (y := false) (em_is (em_isi (em_var 1 rfl) B.isi ms str_boot (kit_str _)) (congrArg PyData.bool hs)) fun h => nomatch h) rfl
        | true =>
          obtain ⟨x, rfl⟩ : ∃ x, d = .str x := by cases d <;> first | exact ⟨_, rfl⟩ | cases hs
          refine em_is (em_andB (em_isi (em_var 1 rfl) B.isi ms str_boot (kit_str _)) fun _ => em_one (em_inD (k := 0) ?_ (hx xs rfl _ (List.mem_of_getElem? hd)) two_shaped (em_var 1 rfl) (em_lst (am_cons em_str (am_cons em_str am_nil))))) (congrArg PyData.bool ((Bool.true_and _).trans (pour_in x)))
          have := hr.un
          show (A.deeper (envOfC "_law_is_row" (defScope s__law_is_row) s.heap.objs.size f cdv)).units + 65 < cLine
          omega
      · rw [hd] at hd'
        cases hd'
        exact e
      · rw [e]
        show _ = PyData.bool (decide (xs.length ≤ 40) && xs.all isPourD)
        rw [decide_eq_true (by omega), List.all_map]
        rfl
  | _ =>
    refine bm_ifR (x := true) (tm_mono (tm_w (wm_or (x := true) (P := (· = true)) (tm_mono (tm_notB (tm_val (em_isi (em_var 0 rfl) B.isi B.tuple boot_tuple (kit_tuple _)))) fun _ e => e) (fun _ => rfl) fun h => nomatch h)) fun _ e => e) (fun _ => bm_ret em_bl fun v d G H hd e => ⟨d, hd, ?_⟩) fun h => nomatch h
    rw [e]
    rfl
/-! ### things of some kind -/
abbrev fr (a b : Int) : PyData := .tuple [.int a, .int b]
def odds : List PyData := [.none, .bool true, .bool false, .int (-1), .int 0, .int 1, .int 2, .int 40, .int (10 ^ 20), .str "", .str "right", .str "left", .str "up", fr 1 2, fr 0 1, fr 1 1, fr 2 1, .tuple [], .list [], fr 2 4, fr (-1) 2, fr 1 0, .list [.int 1, .int 2], .tuple [fr 1 2, fr 1 2], .tuple [.str "right"], .list [.str "right"], .tuple [.str "Left"], .tuple [.none]]
theorem odds_th : odds.all (thB 2 2) = true := by decide +kernel
abbrev isPicks (n : Nat) (d : PyData) : Prop := ∃ ns : List Int, d = .list (ns.map .int) ∧ n ≤ ns.length
abbrev sp_odd : Sp := spP (fun as => ∃ x, as = [x] ∧ isPicks 2 x) fun _ d => Th 2 2 d
theorem picks_at {ns : List Int} {n : Nat} (h : n < ns.length) : ∃ i : Int, L2.atI (ns.map PyData.int) (n : Int) = some (.int i) := ⟨ns[n], atI_nat (by rw [List.getElem?_map, List.getElem?_eq_getElem h]; rfl)⟩
theorem ok__law_odd (F : FnP K "_law_odd" s__law_odd f fd) (B : Bi mg) : FnOk P w K mg base CX0 1 f fd ["picks"] sp_odd := by
  refine fn_P F sc__law_odd (fun as ⟨x, e, _⟩ => by rw [e]; rfl) fun cdv A outer s H E G as hr sm ⟨x, e, ns, e2, hn⟩ => ?_
  subst e
  subst e2
  have two : ∀ {X : Cx} {W : Wr} {ds : List Sl} {i j : Int} {n m k : Nat} {p1 p2 p3 : Pos}, (starEach [.Constant (.int i) n p1, .Constant (.int j) m p2] X.env = (false, eval (.Constant (.int i) n p1) X.env) :: starEach [.Constant (.int j) m p2] X.env) → (starEach [.Constant (.int j) m p2] X.env = (false, eval (.Constant (.int j) m p2) X.env) :: starEach [] X.env) → Em X W ds (.Tuple [.Constant (.int i) n p1, .Constant (.int j) m p2] k p3) (· = fr i j) := fun h1 h2 => em_tup (am_cons em_int (am_cons em_int am_nil h2) h1)
  refine bm_set 1 (em_lst (am_cons em_non (am_cons em_bl (am_cons em_bl (am_cons (em_neg em_int) (am_cons em_int (am_cons em_int (am_cons em_int (am_cons em_int (am_cons (em_pow ⟨by decide, by decide, by decide⟩ em_int em_int) am_nil)))))))))) ?_ sc__law_odd.nd
  refine bm_set 1 (em_catL (by decide) (em_var 1 rfl) (em_lst (am_cons em_str (am_cons em_str (am_cons em_str (am_cons em_str (am_cons (two rfl rfl) (am_cons (two rfl rfl) (am_cons (two rfl rfl) (am_cons (two rfl rfl) am_nil)))))))))) ?_ sc__law_odd.nd
  refine bm_set 1 (em_catL (by decide) (em_var 1 rfl) (em_lst (am_cons (em_tup am_nil) (am_cons (em_lst am_nil) (am_cons (two rfl rfl) (am_cons (em_tup (am_cons (em_neg em_int) (am_cons em_int am_nil))) (am_cons (two rfl rfl) (am_cons (em_lst (am_cons em_int (am_cons em_int am_nil))) am_nil)))))))) ?_ sc__law_odd.nd
  refine bm_set (d := .list odds) 1 (em_is (em_catL (by decide) (em_var 1 rfl) (em_lst (am_cons (em_tup (am_cons (two rfl rfl) (am_cons (two rfl rfl) am_nil))) (am_cons (em_tup (am_cons em_str am_nil)) (am_cons (em_lst (am_cons em_str am_nil)) (am_cons (em_tup (am_cons em_str am_nil)) (am_cons (em_tup (am_cons em_non am_nil)) am_nil))))))) rfl) ?_ sc__law_odd.nd
  obtain ⟨i, hi⟩ := picks_at (ns := ns) (n := 0) (by omega)
  obtain ⟨j, hj⟩ := picks_at (ns := ns) (n := 1) (by omega)
  have hmod : ∃ n : Nat, (i + 7 * j) % (28 : Int) = n ∧ n < 28 := ⟨((i + 7 * j) % 28).toNat, by omega, by omega⟩
  obtain ⟨n, hn1, hn2⟩ := hmod
  have hget : odds[n]? = some odds[n] := List.getElem?_eq_getElem hn2
  refine bm_ret (P := (· = odds[n])) (em_ixL (atI_nat hget) (em_var 1 rfl) (em_is (em_mod (by decide) (em_add (em_ixL hi (em_var 0 rfl) em_int) (em_mulS (.inl (by decide)) em_int (em_ixL hj (em_var 0 rfl) em_int))) (em_len (as := odds) (em_mono (em_var 1 rfl) fun _ e => .inl e) B.len)) (congrArg PyData.int hn1))) fun v d G H hd e => ⟨d, hd, ?_⟩
  rw [e]
  exact (List.all_eq_true.mp odds_th) _ (List.getElem_mem hn2)
end
end Pb
namespace Pb
open PySem PySem.Spec PyProof.Rows L2 Dn
theorem picks_from {ns : List Int} (n k : Nat) (h : n + k ≤ ns.length) : isPicks k (.list (Dn.cutD (ns.map PyData.int) (some (n : Int)) none)) := by
  rw [cutD_from]
  exact ⟨ns.drop n, by rw [List.map_drop], by rw [List.length_drop]; omega⟩
/-- every one of these is a thing -/
abbrev Ths (m k : Nat) (xs : List PyData) : Prop := ∀ x ∈ xs, Th m k x
theorem Ths.take {m k : Nat} {xs : List PyData} (h : Ths m k xs) (n : Nat) : Ths m k (xs.take n) := fun x hx => h x (List.mem_of_mem_take hx)
theorem Ths.drop {m k : Nat} {xs : List PyData} (h : Ths m k xs) (n : Nat) : Ths m k (xs.drop n) := fun x hx => h x (List.mem_of_mem_drop hx)
theorem Ths.app {m k : Nat} {xs ys : List PyData} (h : Ths m k xs) (h' : Ths m k ys) : Ths m k (xs ++ ys) := fun x hx => by
  rcases List.mem_append.mp hx with z | z
  · exact h x z
  · exact h' x z
theorem Ths.one {m k : Nat} {d : PyData} (h : Th m k d) : Ths m k [d] := fun x hx => by
  have e : x = d := by simpa using hx
  rw [e]
  exact h
theorem Ths.set {m k : Nat} {xs : List PyData} {d : PyData} (h : Ths m k xs) (hd : Th m k d) (n : Nat) : Ths m k (xs.set n d) := fun x hx => by
  rcases List.mem_or_eq_of_mem_set hx with z | z
  · exact h x z
  · rw [z]
    exact hd
section
variable {P : Program} {w : World} {K : PySem.W.Frag} {mg : Str → Option Value} {base : Heap} {f : Addr} {fd : FuncData}
abbrev pre_spoilt (kk : Nat) (as : List PyData) : Prop := ∃ (d y : PyData) (m k : Nat), as = [d, y] ∧ isPicks 5 y ∧ Th m k d ∧ 2 ≤ m ∧ m ≤ 60 ∧ k ≤ kk
abbrev sp_spoilt (kk : Nat) : Sp := spP (pre_spoilt kk) fun as r => ∀ (d y : PyData) (m k : Nat), as = [d, y] → Th m k d → 2 ≤ m → Th (m + 1) (k + 2) r
abbrev nSp (d pk : PyData) (n t : Int) : NX := fun ds' => ∃ ys, ds' = [.dat d, .dat pk, .dat (.list ys), .dat (.int n), .dat (.int t)] ∧ ∀ (m k : Nat), Th m k d → 2 ≤ m → ys.length ≤ m + 1 ∧ Ths (m + 1) (k + 1) ys
theorem ok__law_spoilt (kk : Nat) (F : FnP K "_law_spoilt" s__law_spoilt f fd) (B : Bi mg) (ml : mg "list" = none) (F1 : Fk P w K mg base "_law_odd" 1 ["picks"] sp_odd) (F2 : ∀ j, j + 1 = kk → Fk P w K mg base "_law_spoilt" (j + 2) ["thing", "picks"] (sp_spoilt j)) : FnOk P w K mg base CX0 (kk + 2) f fd ["thing", "picks"] (sp_spoilt kk) := by
  refine fn_P F sc__law_spoilt (fun as ⟨d, y, m, k, e, _⟩ => by rw [e]; rfl) fun cdv A outer s H E G as hr sm ⟨d, y, m0, k0, e, ⟨ns, e2, hns⟩, th0, hm20, hm60, hkk⟩ => ?_
  subst e
  subst e2
  -- an odd one
  have odd1 : Em (Cx0 P w K mg base ["thing", "picks", "pieces", "at", "turn_by"] "_law_spoilt" (defScope s__law_spoilt) f cdv A outer s H E) pw (sl0 ["thing", "picks", "pieces", "at", "turn_by"] [d, .list (ns.map .int)]) (match defBody s__law_spoilt with | .If _ [.Return (some e) _] _ _ :: _ => e | _ => .Constant .none 0 ⟨0, 0, 0, 0⟩) (fun r => ∀ (m k : Nat), Th m k d → 2 ≤ m → Th (m + 1) (k + 2) r) :=
    em_mono (em_call F1 (hr.mono (by omega)) (am_cons (em_sliceL (em_var 1 rfl) (om_some em_int) om_none) am_nil) ⟨_, rfl, picks_from 1 2 (by omega)⟩) fun r h m k _ h2 => Th.mono (by omega) (by omega) h
  have fin : ∀ {r : PyData}, (∀ (m k : Nat), Th m k d → 2 ≤ m → Th (m + 1) (k + 2) r) → ∀ (d' y' : PyData) (m k : Nat), [d, PyData.list (ns.map .int)] = [d', y'] → Th m k d' → 2 ≤ m → Th (m + 1) (k + 2) r := fun h d' y' m k e t h2 => by
    cases e
    exact h m k t h2
  by_cases hd : ∃ xs, d = .list xs ∨ d = .tuple xs
  · obtain ⟨xs, hd⟩ := hd
    have hT : (isTupD d || isLstD d) = true := by rcases hd with rfl | rfl <;> rfl
    have vlen : ∀ {X : Cx} {W : Wr} {ds : List Sl} {e : Expr}, Em X W ds e (· = d) → Em X W ds e (fun z => z = .list xs ∨ z = .tuple xs) := fun h => em_mono h fun _ e => by rw [e]; exact hd
    obtain ⟨p0, hp0⟩ := picks_at (ns := ns) (n := 0) (by omega)
    by_cases stop : xs = [] ∨ ns.length < 9 ∨ p0 % 9 = 0
    · refine bm_ifR (x := true) (tm_w (wm_or (x := false) (tm_mono (tm_notB (tm_val (em_isiT (em_var 0 rfl) B.isi B.tuple ml boot_tuple list_boot (kit_tuple _) (kit_list _)))) fun _ e => by rw [e, hT]; rfl) (fun h => nomatch h) fun _ => wm_or (x := decide (xs = [])) (tm_mono (tm_eqI (em_len (vlen (em_var 0 rfl)) B.len) em_int) fun _ e => ?_) (fun _ => rfl) fun h1 => wm_or (x := decide (ns.length < 9)) (tm_mono (tm_lt (em_len (as := ns.map .int) (em_mono (em_var 1 rfl) fun _ e => .inl e) B.len) em_int) fun _ e => ?_) (fun _ => rfl) fun h2 => wm_or1 (tm_mono (tm_eqI (em_mod (by decide) (em_ixL hp0 (em_var 1 rfl) em_int) em_int) em_int) fun _ e => ?_))) (fun _ => bm_ret odd1 fun v r G H hd e => ⟨r, hd, fin e⟩) fun h => nomatch h
      · rw [e]
        refine decide_eq_decide.mpr ⟨fun h => List.length_eq_zero_iff.mp (by omega), fun h => by rw [h]; rfl⟩
      · rw [e, List.length_map]
        exact decide_eq_decide.mpr (by omega)
      · rcases stop with z | z | z
        · rw [decide_eq_true z] at h1
          cases h1
        · rw [decide_eq_true z] at h2
          cases h2
        · rw [e, decide_eq_true z]
    · have s1 : xs ≠ [] := fun z => stop (.inl z)
      have s2 : ¬ ns.length < 9 := fun z => stop (.inr (.inl z))
      have s3 : ¬ p0 % 9 = 0 := fun z => stop (.inr (.inr z))
      have hpos : 0 < xs.length := List.length_pos_iff.mpr s1
      refine bm_ifR (x := false) (tm_w (wm_or (x := false) (tm_mono (tm_notB (tm_val (em_isiT (em_var 0 rfl) B.isi B.tuple ml boot_tuple list_boot (kit_tuple _) (kit_list _)))) fun _ e => by rw [e, hT]; rfl) (fun h => nomatch h) fun _ => wm_or (x := false) (tm_mono (tm_eqI (em_len (vlen (em_var 0 rfl)) B.len) em_int) fun _ e => by rw [e, decide_eq_false (by omega)]) (fun h => nomatch h) fun h1 => wm_or (x := false) (tm_mono (tm_lt (em_len (as := ns.map .int) (em_mono (em_var 1 rfl) fun _ e => .inl e) B.len) em_int) fun _ e => by rw [e, List.length_map, decide_eq_false (by omega)]) (fun h => nomatch h) fun h2 => wm_or1 (tm_mono (tm_eqI (em_mod (by decide) (em_ixL hp0 (em_var 1 rfl) em_int) em_int) em_int) fun _ e => by rw [e, decide_eq_false s3]))) (fun h => nomatch h) fun _ => ?_
      refine bm_setListOf 2 (vlen (em_var 0 rfl)) ml (fun ad h0 hn sb => ?_) sc__law_spoilt.nd
      obtain ⟨p1, hp1⟩ := picks_at (ns := ns) (n := 1) (by omega)
      obtain ⟨p2, hp2⟩ := picks_at (ns := ns) (n := 2) (by omega)
      obtain ⟨n, hn1, hn2⟩ : ∃ n : Nat, p1 % (xs.length : Int) = n ∧ n < xs.length := ⟨(p1 % (xs.length : Int)).toNat, by have := Int.emod_nonneg p1 (show (xs.length : Int) ≠ 0 by omega); omega, by have := Int.emod_lt_of_pos p1 (show (0 : Int) < xs.length by omega); have := Int.emod_nonneg p1 (show (xs.length : Int) ≠ 0 by omega); omega⟩
      refine bm_set (d := .int n) 3 (em_is (em_mod (by omega) (em_ixL hp1 (em_var 1 rfl) em_int) (em_olen 2 rfl B.len)) (congrArg PyData.int hn1)) ?_ sc__law_spoilt.nd
      refine bm_set (d := .int (p2 % 12)) 4 (em_mod (by decide) (em_ixL hp2 (em_var 1 rfl) em_int) em_int) ?_ sc__law_spoilt.nd
      generalize ht : p2 % 12 = t
      have only : ∀ (j : Nat) (zs : List PyData) (z : Sl), ([.dat d, .dat (.list (ns.map .int)), .own ad xs, .dat (.int n), .dat (.int t)] : List Sl)[j]? = some (.own ad zs) → j = 2 := fun j zs _ h => by
        match j with
        | 0 => cases h
        | 1 => cases h
        | 2 => rfl
        | 3 => cases h
        | 4 => cases h
      have thx : ∀ m k, Th m k d → ∃ j, k = j + 1 ∧ xs.length ≤ m ∧ Ths m j xs := fun m k h => Th.of hd h
      refine bm_if' (N1 := nSp d (.list (ns.map .int)) n t) (tm_eqI (em_var 4 rfl) em_int) (fun _ => ?b0) (fun _ => ?b1) fun ds' ⟨ys, e, hys⟩ => ?rest
      case b0 =>
        refine bm_set 2 (em_catL ?_ (em_is (em_oslice 2 rfl om_none (om_some (em_var 3 rfl))) (congrArg PyData.list (cutD_to xs n))) (em_is (em_oslice 2 rfl (om_some (em_is (em_add (em_var 3 rfl) em_int) rfl)) om_none) (congrArg PyData.list (cutD_from xs (n + 1))))) (bm_nil ⟨_, rfl, fun m k h h2 => ?_⟩) sc__law_spoilt.nd
        · obtain ⟨j, e, hl, hx⟩ := thx _ _ th0
          rw [List.length_take, List.length_drop]
          omega
        · obtain ⟨j, e, hl, hx⟩ := thx m k h
          have hx' : Ths (m + 1) (k + 1) xs := fun x q => Th.mono (by omega) (by omega) (hx x q)
          exact ⟨by rw [List.length_append, List.length_take, List.length_drop]; omega, (hx'.take _).app (hx'.drop _)⟩
      case rest =>
        subst e
        refine bm_ifR (x := decide (isTupD d = decide (t = 4))) (tm_eqB (em_isi (em_var 0 rfl) B.isi B.tuple boot_tuple (kit_tuple _)) (em_eqI (em_var 4 rfl) em_int)) (fun _ => bm_ret (em_var 2 rfl) fun v r G H hd e => ⟨r, hd, fin fun m k h h2 => ?_⟩) fun _ => bm_ret (em_tupleOf (em_var 2 rfl) B.tuple) fun v r G H hd e => ⟨r, hd, fin fun m k h h2 => ?_⟩
        · rw [e]
          exact Th.lst (hys m k h h2).1 (hys m k h h2).2
        · rw [e]
          exact Th.tup (hys m k h h2).1 (hys m k h h2).2
      case b1 =>
        have up : ∀ m k, Th m k d → xs.length ≤ m ∧ Ths (m + 1) (k + 1) xs := fun m k h => by
          obtain ⟨j, e, hl, hx⟩ := thx m k h
          exact ⟨hl, fun x q => Th.mono (by omega) (by omega) (hx x q)⟩
        have hl0 := (up _ _ th0).1
        refine bm_if' (N1 := nSp d (.list (ns.map .int)) n t) (tm_eqI (em_var 4 rfl) em_int) (fun _ => ?_) (fun _ => ?_) fun ds' h => bm_nil h
        · refine bm_set 2 (em_catL ?_ (em_is (em_oslice 2 rfl om_none (om_some (em_is (em_add (em_var 3 rfl) em_int) rfl))) (congrArg PyData.list (cutD_to xs (n + 1)))) (em_is (em_oslice 2 rfl (om_some (em_var 3 rfl)) om_none) (congrArg PyData.list (cutD_from xs n)))) (bm_nil ⟨_, rfl, fun m k h h2 => ?_⟩) sc__law_spoilt.nd
          · rw [List.length_take, List.length_drop]
            omega
          · obtain ⟨hl, hx⟩ := up m k h
            exact ⟨by rw [List.length_append, List.length_take, List.length_drop]; omega, (hx.take _).app (hx.drop _)⟩
        refine bm_if' (N1 := nSp d (.list (ns.map .int)) n t) (tm_eqI (em_var 4 rfl) em_int) (fun _ => ?_) (fun _ => ?_) fun ds' h => bm_nil h
        · refine bm_set 2 (em_catL ?_ (em_is (em_oslice 2 rfl (om_some (em_var 3 rfl)) om_none) (congrArg PyData.list (cutD_from xs n))) (em_is (em_oslice 2 rfl om_none (om_some (em_var 3 rfl))) (congrArg PyData.list (cutD_to xs n)))) (bm_nil ⟨_, rfl, fun m k h h2 => ?_⟩) sc__law_spoilt.nd
          · rw [List.length_take, List.length_drop]
            omega
          · obtain ⟨hl, hx⟩ := up m k h
            exact ⟨by rw [List.length_append, List.length_take, List.length_drop]; omega, (hx.drop _).app (hx.take _)⟩
        refine bm_if' (N1 := nSp d (.list (ns.map .int)) n t) (tm_eqI (em_var 4 rfl) em_int) (fun _ => ?_) (fun _ => ?_) fun ds' h => bm_nil h
        · refine bm_set' (P := fun z => ∃ o, z = .list ((xs.take n ++ [o]) ++ xs.drop n) ∧ Th 2 2 o) 2 (em_catL' (Pa := fun z => ∃ o, z = .list (xs.take n ++ [o]) ∧ Th 2 2 o) (Pb := (· = .list (xs.drop n))) (em_catL' (Pa := (· = .list (xs.take n))) (Pb := fun z => ∃ o, z = .list [o] ∧ Th 2 2 o) (em_is (em_oslice 2 rfl om_none (om_some (em_var 3 rfl))) (congrArg PyData.list (cutD_to xs n))) (em_lst' (Pa := fun as => ∃ o, as = [o] ∧ Th 2 2 o) (am_cons' (em_call F1 (hr.mono (by omega)) (am_cons (em_sliceL (em_var 1 rfl) (om_some em_int) om_none) am_nil) ⟨_, rfl, picks_from 3 2 (by omega)⟩) am_nil fun o os ho hos => ⟨o, by rw [hos], ho⟩) fun as ⟨o, e, ho⟩ => ⟨by rw [e]; exact Nat.le_of_ble_eq_true rfl, o, by rw [e], ho⟩) fun x y hx ⟨o, hy, ho⟩ => ⟨_, _, hx, hy, by rw [List.length_take]; show _ + 1 ≤ _; omega, o, rfl, ho⟩) (em_is (em_oslice 2 rfl (om_some (em_var 3 rfl)) om_none) (congrArg PyData.list (cutD_from xs n))) fun x y ⟨o, hx, ho⟩ hy => ⟨_, _, hx, hy, by rw [List.length_append, List.length_take, List.length_drop]; show _ + 1 + _ ≤ _; omega, o, rfl, ho⟩) (fun z ⟨o, e, ho⟩ => ?_) sc__law_spoilt.nd
          subst e
          refine bm_nil ⟨_, rfl, fun m k h h2 => ?_⟩
          obtain ⟨hl, hx⟩ := up m k h
          obtain ⟨j, e, _⟩ := thx m k h
          refine ⟨by rw [List.length_append, List.length_append, List.length_take, List.length_drop]; show _ + 1 + _ ≤ _; omega, ((hx.take _).app (.one (ho.mono (by omega) (by omega)))).app (hx.drop _)⟩
        refine bm_if' (N1 := nSp d (.list (ns.map .int)) n t) (tm_gt (em_var 4 rfl) em_int) (fun _ => ?_) (fun _ => ?_) fun ds' h => bm_nil h
        · obtain ⟨j0, e0, _, hx0⟩ := thx _ _ th0
          have hget : xs[n]? = some xs[n] := List.getElem?_eq_getElem hn2
          refine bm_ostore (P := fun r => ∀ m k, Th m k d → 2 ≤ m → Th (m + 1) (k + 1) r) 2 (j := n) rfl (em_mono (em_call (F2 (kk - 1) (by omega)) (hr.mono (by omega)) (am_cons (em_oix 2 rfl (em_var 3 rfl) (atI_nat hget)) (am_cons (em_sliceL (em_var 1 rfl) (om_some em_int) om_none) am_nil)) ⟨_, _, m0, j0, rfl, picks_from 4 5 (by omega), hx0 _ (List.getElem_mem hn2), hm20, hm60, by omega⟩) fun r h m k hd' h2 => ?_) (em_var 3 rfl) (ixN_nat hn2) h0 (fun j zs h => only j zs .un h) (fun r hr' => ?_) (ps_asg pe_u (pg_sub (pv 2) pe_u set_list))
          · obtain ⟨j, e, hl, hx⟩ := thx m k hd'
            have := h _ _ m j rfl (hx _ (List.getElem_mem hn2)) h2
            rw [e]
            exact this
          refine bm_freeze 2 rfl h0 (fun j zs h => ?_) (bm_nil ⟨_, rfl, fun m k h h2 => ?_⟩)
          · match j with
            | 0 => cases h
            | 1 => cases h
            | 2 => rfl
            | 3 => cases h
            | 4 => cases h
          · obtain ⟨hl, hx⟩ := up m k h
            exact ⟨by rw [List.length_set]; omega, hx.set (hr' m k h h2) n⟩
        · refine bm_freeze 2 rfl h0 (fun j zs h => only j zs .un h) (bm_nil ⟨_, rfl, fun m k h h2 => ?_⟩)
          obtain ⟨hl, hx⟩ := up m k h
          exact ⟨by omega, hx⟩
  · have hT : (isTupD d || isLstD d) = false := by
      cases d with
      | list xs => exact absurd ⟨xs, .inl rfl⟩ hd
      | tuple xs => exact absurd ⟨xs, .inr rfl⟩ hd
      | _ => rfl
    exact bm_ifR (x := true) (tm_w (wm_or (x := true) (P := (· = true)) (tm_mono (tm_notB (tm_val (em_isiT (em_var 0 rfl) B.isi B.tuple ml boot_tuple list_boot (kit_tuple _) (kit_list _)))) fun _ e => by rw [e, hT]; rfl) (fun _ => rfl) fun h => nomatch h)) (fun _ => bm_ret odd1 fun v r G H hd e => ⟨r, hd, fin e⟩) fun h => nomatch h
end
end Pb
namespace Pb
open PySem PySem.Spec PyProof.Rows L2 Dn
theorem Ths.nil {m k : Nat} : Ths m k [] := fun x hx => nomatch hx
theorem Ths.cons {m k : Nat} {d : PyData} {xs : List PyData} (h : Th m k d) (hs : Ths m k xs) : Ths m k (d :: xs) := fun x hx => by
  rcases List.mem_cons.mp hx with e | hx
  · rw [e]
    exact h
  · exact hs x hx
theorem Th.up {m k : Nat} {d : PyData} (h : Th m k d) (hm : m ≤ 100) (hk : k ≤ 7) : Th 100 7 d := Th.mono hm hk h
theorem th_dec {m k : Nat} {d : PyData} (h : thB m k d = true) : Th m k d := h
/-- a list of at most so many things -/
abbrev TL (n : Nat) (d : PyData) : Prop := ∃ xs, d = .list xs ∧ xs.length ≤ n ∧ Ths 100 7 xs
theorem TL.app {n m : Nat} {x y : PyData} (hb : n + m ≤ 100000) (h1 : TL n x) (h2 : ∃ ys, y = .list ys ∧ ys.length = m ∧ Ths 100 7 ys) : ∃ as bs, x = .list as ∧ y = .list bs ∧ as.length + bs.length ≤ 100000 ∧ TL (n + m) (.list (as ++ bs)) := by
  obtain ⟨xs, e1, l1, t1⟩ := h1
  obtain ⟨ys, e2, l2, t2⟩ := h2
  exact ⟨xs, ys, e1, e2, by omega, xs ++ ys, rfl, by rw [List.length_append]; omega, t1.app t2⟩
section
variable {P : Program} {w : World} {K : PySem.W.Frag} {mg : Str → Option Value} {base : Heap} {f : Addr} {fd : FuncData}
def spLaw (K : PySem.W.Frag) : Sp := fun vs H Q _ => ∃ (a : Addr) (ns : List Int), vs = [.ref a] ∧ SqL K H a (ns.map V.int) ∧ ∀ H', Q (.bl true) H'
abbrev N1 : List Str := ["script", "bag", "parts", "share", "row", "things", "thing", "once", "some", "one"]
abbrev S1 (K : PySem.W.Frag) (a : Addr) (ns : List Int) (b : Addr) (p q s : Rat) (r : List Pour) (t : List Sl) : List Sl := .scr K a ns :: .raw (.ref b) :: .dat (ptD p q) :: .dat (rt s) :: .dat (rowD r) :: t
theorem em_picks {X : Cx} {b : Addr} {ds : List Sl} {x : Str} {lo : Expr} {k : Nat} {p2 p3 p4 p5 p6 : Pos} (hn : ds[1]? = some (.raw (.ref b))) (hl : Em X (bw b) ds lo (fun d => ∃ j : Nat, d = .int j ∧ j ≤ 395)) (hN : X.N[1]? = some x := by rfl) (hv : Vis X.env.scope x := by first | exact Or.inl rfl | exact Or.inr (Or.inl rfl) | exact Or.inr (Or.inr rfl)) (hd : (x == ("__debug__" : Str)) = false := by decide) (hcd : (x == ("__classdict__" : Str)) = false := by decide) :
    Em X (bw b) ds (.Subscript (.Subscript (.Name x p2) (.Constant (.int 0) k p3) p4) (.Slice (some lo) none none p5) p6) (isPicks 5) :=
  em_from' (em_bag0 1 hn hN hv hd hcd) hl fun u v ⟨ns, hx, hlen⟩ ⟨j, hy, hj⟩ => ⟨_, j, hx, hy, picks_from j 5 (by omega)⟩
theorem em_lo {X : Cx} {b : Addr} {ds : List Sl} {x : Str} {k k2 : Nat} {p2 p3 p4 p5 p6 : Pos} (m : Nat) (h0 : 0 < m) (hn : ds[1]? = some (.raw (.ref b))) (hN : X.N[1]? = some x := by rfl) (hv : Vis X.env.scope x := by first | exact Or.inl rfl | exact Or.inr (Or.inl rfl) | exact Or.inr (Or.inr rfl)) (hd : (x == ("__debug__" : Str)) = false := by decide) (hcd : (x == ("__classdict__" : Str)) = false := by decide) :
    Em X (bw b) ds (.BinOp (.Subscript (.Name x p2) (.Constant (.int 1) k p3) p4) .Mod (.Constant (.int (m : Int)) k2 p5) p6) (fun d => ∃ j : Nat, d = .int j ∧ j < m) :=
  em_mod' (em_bag1 1 hn hN hv hd hcd) em_int fun u v ⟨z, hx⟩ hy => ⟨z, m, hx, hy, by omega, (z % m).toNat, by rw [Int.toNat_of_nonneg (Int.emod_nonneg _ (by omega))], by have := Int.emod_lt_of_pos z (show (0 : Int) < m by omega); have := Int.emod_nonneg z (show (m : Int) ≠ 0 by omega); omega⟩
def some17 : List PyData := [fr 1 2, fr 0 1, fr 1 1, fr 2 4, fr 5 12, fr 6 13, fr (-1) 2, fr 3 2, fr 1 0, .tuple [.bool true, .int 2], .tuple [.int 1, .int 2, .int 3], .none, .list [.int 1, .int 2], fr (10 ^ 20 - 2) (10 ^ 20 - 1), fr (10 ^ 20 - 1) (10 ^ 20), fr 7 12, fr 0 2]
theorem some17_th : some17.all (thB 3 1) = true := by decide +kernel
theorem th_rep {n : Nat} (h : n ≤ 100) : Th 100 7 (.tuple (List.replicate n [PyData.str "right"]).flatten) := by
  refine Th.tup (m := 100) (k := 6) ?_ fun x hx => ?_
  · simp
    omega
  · have e : x = .str "right" := by
      simp at hx
      exact hx.2
    rw [e]
    exact th_dec (by decide +kernel)
theorem ok_law (F : FnP K "law" s_law f fd) (B : Bi mg) (ml : mg "list" = none) (mr : mg "repr" = none) (Fb : Fk P w K mg base "_law_bags" 3 ["script", "limit"] (spBags K)) (Fd : Fk P w K mg base "_law_drawn" 5 ["bag", "most"] sp_drawn) (Fo : Fk P w K mg base "_law_odd" 1 ["picks"] sp_odd)
    (Fsp : ∀ kk, Fk P w K mg base "_law_spoilt" (kk + 2) ["thing", "picks"] (sp_spoilt kk)) (Fla : Fk P w K mg base "_law_are_parts" 3 ["thing"] sp_are_parts) (Fls : Fk P w K mg base "_law_is_share" 2 ["thing"] sp_lshare) (Flr : Fk P w K mg base "_law_is_row" 2 ["thing"] sp_is_row)
    (Fa : Fk P w K mg base "are_parts" 4 ["thing"] sp_are_parts) (Fs : Fk P w K mg base "is_share" 3 ["thing"] sp_is_share) (Fr : Fk P w K mg base "is_row" 2 ["thing"] sp_is_row) : FnOk P w K mg base CX0 7 f fd ["script"] (spLaw K) := by
  refine F.ok sc_law (fun vs H Q E ⟨a, ns, e, _⟩ => by rw [e]; rfl) fun cdv A outer s H vs Q E hr ⟨a, ns, e, hS, q⟩ => ?_
  subst e
  suffices main : ∃ t, PSs (Cx0 P w K mg base N1 "law" (defScope s_law) f cdv A outer s H E) (defBody s_law) t ∧ t { nx := fun _ H' => Q .non H', rt := Q } (L2.start N1 [.ref a]) H by
    obtain ⟨t, ht, h⟩ := main
    exact ⟨t, ht.nox, h⟩
  refine law_loop (m := 10) Fb (hr.mono (by decide)) (by decide) rfl (by decide) rfl (.refl H) hS q ?body ?rest PassesOwn.never rfl sc_law.nd
  case rest =>
    intro bs G1 H1
    exact bm_ret em_bl fun v d G H hd e => ⟨d, hd, e⟩
  case body =>
    intro b G1 H1 ok
    refine bm_tup3' 2 3 4 (P := fun d => ∃ p q s r, d = .tuple [ptD p q, rt s, rowD r] ∧ Parts p q ∧ Drawn s ∧ (r.length : Int) ≤ 40) (em_callB (n := 1) Fd (hr.mono (by decide)) rfl (am_cons em_int am_nil) fun as e => ⟨⟨40, e, by decide, by decide⟩, fun d hd => hd 40 e⟩) (fun d ⟨p, q, s, r, e, hp, hs, hl⟩ => ⟨_, _, _, e, ?_⟩) rfl sc_law.nd (ht := fun h => ps_asg pe_u (pg_tup rfl h))
    have hl : r.length ≤ 40 := by omega
    have t1 : Th 40 2 (ptD p q) := Th.pt (by decide) p q
    have t2 : Th 40 1 (rt s) := Th.rt (by decide) s
    have t3 : Th 40 1 (rowD r) := Th.row hl
    have c2 : ∀ {X : Cx} {W : Wr} {ds : List Sl} {i j : Int} {n m k : Nat} {p1 p2 p3 : Pos}, (starEach [.Constant (.int i) n p1, .Constant (.int j) m p2] X.env = (false, eval (.Constant (.int i) n p1) X.env) :: starEach [.Constant (.int j) m p2] X.env) → (starEach [.Constant (.int j) m p2] X.env = (false, eval (.Constant (.int j) m p2) X.env) :: starEach [] X.env) → Em X W ds (.Tuple [.Constant (.int i) n p1, .Constant (.int j) m p2] k p3) (· = fr i j) := fun h1 h2 => em_tup (am_cons em_int (am_cons em_int am_nil h2) h1)
    refine bm_set' 5 (P := TL 9) (em_mono (em_lst (am_cons (em_var 2 rfl) (am_cons (em_var 3 rfl) (am_cons (em_var 4 rfl) (am_cons (em_revT (em_var 2 rfl)) (am_cons (em_listOf (as := [rt p, rt q]) (em_mono (em_var 2 rfl) fun _ e => .inr e) ml) (am_cons (em_listOf (as := [.int s.num, .int s.den]) (em_mono (em_var 3 rfl) fun _ e => .inr e) ml) (am_cons (em_listOf (as := r.map Pour.d) (em_mono (em_var 4 rfl) fun _ e => .inr e) ml) (am_cons (em_catT (by rw [List.length_map]; omega) (em_var 4 rfl) (em_var 4 rfl)) (am_cons (em_revT (em_var 3 rfl)) am_nil)))))))))) fun d e => ⟨_, e, Nat.le_refl _, ?_⟩) (fun d hT => ?_) sc_law.nd
    · have hrow : ∀ x ∈ r.map Pour.d, Th 100 6 x := fun x hx => by
        obtain ⟨j, ej, _, h⟩ := Th.of (.inr rfl) t3
        exact Th.mono (by omega) (by omega) (h x hx)
      have hpt : ∀ x ∈ [rt p, rt q], Th 100 6 x := fun x hx => by
        obtain ⟨j, ej, _, h⟩ := Th.of (.inr rfl) t1
        exact Th.mono (by omega) (by omega) (h x hx)
      have hst : ∀ x ∈ [PyData.int s.num, .int s.den], Th 100 6 x := fun x hx => by
        obtain ⟨j, ej, _, h⟩ := Th.of (.inr rfl) t2
        exact Th.mono (by omega) (by omega) (h x hx)
      refine .cons (t1.up (by omega) (by omega)) (.cons (t2.up (by omega) (by omega)) (.cons (t3.up (by omega) (by omega)) (.cons (.tup ?_ fun x hx => hpt x (List.mem_reverse.mp hx)) (.cons (.lst ?_ hpt) (.cons (.lst ?_ hst) (.cons (.lst ?_ hrow) (.cons (.tup ?_ fun x hx => (List.mem_append.mp hx).elim (hrow x) (hrow x)) (.cons (.tup ?_ fun x hx => hst x (List.mem_reverse.mp hx)) .nil))))))))
      · show 2 ≤ 100
        decide
      · show 2 ≤ 100
        decide
      · show 2 ≤ 100
        decide
      · rw [List.length_map]
        omega
      · rw [List.length_append, List.length_map]
        omega
      · show 2 ≤ 100
        decide
    -- spoilt once and twice
    refine bm_forT (N1 := fun ds' => ∃ T x6 x7, TL 15 T ∧ ds' = S1 K a ns b p q s r [.dat T, x6, x7, .un, .un]) 6 (em_tup (am_cons (em_var 2 rfl) (am_cons (em_var 3 rfl) (am_cons (em_var 4 rfl) am_nil)))) (fun n ds' => ∃ T x6 x7, TL (9 + 2 * n) T ∧ ds' = S1 K a ns b p q s r [.dat T, x6, x7, .un, .un]) ⟨d, .un, .un, hT, rfl⟩ PassesOwn.never rfl (fun n d' ds' hd ⟨T, x6, x7, hT, e⟩ => ?_) (fun ds' h => h) (fun ds' ⟨T, x6, x7, hT, e⟩ => ?_) sc_law.nd
    · subst e
      have td : Th 40 2 d' := by
        match n, hd with
        | 0, hd => cases hd; exact t1
        | 1, hd => cases hd; exact Th.mono (Nat.le_refl _) (by decide) t2
        | 2, hd => cases hd; exact Th.mono (Nat.le_refl _) (by decide) t3
      have hn : n < 3 := (List.getElem?_eq_some_iff.mp hd).1
      refine bm_set' 7 (P := Th 41 4) (em_call' (Fsp 4) (hr.mono (by decide)) (Pa := fun as => ∃ y, as = [d', y] ∧ isPicks 5 y) (am_cons' (em_var 6 rfl) (am_cons' (P := fun as => ∃ y, as = [y] ∧ isPicks 5 y) (em_picks rfl (em_mono (em_lo 200 (by decide) rfl) fun _ ⟨j, e, h⟩ => ⟨j, e, by omega⟩)) am_nil fun u us hu hus => ⟨u, by rw [hus], hu⟩) fun u us hu ⟨y, hus, hy⟩ => ⟨y, by rw [hu, hus], hy⟩) fun as ⟨y, e, hy⟩ => ⟨⟨d', y, 40, 2, e, hy, td, by decide, by decide, by decide⟩, fun d h => h d' y 40 2 e td (by decide)⟩) (fun o to => ?_) sc_law.nd
      refine bm_set' 5 (P := TL (9 + 2 * n + 2)) (em_catL' (em_var 5 rfl) (em_lst' (P := fun d => ∃ ys, d = .list ys ∧ ys.length = 2 ∧ Ths 100 7 ys) (am_cons' (P := fun as => as.length = 2 ∧ Ths 100 7 as) (em_var 7 rfl) (am_cons' (P := fun as => as.length = 1 ∧ Ths 100 7 as) (em_call' (Fsp 4) (hr.mono (by decide)) (P := Th 42 6) (Pa := fun as => ∃ y, as = [o, y] ∧ isPicks 5 y) (am_cons' (em_var 7 rfl) (am_cons' (P := fun as => ∃ y, as = [y] ∧ isPicks 5 y) (em_picks rfl (em_add' (em_lo 170 (by decide) rfl) em_int fun u v ⟨j, hu, hj⟩ hv => ⟨j, 10, hu, hv, j + 10, rfl, by omega⟩)) am_nil fun u us hu hus => ⟨u, by rw [hus], hu⟩) fun u us hu ⟨y, hus, hy⟩ => ⟨y, by rw [hu, hus], hy⟩) fun as ⟨y, e, hy⟩ => ⟨⟨o, y, 41, 4, e, hy, to, by decide, by decide, by decide⟩, fun d h => h o y 41 4 e to (by decide)⟩) am_nil fun u us hu hus => ⟨by rw [hus]; rfl, by rw [hus]; exact .one (hu.up (by decide) (by decide))⟩) fun u us hu ⟨h1, h2⟩ => ⟨by rw [List.length_cons, h1], by rw [hu]; exact .cons (to.up (by decide) (by decide)) h2⟩) fun as ⟨h1, h2⟩ => ⟨by omega, as, rfl, h1, h2⟩) fun u v hu hv => ?_) (fun T' hT' => bm_nil ⟨T', .dat d', .dat o, (show 9 + 2 * n + 2 = 9 + 2 * (n + 1) by omega) ▸ hT', rfl⟩) sc_law.nd
      rw [hu]
      exact TL.app (by omega) hT hv
    subst e
    have h19 : ∀ {X : Cx} {W : Wr} {ds : List Sl} {n m : Nat} {p1 p2 p3 : Pos}, Em X W ds (.BinOp (.Constant (.int 10) n p1) .Pow (.Constant (.int 20) m p2) p3) (· = .int (10 ^ 20)) := fun {_ _ _ _ _ _ _ _} => em_is (em_pow ⟨by decide, by decide, by decide⟩ em_int em_int) rfl
    refine bm_set (d := .list (some17.take 7)) 8 (em_is (em_lst (am_cons (c2 rfl rfl) (am_cons (c2 rfl rfl) (am_cons (c2 rfl rfl) (am_cons (c2 rfl rfl) (am_cons (c2 rfl rfl) (am_cons (c2 rfl rfl) (am_cons (em_tup (am_cons (em_neg em_int) (am_cons em_int am_nil))) am_nil)))))))) rfl) ?_ sc_law.nd
    refine bm_set (d := .list (some17.take 13)) 8 (em_is (em_catL (by decide) (em_var 8 rfl) (em_lst (am_cons (c2 rfl rfl) (am_cons (c2 rfl rfl) (am_cons (em_tup (am_cons em_bl (am_cons em_int am_nil))) (am_cons (em_tup (am_cons em_int (am_cons em_int (am_cons em_int am_nil)))) (am_cons em_non (am_cons (em_lst (am_cons em_int (am_cons em_int am_nil))) am_nil)))))))) rfl) ?_ sc_law.nd
    refine bm_forL (as := some17) (N1 := fun ds' => ∃ T x6 x7 x8 x9, TL 83 T ∧ ds' = S1 K a ns b p q s r [.dat T, x6, x7, x8, x9]) 9 (em_is (em_catL (by decide) (em_var 8 rfl) (em_lst (am_cons (em_tup (am_cons (em_sub h19 em_int) (am_cons (em_sub h19 em_int) am_nil))) (am_cons (em_tup (am_cons (em_sub h19 em_int) (am_cons h19 am_nil))) (am_cons (c2 rfl rfl) (am_cons (c2 rfl rfl) am_nil)))))) rfl) (fun n ds' => ∃ T x6 x7 x8 x9, TL (15 + 4 * n) T ∧ ds' = S1 K a ns b p q s r [.dat T, x6, x7, x8, x9]) ⟨T, x6, x7, _, .un, hT, rfl⟩ PassesOwn.never rfl (fun n d' ds' hd ⟨T, x6, x7, x8, x9, hT, e⟩ => ?_) (fun ds' h => h) (fun ds' ⟨T, x6, x7, x8, x9, hT, e⟩ => ?_) sc_law.nd
    · subst e
      have hn : n < 17 := (List.getElem?_eq_some_iff.mp hd).1
      have td : Th 3 1 d' := (List.all_eq_true.mp some17_th) _ (List.mem_of_getElem? hd)
      have tp : Th 3 1 (rt p) := Th.rt (by decide) p
      have f1 : Th 3 1 (fr 1 2) := th_dec (by decide +kernel)
      have f2 : Th 3 1 (fr 5 12) := th_dec (by decide +kernel)
      have pair : ∀ {x y : PyData}, Th 3 1 x → Th 3 1 y → Th 100 7 (.tuple [x, y]) := fun hx hy => Th.tup (m := 100) (k := 6) (by show 2 ≤ 100; decide) (Ths.cons (Th.mono (by decide) (by decide) hx) (Ths.cons (Th.mono (by decide) (by decide) hy) .nil))
      refine bm_set' 5 (P := TL (15 + 4 * n + 4)) (em_catL' (em_var 5 rfl) (em_mono (P' := fun d => ∃ ys, d = .list ys ∧ ys.length = 4 ∧ Ths 100 7 ys) (em_lst (am_cons (em_var 9 rfl) (am_cons (em_tup (am_cons (em_var 9 rfl) (am_cons (c2 rfl rfl) am_nil))) (am_cons (em_tup (am_cons (em_ixT (by rfl) (em_var 2 rfl) em_int) (am_cons (em_var 9 rfl) am_nil))) (am_cons (em_tup (am_cons (c2 rfl rfl) (am_cons (em_var 9 rfl) am_nil))) am_nil))))) fun d e => ⟨_, e, rfl, .cons (td.up (by decide) (by decide)) (.cons (pair td f1) (.cons (pair tp td) (.cons (pair f2 td) .nil)))⟩) fun u v hu hv => ?_) (fun T' hT' => bm_nil ⟨T', _, _, _, _, (show 15 + 4 * n + 4 = 15 + 4 * (n + 1) by omega) ▸ hT', rfl⟩) sc_law.nd
      rw [hu]
      exact TL.app (by omega) hT hv
    subst e
    refine bm_set' 5 (P := TL 87) (em_catL' (em_var 5 rfl) (em_mono (P' := fun d => ∃ ys, d = .list ys ∧ ys.length = 4 ∧ Ths 100 7 ys) (em_lst (am_cons (em_times (as := [.str "right"]) (by decide) (by decide) (fun z => nomatch z) (by exact Nat.le_of_ble_eq_true rfl) (em_tup (am_cons em_str am_nil)) em_int) (am_cons (em_times (as := [.str "right"]) (by decide) (by decide) (fun z => nomatch z) (by exact Nat.le_of_ble_eq_true rfl) (em_tup (am_cons em_str am_nil)) em_int) (am_cons (em_tup (am_cons em_str am_nil)) (am_cons (em_tup (am_cons em_non am_nil)) am_nil))))) fun d e => ⟨_, e, rfl, .cons (th_rep (n := 40) (by decide)) (.cons (th_rep (n := 41) (by decide)) (.cons (th_dec (by decide +kernel)) (.cons (th_dec (by decide +kernel)) .nil)))⟩) fun u v hu hv => by rw [hu]; exact TL.app (by decide) hT hv) (fun T1 hT1 => ?_) sc_law.nd
    have tpp : Th 100 6 (rt p) := Th.rt (by decide) p
    have tqq : Th 100 6 (rt q) := Th.rt (by decide) q
    refine bm_set' 5 (P := TL 91) (em_catL' (em_var 5 rfl) (em_mono (P' := fun d => ∃ ys, d = .list ys ∧ ys.length = 4 ∧ Ths 100 7 ys) (em_lst (am_cons em_str (am_cons (em_tup am_nil) (am_cons (em_tup (am_cons (em_ixT (by rfl) (em_var 2 rfl) em_int) am_nil)) (am_cons (em_catT (bs := [rt p]) (by show 2 + 1 ≤ 1000; decide) (em_var 2 rfl) (em_is (em_sliceT (em_var 2 rfl) om_none (om_some em_int)) rfl)) am_nil))))) fun d e => ⟨_, e, rfl, .cons (th_dec (by decide +kernel)) (.cons (th_dec (by decide +kernel)) (.cons (.tup (by show 1 ≤ 100; decide) (Ths.one tpp)) (.cons (.tup (by show 3 ≤ 100; decide) (Ths.cons tpp (Ths.cons tqq (Ths.cons tpp .nil)))) .nil)))⟩) fun u v hu hv => by rw [hu]; exact TL.app (by decide) hT1 hv) (fun T2 hT2 => ?_) sc_law.nd
    have pk2 : ∀ {y : PyData}, isPicks 5 y → isPicks 2 y := fun ⟨ns, e, h⟩ => ⟨ns, e, by omega⟩
    refine bm_forLP (N1 := fun ds' => ds'.length = 10 ∧ ds'[0]? = some (.scr K a ns)) (Pa := Ths 100 7) 6 (em_mono (em_catL' (P := TL 93) (em_var 5 rfl) (em_lst' (P := fun d => ∃ ys, d = .list ys ∧ ys.length = 2 ∧ Ths 100 7 ys) (am_cons' (P := fun as => as.length = 2 ∧ Ths 100 7 as) (em_call' Fo (hr.mono (by decide)) (P := Th 2 2) (Pa := fun as => ∃ y, as = [y] ∧ isPicks 5 y) (am_cons' (em_picks rfl (em_mono (em_lo 300 (by decide) rfl) fun _ ⟨j, e, h⟩ => ⟨j, e, by omega⟩)) am_nil fun u us hu hus => ⟨u, by rw [hus], hu⟩) fun as ⟨y, e, hy⟩ => ⟨⟨y, e, pk2 hy⟩, fun d h => h⟩) (am_cons' (P := fun as => as.length = 1 ∧ Ths 100 7 as) (em_call' Fo (hr.mono (by decide)) (P := Th 2 2) (Pa := fun as => ∃ y, as = [y] ∧ isPicks 5 y) (am_cons' (em_picks rfl (em_add' (em_lo 250 (by decide) rfl) em_int fun u v ⟨j, hu, hj⟩ hv => ⟨j, 40, hu, hv, j + 40, rfl, by omega⟩)) am_nil fun u us hu hus => ⟨u, by rw [hus], hu⟩) fun as ⟨y, e, hy⟩ => ⟨⟨y, e, pk2 hy⟩, fun d h => h⟩) am_nil fun u us hu hus => ⟨by rw [hus]; rfl, by rw [hus]; exact .one (hu.up (by decide) (by decide))⟩) fun u us hu ⟨h1, h2⟩ => ⟨by rw [List.length_cons, h1], .cons (hu.up (by decide) (by decide)) h2⟩) fun as ⟨h1, h2⟩ => ⟨by omega, as, rfl, h1, h2⟩) fun u v hu hv => by rw [hu]; exact TL.app (by decide) hT2 hv) fun d ⟨xs, e, _, h⟩ => ⟨xs, e, h⟩) (fun _ _ ds' => ∃ x5 x6, ds' = S1 K a ns b p q s r [x5, x6, x7, x8, x9]) (fun _ _ => ⟨_, x6, rfl⟩) PassesOwn.never rfl (fun as n d' ds' has hd ⟨x5, x6, e⟩ => ?_) (fun _ ds' _ ⟨x5, x6, e⟩ => by rw [e]; exact ⟨rfl, rfl⟩) (fun ds' h => bm_nil h) sc_law.nd
    subst e
    have td : Th 100 7 d' := has d' (List.mem_of_getElem? hd)
    have hshape : ∀ xs, d' = .tuple xs → ∀ y ∈ xs, SeqAt.shaped y = true := fun xs e y hy => by
      obtain ⟨j, ej, _, h⟩ := Th.of (.inr e) td
      exact ((h y hy).shp).shaped (by omega)
    have same : ∀ z : Str, (!decide (z = z)) = false := fun z => by rw [decide_eq_true rfl]; rfl
    refine bm_ifR (x := false) (tm_mono (tm_neS (em_reprB (x := arePartsD d') (em_callF Fa (hr.mono (by decide)) (am_cons (em_var 6 rfl) am_nil) rfl) mr) (em_reprB (x := arePartsD d') (em_callF Fla (hr.mono (by decide)) (am_cons (em_var 6 rfl) am_nil) rfl) mr)) fun _ e => e.trans (same _)) (fun h => nomatch h) fun _ => ?_
    refine bm_ifR (x := false) (tm_mono (tm_neS (em_reprB (x := isShareD d') (em_callF Fs (hr.mono (by decide)) (am_cons (em_var 6 rfl) am_nil) rfl) mr) (em_reprB (x := isShareD d') (em_callF Fls (hr.mono (by decide)) (am_cons (em_var 6 rfl) am_nil) rfl) mr)) fun _ e => e.trans (same _)) (fun h => nomatch h) fun _ => ?_
    exact bm_ifR (x := false) (tm_mono (tm_neS (em_reprB (x := isRowD d') (em_callF Fr (hr.mono (by decide)) (am_cons (em_var 6 rfl) am_nil) ⟨d', rfl, hshape⟩) mr) (em_reprB (x := isRowD d') (em_callF Flr (hr.mono (by decide)) (am_cons (em_var 6 rfl) am_nil) ⟨d', rfl, hshape⟩) mr)) fun _ e => e.trans (same _)) (fun h => nomatch h) fun _ => bm_nil ⟨x5, .dat d', rfl⟩
end
end Pb
set_option maxHeartbeats 0
namespace Pb
open PySem PySem.Spec PyProof.Rows L2 Dn
def dd_is_whole : He.DefD := ⟨("is_whole", none), "is_whole", "is_whole", defArgs s_is_whole, defBody s_is_whole, defScope s_is_whole, [], []⟩
def dd_common_divisor : He.DefD := ⟨("common_divisor", none), "common_divisor", "common_divisor", defArgs s_common_divisor, defBody s_common_divisor, defScope s_common_divisor, [], []⟩
def dd_is_pair : He.DefD := ⟨("is_pair", none), "is_pair", "is_pair", defArgs s_is_pair, defBody s_is_pair, defScope s_is_pair, [], []⟩
def dd_is_fraction : He.DefD := ⟨("is_fraction", none), "is_fraction", "is_fraction", defArgs s_is_fraction, defBody s_is_fraction, defScope s_is_fraction, [], []⟩
def dd_is_part : He.DefD := ⟨("is_part", none), "is_part", "is_part", defArgs s_is_part, defBody s_is_part, defScope s_is_part, [], []⟩
def dd_are_parts : He.DefD := ⟨("are_parts", none), "are_parts", "are_parts", defArgs s_are_parts, defBody s_are_parts, defScope s_are_parts, [], []⟩
def dd_is_share : He.DefD := ⟨("is_share", none), "is_share", "is_share", defArgs s_is_share, defBody s_is_share, defScope s_is_share, [], []⟩
def dd_is_pour : He.DefD := ⟨("is_pour", none), "is_pour", "is_pour", defArgs s_is_pour, defBody s_is_pour, defScope s_is_pour, [], []⟩
def dd_is_row : He.DefD := ⟨("is_row", none), "is_row", "is_row", defArgs s_is_row, defBody s_is_row, defScope s_is_row, [], []⟩
def dd__law_cell_at : He.DefD := ⟨("_law_cell_at", none), "_law_cell_at", "_law_cell_at", defArgs s__law_cell_at, defBody s__law_cell_at, defScope s__law_cell_at, [], []⟩
def dd__law_draws : He.DefD := ⟨("_law_draws", none), "_law_draws", "_law_draws", defArgs s__law_draws, defBody s__law_draws, defScope s__law_draws, [], []⟩
def dd__law_spoilt : He.DefD := ⟨("_law_spoilt", none), "_law_spoilt", "_law_spoilt", defArgs s__law_spoilt, defBody s__law_spoilt, defScope s__law_spoilt, [], []⟩
def dd__law_from : He.DefD := ⟨("_law_from", none), "_law_from", "_law_from", defArgs s__law_from, defBody s__law_from, defScope s__law_from, [], []⟩
def dd__law_bag : He.DefD := ⟨("_law_bag", none), "_law_bag", "_law_bag", defArgs s__law_bag, defBody s__law_bag, defScope s__law_bag, [], []⟩
def dd__law_bags : He.DefD := ⟨("_law_bags", none), "_law_bags", "_law_bags", defArgs s__law_bags, defBody s__law_bags, defScope s__law_bags, [], []⟩
def dd__law_take : He.DefD := ⟨("_law_take", none), "_law_take", "_law_take", defArgs s__law_take, defBody s__law_take, defScope s__law_take, [], []⟩
def dd__law_far_draw : He.DefD := ⟨("_law_far_draw", none), "_law_far_draw", "_law_far_draw", defArgs s__law_far_draw, defBody s__law_far_draw, defScope s__law_far_draw, [], []⟩
def dd__law_common : He.DefD := ⟨("_law_common", none), "_law_common", "_law_common", defArgs s__law_common, defBody s__law_common, defScope s__law_common, [], []⟩
def dd__law_odd : He.DefD := ⟨("_law_odd", none), "_law_odd", "_law_odd", defArgs s__law_odd, defBody s__law_odd, defScope s__law_odd, [], []⟩
def dd__law_made : He.DefD := ⟨("_law_made", none), "_law_made", "_law_made", defArgs s__law_made, defBody s__law_made, defScope s__law_made, [], []⟩
def dd__law_plus : He.DefD := ⟨("_law_plus", none), "_law_plus", "_law_plus", defArgs s__law_plus, defBody s__law_plus, defScope s__law_plus, [], []⟩
def dd__law_minus : He.DefD := ⟨("_law_minus", none), "_law_minus", "_law_minus", defArgs s__law_minus, defBody s__law_minus, defScope s__law_minus, [], []⟩
def dd__law_below : He.DefD := ⟨("_law_below", none), "_law_below", "_law_below", defArgs s__law_below, defBody s__law_below, defScope s__law_below, [], []⟩
def dd__law_a_part : He.DefD := ⟨("_law_a_part", none), "_law_a_part", "_law_a_part", defArgs s__law_a_part, defBody s__law_a_part, defScope s__law_a_part, [], []⟩
def dd__law_two_parts : He.DefD := ⟨("_law_two_parts", none), "_law_two_parts", "_law_two_parts", defArgs s__law_two_parts, defBody s__law_two_parts, defScope s__law_two_parts, [], []⟩
def dd__law_a_share : He.DefD := ⟨("_law_a_share", none), "_law_a_share", "_law_a_share", defArgs s__law_a_share, defBody s__law_a_share, defScope s__law_a_share, [], []⟩
def dd__law_a_row : He.DefD := ⟨("_law_a_row", none), "_law_a_row", "_law_a_row", defArgs s__law_a_row, defBody s__law_a_row, defScope s__law_a_row, [], []⟩
def dd__law_drawn : He.DefD := ⟨("_law_drawn", none), "_law_drawn", "_law_drawn", defArgs s__law_drawn, defBody s__law_drawn, defScope s__law_drawn, [], []⟩
def dd__law_is_share : He.DefD := ⟨("_law_is_share", none), "_law_is_share", "_law_is_share", defArgs s__law_is_share, defBody s__law_is_share, defScope s__law_is_share, [], []⟩
def dd__law_are_parts : He.DefD := ⟨("_law_are_parts", none), "_law_are_parts", "_law_are_parts", defArgs s__law_are_parts, defBody s__law_are_parts, defScope s__law_are_parts, [], []⟩
def dd__law_is_row : He.DefD := ⟨("_law_is_row", none), "_law_is_row", "_law_is_row", defArgs s__law_is_row, defBody s__law_is_row, defScope s__law_is_row, [], []⟩
def dd_law : He.DefD := ⟨("law", none), "law", "law", defArgs s_law, defBody s_law, defScope s_law, [], []⟩
def fn : List He.DefD := [dd_is_whole, dd_common_divisor, dd_is_pair, dd_is_fraction, dd_is_part, dd_are_parts, dd_is_share, dd_is_pour, dd_is_row, dd__law_cell_at, dd__law_draws, dd__law_spoilt, dd__law_from, dd__law_bag, dd__law_bags, dd__law_take, dd__law_far_draw, dd__law_common, dd__law_odd, dd__law_made, dd__law_plus, dd__law_minus, dd__law_below, dd__law_a_part, dd__law_two_parts, dd__law_a_share, dd__law_a_row, dd__law_drawn, dd__law_is_share, dd__law_are_parts, dd__law_is_row, dd_law]
def fa : List He.Fa := [.glo "is_whole", .glo "common_divisor", .glo "is_pair", .glo "is_fraction", .glo "is_part", .glo "are_parts", .glo "is_share", .glo "is_pour", .glo "is_row", .glo "_law_cell_at", .glo "_law_draws", .glo "_law_spoilt", .glo "_law_from", .glo "_law_bag", .glo "_law_bags", .glo "_law_take", .glo "_law_far_draw", .glo "_law_common", .glo "_law_odd", .glo "_law_made", .glo "_law_plus", .glo "_law_minus", .glo "_law_below", .glo "_law_a_part", .glo "_law_two_parts", .glo "_law_a_share", .glo "_law_a_row", .glo "_law_drawn", .glo "_law_is_share", .glo "_law_are_parts", .glo "_law_is_row", .glo "law", .free "abs", .free "all", .free "bool", .free "int", .free "isinstance", .free "len", .free "list", .free "max", .free "min", .free "range", .free "repr", .free "str", .free "tuple", .str "RIGHT" "right", .str "LEFT" "left", .int "MOST_POURS" 40, .int "MOST_PART_BOTTOM" 12, .int "MOST_SHARE_BOTTOM" 99999999999999999999]
abbrev RR : PySem.W.OpenRow := PySem.W.OpenLaw.row PySem.Challenge.rw_pourback_k01_parts_shares_rows_known
abbrev hk : PySem.W.Hook := He.hookD 4 fa fn
def ob (s : PySem.W.SharedT) : He.AlD := He.obsDG 4 fa fn (HandSHeadRun.getT s)
theorem ob_eq (s : PySem.W.SharedT) : ob s = hk.obs s.abs := He.obsDG_eq (HandSHeadRun.getT_eq s)
def loose : List PySem.Str := (["is_whole", "common_divisor", "is_pair", "is_fraction", "RIGHT", "LEFT", "MOST_POURS", "MOST_PART_BOTTOM", "MOST_SHARE_BOTTOM", "is_part", "are_parts", "is_share", "is_pour", "is_row", "_law_cell_at", "_law_draws", "_law_spoilt", "_law_from", "_law_bag", "_law_bags", "_law_take", "_law_far_draw", "_law_common", "_law_odd", "_law_made", "_law_plus", "_law_minus", "_law_below", "_law_a_part", "_law_two_parts"] : List PySem.Str) ++ (["_law_a_share", "_law_a_row", "_law_drawn", "_law_is_share", "_law_are_parts", "_law_is_row"] : List PySem.Str)
theorem run (w : World) : HandSHeadRun.RunEq RR (PySem.W.view RR.prog [39]) hk ob 4000 loose w := by
  intro os
  kernel_rfl
theorem facts {P : Program} {w : World} {K : PySem.W.Frag} {h : Heap} {mg : Str → Option Value} {f : Addr} (X : K.In h) (G : h.Ns mainGlobals mg) (hfa : mg ("law" : Str) = some (.ref f)) (c : He.SaysD fa fn K) :
    ∃ fd : FuncData, (∀ (s : Shared) (v : Value), BindsTo s fd ⟨[v], []⟩ [("script", v)]) ∧ ∀ base : Heap, K.In base → base.Ns mainGlobals mg → FnOk P w K mg base CX0 7 f fd ["script"] (spLaw K) := by
  have B : Bi mg := ⟨(He.free_ok X G (c.fact 36 (f := .free "isinstance") rfl)), (He.free_ok X G (c.fact 35 (f := .free "int") rfl)), (He.free_ok X G (c.fact 34 (f := .free "bool") rfl)), (He.free_ok X G (c.fact 44 (f := .free "tuple") rfl)), (He.free_ok X G (c.fact 37 (f := .free "len") rfl)), (He.free_ok X G (c.fact 32 (f := .free "abs") rfl)), (He.free_ok X G (c.fact 33 (f := .free "all") rfl))⟩
  have J : Bj mg := ⟨(He.free_ok X G (c.fact 41 (f := .free "range") rfl)), (He.free_ok X G (c.fact 39 (f := .free "max") rfl)), (He.free_ok X G (c.fact 40 (f := .free "min") rfl))⟩
  have C : Cn mg := ⟨He.str_ok X G (c.fact 45 (f := .str "RIGHT" "right") rfl), He.str_ok X G (c.fact 46 (f := .str "LEFT" "left") rfl), He.int_ok X G (c.fact 47 (f := .int "MOST_POURS" 40) rfl), He.int_ok X G (c.fact 48 (f := .int "MOST_PART_BOTTOM" 12) rfl), He.int_ok X G (c.fact 49 (f := .int "MOST_SHARE_BOTTOM" 99999999999999999999) rfl)⟩
  have ex_list : mg "list" = none := (He.free_ok X G (c.fact 38 (f := .free "list") rfl))
  have ex_repr : mg "repr" = none := (He.free_ok X G (c.fact 42 (f := .free "repr") rfl))
  have ex_str : mg "str" = none := (He.free_ok X G (c.fact 43 (f := .free "str") rfl))
  obtain ⟨fd_is_whole, F_is_whole⟩ := c.def_ 0 (d := dd_is_whole) rfl
  have g_is_whole : mg ("is_whole" : Str) = some (.ref (He.ga K "is_whole")) := He.glo_ok X G (c.fact 0 (f := .glo "is_whole") rfl)
  obtain ⟨fd_common_divisor, F_common_divisor⟩ := c.def_ 1 (d := dd_common_divisor) rfl
  have g_common_divisor : mg ("common_divisor" : Str) = some (.ref (He.ga K "common_divisor")) := He.glo_ok X G (c.fact 1 (f := .glo "common_divisor") rfl)
  obtain ⟨fd_is_pair, F_is_pair⟩ := c.def_ 2 (d := dd_is_pair) rfl
  have g_is_pair : mg ("is_pair" : Str) = some (.ref (He.ga K "is_pair")) := He.glo_ok X G (c.fact 2 (f := .glo "is_pair") rfl)
  obtain ⟨fd_is_fraction, F_is_fraction⟩ := c.def_ 3 (d := dd_is_fraction) rfl
  have g_is_fraction : mg ("is_fraction" : Str) = some (.ref (He.ga K "is_fraction")) := He.glo_ok X G (c.fact 3 (f := .glo "is_fraction") rfl)
  obtain ⟨fd_is_part, F_is_part⟩ := c.def_ 4 (d := dd_is_part) rfl
  have g_is_part : mg ("is_part" : Str) = some (.ref (He.ga K "is_part")) := He.glo_ok X G (c.fact 4 (f := .glo "is_part") rfl)
  obtain ⟨fd_are_parts, F_are_parts⟩ := c.def_ 5 (d := dd_are_parts) rfl
  have g_are_parts : mg ("are_parts" : Str) = some (.ref (He.ga K "are_parts")) := He.glo_ok X G (c.fact 5 (f := .glo "are_parts") rfl)
  obtain ⟨fd_is_share, F_is_share⟩ := c.def_ 6 (d := dd_is_share) rfl
  have g_is_share : mg ("is_share" : Str) = some (.ref (He.ga K "is_share")) := He.glo_ok X G (c.fact 6 (f := .glo "is_share") rfl)
  obtain ⟨fd_is_pour, F_is_pour⟩ := c.def_ 7 (d := dd_is_pour) rfl
  have g_is_pour : mg ("is_pour" : Str) = some (.ref (He.ga K "is_pour")) := He.glo_ok X G (c.fact 7 (f := .glo "is_pour") rfl)
  obtain ⟨fd_is_row, F_is_row⟩ := c.def_ 8 (d := dd_is_row) rfl
  have g_is_row : mg ("is_row" : Str) = some (.ref (He.ga K "is_row")) := He.glo_ok X G (c.fact 8 (f := .glo "is_row") rfl)
  obtain ⟨fd__law_cell_at, F__law_cell_at⟩ := c.def_ 9 (d := dd__law_cell_at) rfl
  have g__law_cell_at : mg ("_law_cell_at" : Str) = some (.ref (He.ga K "_law_cell_at")) := He.glo_ok X G (c.fact 9 (f := .glo "_law_cell_at") rfl)
  obtain ⟨fd__law_draws, F__law_draws⟩ := c.def_ 10 (d := dd__law_draws) rfl
  have g__law_draws : mg ("_law_draws" : Str) = some (.ref (He.ga K "_law_draws")) := He.glo_ok X G (c.fact 10 (f := .glo "_law_draws") rfl)
  obtain ⟨fd__law_spoilt, F__law_spoilt⟩ := c.def_ 11 (d := dd__law_spoilt) rfl
  have g__law_spoilt : mg ("_law_spoilt" : Str) = some (.ref (He.ga K "_law_spoilt")) := He.glo_ok X G (c.fact 11 (f := .glo "_law_spoilt") rfl)
  obtain ⟨fd__law_from, F__law_from⟩ := c.def_ 12 (d := dd__law_from) rfl
  have g__law_from : mg ("_law_from" : Str) = some (.ref (He.ga K "_law_from")) := He.glo_ok X G (c.fact 12 (f := .glo "_law_from") rfl)
  obtain ⟨fd__law_bag, F__law_bag⟩ := c.def_ 13 (d := dd__law_bag) rfl
  have g__law_bag : mg ("_law_bag" : Str) = some (.ref (He.ga K "_law_bag")) := He.glo_ok X G (c.fact 13 (f := .glo "_law_bag") rfl)
  obtain ⟨fd__law_bags, F__law_bags⟩ := c.def_ 14 (d := dd__law_bags) rfl
  have g__law_bags : mg ("_law_bags" : Str) = some (.ref (He.ga K "_law_bags")) := He.glo_ok X G (c.fact 14 (f := .glo "_law_bags") rfl)
  obtain ⟨fd__law_take, F__law_take⟩ := c.def_ 15 (d := dd__law_take) rfl
  have g__law_take : mg ("_law_take" : Str) = some (.ref (He.ga K "_law_take")) := He.glo_ok X G (c.fact 15 (f := .glo "_law_take") rfl)
  obtain ⟨fd__law_far_draw, F__law_far_draw⟩ := c.def_ 16 (d := dd__law_far_draw) rfl
  have g__law_far_draw : mg ("_law_far_draw" : Str) = some (.ref (He.ga K "_law_far_draw")) := He.glo_ok X G (c.fact 16 (f := .glo "_law_far_draw") rfl)
  obtain ⟨fd__law_common, F__law_common⟩ := c.def_ 17 (d := dd__law_common) rfl
  have g__law_common : mg ("_law_common" : Str) = some (.ref (He.ga K "_law_common")) := He.glo_ok X G (c.fact 17 (f := .glo "_law_common") rfl)
  obtain ⟨fd__law_odd, F__law_odd⟩ := c.def_ 18 (d := dd__law_odd) rfl
  have g__law_odd : mg ("_law_odd" : Str) = some (.ref (He.ga K "_law_odd")) := He.glo_ok X G (c.fact 18 (f := .glo "_law_odd") rfl)
  obtain ⟨fd__law_made, F__law_made⟩ := c.def_ 19 (d := dd__law_made) rfl
  have g__law_made : mg ("_law_made" : Str) = some (.ref (He.ga K "_law_made")) := He.glo_ok X G (c.fact 19 (f := .glo "_law_made") rfl)
  obtain ⟨fd__law_plus, F__law_plus⟩ := c.def_ 20 (d := dd__law_plus) rfl
  have g__law_plus : mg ("_law_plus" : Str) = some (.ref (He.ga K "_law_plus")) := He.glo_ok X G (c.fact 20 (f := .glo "_law_plus") rfl)
  obtain ⟨fd__law_minus, F__law_minus⟩ := c.def_ 21 (d := dd__law_minus) rfl
  have g__law_minus : mg ("_law_minus" : Str) = some (.ref (He.ga K "_law_minus")) := He.glo_ok X G (c.fact 21 (f := .glo "_law_minus") rfl)
  obtain ⟨fd__law_below, F__law_below⟩ := c.def_ 22 (d := dd__law_below) rfl
  have g__law_below : mg ("_law_below" : Str) = some (.ref (He.ga K "_law_below")) := He.glo_ok X G (c.fact 22 (f := .glo "_law_below") rfl)
  obtain ⟨fd__law_a_part, F__law_a_part⟩ := c.def_ 23 (d := dd__law_a_part) rfl
  have g__law_a_part : mg ("_law_a_part" : Str) = some (.ref (He.ga K "_law_a_part")) := He.glo_ok X G (c.fact 23 (f := .glo "_law_a_part") rfl)
  obtain ⟨fd__law_two_parts, F__law_two_parts⟩ := c.def_ 24 (d := dd__law_two_parts) rfl
  have g__law_two_parts : mg ("_law_two_parts" : Str) = some (.ref (He.ga K "_law_two_parts")) := He.glo_ok X G (c.fact 24 (f := .glo "_law_two_parts") rfl)
  obtain ⟨fd__law_a_share, F__law_a_share⟩ := c.def_ 25 (d := dd__law_a_share) rfl
  have g__law_a_share : mg ("_law_a_share" : Str) = some (.ref (He.ga K "_law_a_share")) := He.glo_ok X G (c.fact 25 (f := .glo "_law_a_share") rfl)
  obtain ⟨fd__law_a_row, F__law_a_row⟩ := c.def_ 26 (d := dd__law_a_row) rfl
  have g__law_a_row : mg ("_law_a_row" : Str) = some (.ref (He.ga K "_law_a_row")) := He.glo_ok X G (c.fact 26 (f := .glo "_law_a_row") rfl)
  obtain ⟨fd__law_drawn, F__law_drawn⟩ := c.def_ 27 (d := dd__law_drawn) rfl
  have g__law_drawn : mg ("_law_drawn" : Str) = some (.ref (He.ga K "_law_drawn")) := He.glo_ok X G (c.fact 27 (f := .glo "_law_drawn") rfl)
  obtain ⟨fd__law_is_share, F__law_is_share⟩ := c.def_ 28 (d := dd__law_is_share) rfl
  have g__law_is_share : mg ("_law_is_share" : Str) = some (.ref (He.ga K "_law_is_share")) := He.glo_ok X G (c.fact 28 (f := .glo "_law_is_share") rfl)
  obtain ⟨fd__law_are_parts, F__law_are_parts⟩ := c.def_ 29 (d := dd__law_are_parts) rfl
  have g__law_are_parts : mg ("_law_are_parts" : Str) = some (.ref (He.ga K "_law_are_parts")) := He.glo_ok X G (c.fact 29 (f := .glo "_law_are_parts") rfl)
  obtain ⟨fd__law_is_row, F__law_is_row⟩ := c.def_ 30 (d := dd__law_is_row) rfl
  have g__law_is_row : mg ("_law_is_row" : Str) = some (.ref (He.ga K "_law_is_row")) := He.glo_ok X G (c.fact 30 (f := .glo "_law_is_row") rfl)
  obtain ⟨fd_law, F_law⟩ := c.def_ 31 (d := dd_law) rfl
  have e := hfa.symm.trans (He.glo_ok X G (c.fact 31 (f := .glo "law") rfl))
  cases e
  have b := FunD.bindsA (ps := ["script"]) F_law fun _ _ _ _ _ _ us hl => match us, hl with | [_], _ => rfl
  refine ⟨fd_law, fun s v => b s [v] rfl, fun base _ _ => ?_⟩
  have k_is_whole : Fk P w K mg base "is_whole" 1 ["thing"] sp_is_whole := fk_of F_is_whole g_is_whole (ok_is_whole F_is_whole B) fun _ _ _ _ _ _ us hl => match us, hl with | [_], _ => rfl
  have k_common_divisor : Fk P w K mg base "common_divisor" 1 ["one", "other"] sp_gcd := fk_of F_common_divisor g_common_divisor (ok_common_divisor F_common_divisor) fun _ _ _ _ _ _ us hl => match us, hl with | [_, _], _ => rfl
  have k_is_pair : Fk P w K mg base "is_pair" 1 ["thing"] sp_is_pair := fk_of F_is_pair g_is_pair (ok_is_pair F_is_pair B) fun _ _ _ _ _ _ us hl => match us, hl with | [_], _ => rfl
  have k_is_fraction : Fk P w K mg base "is_fraction" 2 ["thing"] sp_is_fraction := fk_of F_is_fraction g_is_fraction (ok_is_fraction F_is_fraction B k_is_pair k_is_whole k_common_divisor) fun _ _ _ _ _ _ us hl => match us, hl with | [_], _ => rfl
  have k_is_part : Fk P w K mg base "is_part" 3 ["thing"] sp_is_part := fk_of F_is_part g_is_part (ok_is_part F_is_part C k_is_fraction) fun _ _ _ _ _ _ us hl => match us, hl with | [_], _ => rfl
  have k_are_parts : Fk P w K mg base "are_parts" 4 ["thing"] sp_are_parts := fk_of F_are_parts g_are_parts (ok_are_parts F_are_parts k_is_pair k_is_part) fun _ _ _ _ _ _ us hl => match us, hl with | [_], _ => rfl
  have k_is_share : Fk P w K mg base "is_share" 3 ["thing"] sp_is_share := fk_of F_is_share g_is_share (ok_is_share F_is_share C k_is_fraction) fun _ _ _ _ _ _ us hl => match us, hl with | [_], _ => rfl
  have k_is_pour : Fk P w K mg base "is_pour" 1 ["thing"] sp_is_pour := fk_of F_is_pour g_is_pour (ok_is_pour F_is_pour C) fun _ _ _ _ _ _ us hl => match us, hl with | [_], _ => rfl
  have k_is_row : Fk P w K mg base "is_row" 2 ["thing"] sp_is_row := fk_of F_is_row g_is_row (ok_is_row F_is_row B C k_is_pour) fun _ _ _ _ _ _ us hl => match us, hl with | [_], _ => rfl
  have k__law_cell_at : Fk P w K mg base "_law_cell_at" 1 ["script", "k"] (sp_cell K) := fk_of F__law_cell_at g__law_cell_at (ok__law_cell_at F__law_cell_at B) fun _ _ _ _ _ _ us hl => match us, hl with | [_, _], _ => rfl
  have k__law_draws : Fk P w K mg base "_law_draws" 1 ["cell", "many", "size"] sp_draws := fk_of F__law_draws g__law_draws (ok__law_draws F__law_draws B J) fun _ _ _ _ _ _ us hl => match us, hl with | [_, _, _], _ => rfl
  have k__law_from : Fk P w K mg base "_law_from" 1 ["thing", "least", "top"] sp_from := fk_of F__law_from g__law_from (ok__law_from F__law_from B) fun _ _ _ _ _ _ us hl => match us, hl with | [_, _, _], _ => rfl
  have k__law_bag : Fk P w K mg base "_law_bag" 2 ["script", "k"] (sp_bag K) := fk_of F__law_bag g__law_bag (ok__law_bag F__law_bag k__law_cell_at k__law_draws) fun _ _ _ _ _ _ us hl => match us, hl with | [_, _], _ => rfl
  have k__law_bags : Fk P w K mg base "_law_bags" 3 ["script", "limit"] (spBags K) := fk_of F__law_bags g__law_bags (ok__law_bags F__law_bags B J k__law_bag) fun _ _ _ _ _ _ us hl => match us, hl with | [_, _], _ => rfl
  have k__law_take : Fk P w K mg base "_law_take" 1 ["bag", "many"] sp_take := fk_of F__law_take g__law_take (ok__law_take F__law_take B) fun _ _ _ _ _ _ us hl => match us, hl with | [_, _], _ => rfl
  have k__law_far_draw : Fk P w K mg base "_law_far_draw" 2 ["bag", "many"] sp_far := fk_of F__law_far_draw g__law_far_draw (ok__law_far_draw F__law_far_draw k__law_take) fun _ _ _ _ _ _ us hl => match us, hl with | [_, _], _ => rfl
  have k__law_common : Fk P w K mg base "_law_common" 1 ["one", "other"] sp_gcd := fk_of F__law_common g__law_common (ok__law_common F__law_common) fun _ _ _ _ _ _ us hl => match us, hl with | [_, _], _ => rfl
  have k__law_odd : Fk P w K mg base "_law_odd" 1 ["picks"] sp_odd := fk_of F__law_odd g__law_odd (ok__law_odd F__law_odd B) fun _ _ _ _ _ _ us hl => match us, hl with | [_], _ => rfl
  have k__law_spoilt : ∀ kk, Fk P w K mg base "_law_spoilt" (kk + 2) ["thing", "picks"] (sp_spoilt kk) := by
    intro kk
    induction kk with
    | zero => exact fk_of F__law_spoilt g__law_spoilt (ok__law_spoilt 0 F__law_spoilt B ex_list k__law_odd fun j h => nomatch h) fun _ _ _ _ _ _ us hl => match us, hl with | [_, _], _ => rfl
    | succ j ih => exact fk_of F__law_spoilt g__law_spoilt (ok__law_spoilt (j + 1) F__law_spoilt B ex_list k__law_odd fun i h => by cases h; exact ih) fun _ _ _ _ _ _ us hl => match us, hl with | [_, _], _ => rfl
  have k__law_made : Fk P w K mg base "_law_made" 2 ["top", "bottom"] sp_made := fk_of F__law_made g__law_made (ok__law_made F__law_made B k__law_common) fun _ _ _ _ _ _ us hl => match us, hl with | [_, _], _ => rfl
  have k__law_plus : Fk P w K mg base "_law_plus" 3 ["one", "other"] (sp2 fun x y => rt (x + y)) := fk_of F__law_plus g__law_plus (ok__law_plus F__law_plus k__law_made) fun _ _ _ _ _ _ us hl => match us, hl with | [_, _], _ => rfl
  have k__law_minus : Fk P w K mg base "_law_minus" 3 ["one", "other"] (sp2 fun x y => rt (x - y)) := fk_of F__law_minus g__law_minus (ok__law_minus F__law_minus k__law_made) fun _ _ _ _ _ _ us hl => match us, hl with | [_, _], _ => rfl
  have k__law_below : Fk P w K mg base "_law_below" 1 ["one", "other"] (sp2 fun x y => .bool (decide (x < y))) := fk_of F__law_below g__law_below (ok__law_below F__law_below) fun _ _ _ _ _ _ us hl => match us, hl with | [_, _], _ => rfl
  have k__law_a_part : Fk P w K mg base "_law_a_part" 3 ["bag"] sp_a_part := fk_of F__law_a_part g__law_a_part (ok__law_a_part F__law_a_part k__law_take k__law_made) fun _ _ _ _ _ _ us hl => match us, hl with | [_], _ => rfl
  have k__law_two_parts : Fk P w K mg base "_law_two_parts" 4 ["bag"] sp_two_parts := fk_of F__law_two_parts g__law_two_parts (ok__law_two_parts F__law_two_parts k__law_take k__law_a_part k__law_minus k__law_plus k__law_below) fun _ _ _ _ _ _ us hl => match us, hl with | [_], _ => rfl
  have k__law_a_share : Fk P w K mg base "_law_a_share" 3 ["bag"] sp_a_share := fk_of F__law_a_share g__law_a_share (ok__law_a_share F__law_a_share k__law_take k__law_far_draw k__law_made) fun _ _ _ _ _ _ us hl => match us, hl with | [_], _ => rfl
  have k__law_a_row : Fk P w K mg base "_law_a_row" 2 ["bag", "most"] sp_a_row := fk_of F__law_a_row g__law_a_row (ok__law_a_row F__law_a_row B J k__law_take) fun _ _ _ _ _ _ us hl => match us, hl with | [_, _], _ => rfl
  have k__law_drawn : Fk P w K mg base "_law_drawn" 5 ["bag", "most"] sp_drawn := fk_of F__law_drawn g__law_drawn (ok__law_drawn F__law_drawn k__law_two_parts k__law_a_share k__law_a_row) fun _ _ _ _ _ _ us hl => match us, hl with | [_, _], _ => rfl
  have k__law_is_share : Fk P w K mg base "_law_is_share" 2 ["thing"] sp_lshare := fk_of F__law_is_share g__law_is_share (ok__law_is_share F__law_is_share B k__law_from k__law_common) fun _ _ _ _ _ _ us hl => match us, hl with | [_], _ => rfl
  have k__law_are_parts : Fk P w K mg base "_law_are_parts" 3 ["thing"] sp_are_parts := fk_of F__law_are_parts g__law_are_parts (ok__law_are_parts F__law_are_parts B k__law_is_share) fun _ _ _ _ _ _ us hl => match us, hl with | [_], _ => rfl
  have k__law_is_row : Fk P w K mg base "_law_is_row" 2 ["thing"] sp_is_row := fk_of F__law_is_row g__law_is_row (ok__law_is_row F__law_is_row B ex_str) fun _ _ _ _ _ _ us hl => match us, hl with | [_], _ => rfl
  exact ok_law F_law B ex_list ex_repr k__law_bags k__law_drawn k__law_odd k__law_spoilt k__law_are_parts k__law_is_share k__law_is_row k_are_parts k_is_share k_is_row
end Pb
open PySem PySem.W PySem.Calls PyProof.Rows
set_option maxRecDepth 100000 in
set_option maxHeartbeats 0 in
theorem PySem.Challenge.cw_pourback_k01_parts_shares_rows_known_holds : PySem.Challenge.rw_pourback_k01_parts_shares_rows_known.Holds := by
  w_on; o_law
  refine HandSHeadRun.head_any (r := Pb.RR) (q := view Pb.RR.prog [39]) (H := Pb.hk) (ob := Pb.ob) (M := 4000) (loose := Pb.loose) (d := HandSHeadRun.topDef Pb.RR.prog 39) (kwd := []) Pb.ob_eq
    (by kernel_rfl) (fun s => by kernel_rfl) Pb.run (by kernel_rfl) (by kernel_rfl) (by kernel_rfl) (by rfl) (by first | assumption | decide +kernel) (by decide +kernel) ⟨rfl, rfl, rfl, rfl, rfl, by decide +kernel⟩ ?hw ?hc
  case hw => w_witness2
  case hc =>
    refine L2.walk_ofE (l := PySem.Challenge.rw_pourback_k01_parts_shares_rows_known) (n := 63) (k := 7) (x := "script") (CX := L2.CX0) rfl (by decide) (by kernel_rfl) ⟨rfl, by decide, by decide⟩ ?F (fun _ _ _ _ z => z)
    intro w mg fa h Y G hmg0
    obtain ⟨K, KX, c⟩ := Y
    have hmg : mg ("law" : PySem.Str) = some (.ref fa) := by
      have e : (HandSHeadRun.topDef Pb.RR.prog 39).name = ("law" : PySem.Str) := by kernel_rfl
      rw [← e]
      exact hmg0
    obtain ⟨fd, hb, hF⟩ := Pb.facts (P := (PySem.Challenge.rw_pourback_k01_parts_shares_rows_known).prog) (w := w) KX G hmg c
    exact ⟨K, fd, Pb.spLaw K, KX, hb, fun H a ns hl _ hS => ⟨a, ns, rfl, hS, fun _ => rfl⟩, hF⟩
