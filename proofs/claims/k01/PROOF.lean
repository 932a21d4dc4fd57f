import PyProof.Rows.All
import Wide.All
import OpenK.AllK
import Wide.FinOn
import HandS.ForMost
import HandS.Evl
import HandS.IsInst
import HandS.Zip
import HandS.TupAny
import HandS.Style
import HandS.TupLe
import PyProof.TypeEq
import PyProof.InstEq
import HandS.Deep
import PyProof.StrOps2
import PyProof.Rows.InDataRows
import PySem.Challenge.RW_cutjoin_k01_pieces_and_ends
set_option Elab.async false
set_option linter.all false
set_option maxRecDepth 100000
set_option maxHeartbeats 1000000
namespace Dn
open PySem PySem.Spec PyProof.Rows L2 Evl

abbrev Dt := PyData
abbrev Fr := PySem.W.Frag
def keyD : Key → Dt
  | .inl i => .int i
  | .inr x => .str x
def ctrD : Dt := .dict [(.none, .none)]

mutual
inductive Rp (K : Fr) (m : Option Addr) (F : Hp) : V → Dt → Prop
  | non : Rp K m F .non .none
  | bl (b : Bool) : Rp K m F (.bl b) (.bool b)
  | int (i : Int) : Rp K m F (.int i) (.int i)
  | str (x : Str) : Rp K m F (.str x) (.str x)
  | lst {a : Addr} {xs : List V} {ds : List Dt} : SqL K F a xs → RpA K m F xs ds → Rp K m F (.ref a) (.list ds)
  | tup {a : Addr} {xs : List V} {ds : List Dt} : SqT K F a xs → RpA K m F xs ds → Rp K m F (.ref a) (.tuple ds)
  | dK {a : Addr} {kvs : List (Key × V)} {ds : List Dt} : F a = some (.dK kvs) → RpA K m F (kvs.map (·.2)) ds → Rp K m F (.ref a) (.dict ((kvs.map fun p => keyD p.1).zip ds))
  | dT {a : Addr} {kvs : List (List Key × V)} {ds : List Dt} : F a = some (.dT kvs) → RpA K m F (kvs.map (·.2)) ds → Rp K m F (.ref a) (.dict ((kvs.map fun p => PyData.tuple (p.1.map keyD)).zip ds))
  | ctr {a : Addr} : m = some a → Rp K m F (.ref a) ctrD
inductive RpA (K : Fr) (m : Option Addr) (F : Hp) : List V → List Dt → Prop
  | nil : RpA K m F [] []
  | cons {v : V} {vs : List V} {d : Dt} {ds : List Dt} : Rp K m F v d → RpA K m F vs ds → RpA K m F (v :: vs) (d :: ds)
end

section
variable {K : Fr} {m : Option Addr} {F F' : Hp}
mutual
theorem Rp.mono (e : Ex F F') : ∀ {v : V} {d : Dt}, Rp K m F v d → Rp K m F' v d
  | _, _, .non => .non
  | _, _, .bl b => .bl b
  | _, _, .int i => .int i
  | _, _, .str x => .str x
  | _, _, .lst h r => .lst (ex_l e h) (RpA.mono e r)
  | _, _, .tup h r => .tup (ex_t e h) (RpA.mono e r)
  | _, _, .dK h r => .dK (e _ _ h) (RpA.mono e r)
  | _, _, .dT h r => .dT (e _ _ h) (RpA.mono e r)
  | _, _, .ctr h => .ctr h
theorem RpA.mono (e : Ex F F') : ∀ {vs : List V} {ds : List Dt}, RpA K m F vs ds → RpA K m F' vs ds
  | _, _, .nil => .nil
  | _, _, .cons h r => .cons (Rp.mono e h) (RpA.mono e r)
end
theorem RpA.length : ∀ {vs : List V} {ds : List Dt}, RpA K m F vs ds → vs.length = ds.length
  | _, _, .nil => rfl
  | _, _, .cons _ r => congrArg (· + 1) (RpA.length r)
theorem RpA.append : ∀ {vs us : List V} {ds es : List Dt}, RpA K m F vs ds → RpA K m F us es → RpA K m F (vs ++ us) (ds ++ es)
  | _, _, _, _, .nil, s => s
  | _, _, _, _, .cons h r, s => .cons h (RpA.append r s)
theorem RpA.get : ∀ {vs : List V} {ds : List Dt} {i : Nat} {d : Dt}, RpA K m F vs ds → ds[i]? = some d → ∃ v, vs[i]? = some v ∧ Rp K m F v d
  | _, _, _, _, .nil, e => by simp at e
  | _, _, 0, _, .cons h _, e => by
    simp at e
    subst e
    exact ⟨_, rfl, h⟩
  | _, _, i + 1, d, .cons _ r, e => by
    obtain ⟨v, h1, h2⟩ := RpA.get (i := i) (d := d) r (by simpa using e)
    exact ⟨v, by simpa using h1, h2⟩
theorem RpA.take : ∀ {vs : List V} {ds : List Dt} (n : Nat), RpA K m F vs ds → RpA K m F (vs.take n) (ds.take n)
  | _, _, 0, _ => .nil
  | _, _, _ + 1, .nil => .nil
  | _, _, n + 1, .cons h r => .cons h (RpA.take n r)
theorem RpA.drop : ∀ {vs : List V} {ds : List Dt} (n : Nat), RpA K m F vs ds → RpA K m F (vs.drop n) (ds.drop n)
  | _, _, 0, r => r
  | _, _, _ + 1, .nil => .nil
  | _, _, n + 1, .cons _ r => RpA.drop n r
theorem RpA.reverse {vs : List V} {ds : List Dt} (h : RpA K m F vs ds) : RpA K m F vs.reverse ds.reverse := by
  induction vs generalizing ds with
  | nil => cases h; exact .nil
  | cons v vs ih =>
    cases h with
    | cons h r =>
      rw [List.reverse_cons, List.reverse_cons]
      exact (ih r).append (.cons h .nil)
theorem RpA.set {v : V} {d : Dt} (h : Rp K m F v d) : ∀ {vs : List V} {ds : List Dt} (i : Nat), RpA K m F vs ds → RpA K m F (vs.set i v) (ds.set i d)
  | _, _, _, .nil => .nil
  | _, _, 0, .cons _ r => .cons h r
  | _, _, i + 1, .cons q r => .cons q (RpA.set h i r)
theorem RpA.bls : ∀ {bs : List Bool}, RpA K m F (bs.map V.bl) (bs.map PyData.bool)
  | [] => .nil
  | b :: bs => .cons (.bl b) RpA.bls
theorem RpA.one {v : V} {d : Dt} (h : Rp K m F v d) : RpA K m F [v] [d] := .cons h .nil
end

/-- frozen data F, all that is tracked H, from one point to a later one; m is the one list that draws change -/
structure Grow (m : Option Addr) (F H F' H' : Hp) : Prop where
  ff : Ex F F'
  fh : Ex F' H'
  nw : ∀ a, F' a ≠ none → F a ≠ none ∨ H a = none
  hh : ∀ a o, m ≠ some a → H a = some o → H' a = some o
def Ctr (m : Option Addr) (F H : Hp) (k : Int) : Prop := ∀ a, m = some a → H a = some (.lst [.int k]) ∧ F a = none

section
variable {K : Fr} {m : Option Addr} {F H F1 H1 F2 H2 F3 H3 : Hp} {k k1 k2 : Int}
theorem Grow.refl (e : Ex F H) : Grow m F H F H := ⟨Ex.refl F, e, fun _ h => .inl h, fun _ _ _ h => h⟩
/-- the heap of a later point knows what an earlier one knew -/
theorem Grow.known (g : Grow m F H F1 H1) (c : Ctr m F1 H1 k) {a : Addr} (h : H a ≠ none) : H1 a ≠ none := by
  by_cases e : m = some a
  · rw [(c a e).1]
    intro z
    cases z
  · cases q : H a with
    | none => exact absurd q h
    | some o =>
      rw [g.hh a o e q]
      intro z
      cases z
theorem Grow.back (g : Grow m F H F1 H1) (c : Ctr m F1 H1 k) {a : Addr} (h : H1 a = none) : H a = none := by
  cases q : H a with
  | none => rfl
  | some o =>
    exact absurd h (g.known c (by
      rw [q]
      intro z
      cases z))
theorem Grow.trans (g : Grow m F H F1 H1) (c : Ctr m F1 H1 k) (g2 : Grow m F1 H1 F2 H2) : Grow m F H F2 H2 where
  ff := g.ff.trans g2.ff
  fh := g2.fh
  nw := fun a h => by
    rcases g2.nw a h with h1 | h1
    · exact g.nw a h1
    · exact .inr (g.back c h1)
  hh := fun a o e h => g2.hh a o e (g.hh a o e h)
theorem Grow.f_none (g : Grow m F H F1 H1) {p : Addr} {o : HO} (hf : F p = none) (hh : H p = some o) : F1 p = none := by
  cases q : F1 p with
  | none => rfl
  | some u =>
    rcases g.nw p (by
      rw [q]
      intro z
      cases z) with z | z
    · exact absurd hf z
    · rw [hh] at z
      cases z
/-- a new object, held by one alone (not frozen) -/
theorem Grow.laid {p : Addr} {o : HO} (e : Ex F H) (hp : H p = none) : Grow m F H F (upd H p o) :=
  ⟨Ex.refl F, e.trans (Ex.new hp), fun _ h => .inl h, fun _ _ _ h => Ex.new hp _ _ h⟩
theorem ex_none (e : Ex F H) {p : Addr} (h : H p = none) : F p = none := fresh_back e h
theorem Ctr.ne (c : Ctr m F H k) {p : Addr} (h : H p = none) : m ≠ some p := fun e => by
  rw [(c p e).1] at h
  cases h
theorem Ctr.laid {p : Addr} {o : HO} (c : Ctr m F H k) (hp : H p = none) : Ctr m F (upd H p o) k := fun a e => by
  have ne : a ≠ p := fun z => c.ne hp (z ▸ e)
  rw [upd_ne ne]
  exact c a e
/-- freezing: a thing held by one alone becomes shared -/
theorem Grow.freeze {p : Addr} {o : HO} (g : Grow m F H F1 H1) (hp : H p = none) (h1 : H1 p = some o) : Grow m F H (upd F1 p o) H1 where
  ff := fun a u h => by
    by_cases e : a = p
    · subst e
      cases q : F1 a with
      | none =>
        rw [g.ff a u h] at q
        cases q
      | some z =>
        have := g.fh a z q
        rw [h1] at this
        cases this
        rw [upd_same, ← q, g.ff a u h]
    · rw [upd_ne e]
      exact g.ff a u h
  fh := fun a u h => by
    by_cases e : a = p
    · subst e
      rw [upd_same] at h
      cases h
      exact h1
    · rw [upd_ne e] at h
      exact g.fh a u h
  nw := fun a h => by
    by_cases e : a = p
    · subst e
      exact .inr hp
    · rw [upd_ne e] at h
      exact g.nw a h
  hh := g.hh
theorem ex_freeze {p : Addr} {o : HO} (hf : F p = none) : Ex F (upd F p o) := Ex.new hf
theorem Ctr.freeze {p : Addr} {o : HO} (c : Ctr m F H k) (hm : m ≠ some p) : Ctr m (upd F p o) H k := fun a e => by
  have ne : a ≠ p := fun z => hm (z ▸ e)
  rw [upd_ne ne]
  exact c a e
end

/-! ### what stands in the slots -/
inductive Cell where
  | un
  | sh (d : Dt)
  | ow (ds : List Dt)
  | od (kvs : List (Dt × Dt))
  | os (ks : List Dt)
abbrev Ev := List Cell
def Cell.isOw : Cell → Bool
  | .ow _ => true
  | .od _ => true
  | .os _ => true
  | _ => false
/-- the object of a cell that is held by that slot alone -/
def OwRep (K : Fr) (m : Option Addr) (F : Hp) : Cell → HO → Prop
  | .ow ds, o => ∃ vs, o = .lst vs ∧ RpA K m F vs ds
  | .od kvs, o => ∃ ws, RpA K m F ws (kvs.map (·.2)) ∧ ((∃ ks : List Key, o = .dK (ks.zip ws) ∧ ks.length = ws.length ∧ kvs.map (·.1) = ks.map keyD) ∨ (∃ ks : List (List Key), o = .dT (ks.zip ws) ∧ ks.length = ws.length ∧ kvs.map (·.1) = ks.map fun l => PyData.tuple (l.map keyD)))
  | _, _ => False
theorem OwRep.mono {K : Fr} {m : Option Addr} {F F' : Hp} (e : Ex F F') {c : Cell} {o : HO} (h : OwRep K m F c o) : OwRep K m F' c o := by
  cases c with
  | ow ds =>
    obtain ⟨vs, e1, r⟩ := h
    exact ⟨vs, e1, r.mono e⟩
  | od kvs =>
    obtain ⟨ws, r, h⟩ := h
    exact ⟨ws, r.mono e, h⟩
  | _ => exact h

/-- slot i is held alone, its object at p -/
def Own (ρ : Ev) (σ : L2.St) (i : Nat) (p : Addr) : Prop := ∃ c, ρ[i]? = some c ∧ c.isOw = true ∧ σ[i]? = some (some (V.ref p))

structure Rl (K : Fr) (m : Option Addr) (F : Hp) (ρ : Ev) (k : Int) (σ : L2.St) (H : Hp) : Prop where
  sub : Ex F H
  ctr : Ctr m F H k
  len : ρ.length = σ.length
  sh : ∀ (i : Nat) (d : Dt), ρ[i]? = some (Cell.sh d) → ∃ v : V, σ[i]? = some (some v) ∧ Rp K m F v d
  ow : ∀ (i : Nat) (c : Cell), ρ[i]? = some c → c.isOw = true → ∃ (p : Addr) (o : HO), σ[i]? = some (some (V.ref p)) ∧ F p = none ∧ m ≠ some p ∧ H p = some o ∧ OwRep K m F c o
  sep : ∀ (i j : Nat) (p : Addr), Own ρ σ i p → Own ρ σ j p → i = j

theorem Rl.grow {K : Fr} {m : Option Addr} {F H F' H' : Hp} {ρ : Ev} {k k' : Int} {σ : L2.St} (R : Rl K m F ρ k σ H) (g : Grow m F H F' H') (c : Ctr m F' H' k') : Rl K m F' ρ k' σ H' where
  sub := g.fh
  ctr := c
  len := R.len
  sh := fun i d h => by
    obtain ⟨v, e, r⟩ := R.sh i d h
    exact ⟨v, e, r.mono g.ff⟩
  ow := fun i c h hc => by
    obtain ⟨p, o, e, f, n, h, r⟩ := R.ow i c h hc
    exact ⟨p, o, e, g.f_none f h, n, g.hh p o n h, r.mono g.ff⟩
  sep := R.sep

/-- an operand: shared data, or a list held alone that is only looked at -/
def Ro (K : Fr) (m : Option Addr) (F H : Hp) (v : V) (d : Dt) : Prop := Rp K m F v d ∨ ∃ p vs ds, v = .ref p ∧ m ≠ some p ∧ F p = none ∧ H p = some (.lst vs) ∧ RpA K m F vs ds ∧ d = .list ds
inductive RoA (K : Fr) (m : Option Addr) (F H : Hp) : List V → List Dt → Prop
  | nil : RoA K m F H [] []
  | cons {v : V} {vs : List V} {d : Dt} {ds : List Dt} : Ro K m F H v d → RoA K m F H vs ds → RoA K m F H (v :: vs) (d :: ds)
section
variable {K : Fr} {m : Option Addr} {F H F' H' : Hp} {k : Int}
theorem Ro.grow {v : V} {d : Dt} (r : Ro K m F H v d) (g : Grow m F H F' H') : Ro K m F' H' v d := by
  rcases r with r | ⟨p, vs, ds, e, n, f, h, r, ed⟩
  · exact .inl (r.mono g.ff)
  · exact .inr ⟨p, vs, ds, e, n, g.f_none f h, g.hh p _ n h, r.mono g.ff, ed⟩
theorem RoA.grow {vs : List V} {ds : List Dt} (r : RoA K m F H vs ds) (g : Grow m F H F' H') : RoA K m F' H' vs ds := by
  induction r with
  | nil => exact .nil
  | cons h _ ih => exact .cons (h.grow g) ih
/-- what an operand is in the whole heap -/
theorem Ro.whole {v : V} {d : Dt} (r : Ro K m F H v d) (e : Ex F H) : Rp K m H v d := by
  rcases r with r | ⟨p, vs, ds, e1, n, f, h, r, ed⟩
  · exact r.mono e
  · subst e1
    subst ed
    exact .lst (.inl (.inl h)) (r.mono e)
theorem RoA.whole {vs : List V} {ds : List Dt} (r : RoA K m F H vs ds) (e : Ex F H) : RpA K m H vs ds := by
  induction r with
  | nil => exact .nil
  | cons h _ ih => exact .cons (h.whole e) ih
theorem RpA.ops {vs : List V} {ds : List Dt} (r : RpA K m F vs ds) : RoA K m F H vs ds := by
  induction vs generalizing ds with
  | nil => cases r; exact .nil
  | cons v vs ih =>
    cases r with
    | cons h r => exact .cons (.inl h) (ih r)
theorem Ro.int {v : V} {i : Int} (r : Ro K m F H v (.int i)) : v = .int i := by
  rcases r with r | ⟨p, vs, ds, e, n, f, h, r, ed⟩
  · cases r; rfl
  · cases ed
theorem Ro.bl {v : V} {i : Bool} (r : Ro K m F H v (.bool i)) : v = .bl i := by
  rcases r with r | ⟨p, vs, ds, e, n, f, h, r, ed⟩
  · cases r; rfl
  · cases ed
theorem Ro.str {v : V} {i : Str} (r : Ro K m F H v (.str i)) : v = .str i := by
  rcases r with r | ⟨p, vs, ds, e, n, f, h, r, ed⟩
  · cases r; rfl
  · cases ed
theorem Ro.non {v : V} (r : Ro K m F H v .none) : v = .non := by
  rcases r with r | ⟨p, vs, ds, e, n, f, h, r, ed⟩
  · cases r; rfl
  · cases ed
/-- a list: its items are shared data -/
theorem Ro.lst {v : V} {ds : List Dt} (r : Ro K m F H v (.list ds)) (e : Ex F H) : ∃ a xs, v = .ref a ∧ SqL K H a xs ∧ RpA K m F xs ds := by
  rcases r with r | ⟨p, vs, ds', e1, n, f, h, r, ed⟩
  · cases r with
    | lst h r => exact ⟨_, _, rfl, ex_l e h, r⟩
  · cases ed
    exact ⟨p, vs, e1, .inl (.inl h), r⟩
theorem Ro.tup {v : V} {ds : List Dt} (r : Ro K m F H v (.tuple ds)) : ∃ a xs, v = .ref a ∧ SqT K F a xs ∧ RpA K m F xs ds := by
  rcases r with r | ⟨p, vs, ds', e1, n, f, h, r, ed⟩
  · cases r with
    | tup h r => exact ⟨_, _, rfl, h, r⟩
  · cases ed
theorem Ro.ctr {v : V} (r : Ro K m F H v ctrD) : ∃ a, v = .ref a ∧ m = some a := by
  rcases r with r | ⟨p, vs, ds', e1, n, f, h, r, ed⟩
  · generalize hd : ctrD = d at r
    cases r with
    | ctr h => exact ⟨_, rfl, h⟩
    | dK h r =>
      rename_i a kvs ds
      cases kvs with
      | nil => cases hd
      | cons p ps =>
        cases r with
        | cons h r =>
          unfold ctrD at hd
          simp only [List.map_cons, List.zip_cons_cons, PyData.dict.injEq, List.cons.injEq, Prod.mk.injEq] at hd
          obtain ⟨⟨z, _⟩, _⟩ := hd
          rcases p with ⟨k | k, w⟩ <;> cases z
    | dT h r =>
      rename_i a kvs ds
      cases kvs with
      | nil => cases hd
      | cons p ps =>
        cases r with
        | cons h r =>
          unfold ctrD at hd
          simp only [List.map_cons, List.zip_cons_cons, PyData.dict.injEq, List.cons.injEq, Prod.mk.injEq] at hd
          obtain ⟨⟨z, _⟩, _⟩ := hd
          cases z
    | _ => cases hd
  · cases ed
end

/-! ### readings by what is computed -/
abbrev E1 (α : Type) := Ev → Int → Option (α × Int)
abbrev DE := E1 Dt
abbrev DL := E1 (List Dt)
abbrev DT := E1 Bool
section
variable (K : Fr) (m : Option Addr)
/-- an expression whose value is shared data -/
def tE (f : DE) : TE := fun σ H Q => ∃ F ρ k d k', Rl K m F ρ k σ H ∧ f ρ k = some (d, k') ∧ ∀ v F' H', Grow m F H F' H' → Ctr m F' H' k' → Rp K m F' v d → Q v H'
/-- an operand -/
def tO (f : DE) : TE := fun σ H Q => ∃ F ρ k d k', Rl K m F ρ k σ H ∧ f ρ k = some (d, k') ∧ ∀ v F' H', Grow m F H F' H' → Ctr m F' H' k' → Ro K m F' H' v d → Q v H'
/-- a new list that nobody else holds -/
def tL (f : DL) : TE := fun σ H Q => ∃ F ρ k ds k', Rl K m F ρ k σ H ∧ f ρ k = some (ds, k') ∧ ∀ p vs F' H', Grow m F H F' H' → Ctr m F' H' k' → H p = none → F' p = none → H' p = some (.lst vs) → RpA K m F' vs ds → Q (.ref p) H'
def tT (f : DT) : TT := fun σ H Q => ∃ F ρ k b k', Rl K m F ρ k σ H ∧ f ρ k = some (b, k') ∧ ∀ F' H', Grow m F H F' H' → Ctr m F' H' k' → Q b H'
/-- arguments: shared data; operands -/
def tAr (f : DL) : TA := fun σ H Q => ∃ F ρ k ds k', Rl K m F ρ k σ H ∧ f ρ k = some (ds, k') ∧ ∀ vs F' H', Grow m F H F' H' → Ctr m F' H' k' → RpA K m F' vs ds → Q vs H'
def tAo (f : DL) : TA := fun σ H Q => ∃ F ρ k ds k', Rl K m F ρ k σ H ∧ f ρ k = some (ds, k') ∧ ∀ vs F' H', Grow m F H F' H' → Ctr m F' H' k' → RoA K m F' H' vs ds → Q vs H'
end

section
variable {X : Cx} {m : Option Addr}
theorem impPE {e : Expr} {t t' : TE} (h : PE X e t) (i : ∀ σ H Q, t' σ H Q → t σ H Q) : PE X e t' := ⟨fun pins s σ H Q I w => h.run pins s σ H Q I (i σ H Q w)⟩
theorem impPT {e : Expr} {t t' : TT} (h : PT X e t) (i : ∀ σ H Q, t' σ H Q → t σ H Q) : PT X e t' := ⟨fun pins s σ H Q I w => h.run pins s σ H Q I (i σ H Q w)⟩
theorem impPW {e : Expr} {t t' : TT} (h : PW X e t) (i : ∀ σ H Q, t' σ H Q → t σ H Q) : PW X e t' := ⟨fun wh pins s σ H Q I w => h.run wh pins s σ H Q I (i σ H Q w)⟩
theorem impPA {es : List Expr} {t t' : TA} (h : PA X es t) (i : ∀ σ H Q, t' σ H Q → t σ H Q) : PA X es t' := ⟨fun p pins s σ H Q I w => h.run p pins s σ H Q I (i σ H Q w)⟩
theorem impPS {st : Stmt} {t t' : TS} (h : PS X st t) (i : ∀ D σ H, t' D σ H → t D σ H) : PS X st t' := ⟨fun pins s σ H D I w => h.run pins s σ H D I (i D σ H w)⟩
theorem impPSs {st : List Stmt} {t t' : TS} (h : PSs X st t) (i : ∀ D σ H, t' D σ H → t D σ H) : PSs X st t' := ⟨fun pins s σ H D I w => h.run pins s σ H D I (i D σ H w)⟩

/-! the kinds, one from the other -/
theorem o_e {e : Expr} {f : DE} (h : PE X e (tE X.K m f)) : PE X e (tO X.K m f) := impPE h fun σ H Q ⟨F, ρ, k, d, k', R, hf, q⟩ =>
  ⟨F, ρ, k, d, k', R, hf, fun v F' H' g c r => q v F' H' g c (.inl r)⟩
@[simp] def lD (f : DL) : DE := fun ρ k => (f ρ k).map fun p => (.list p.1, p.2)
theorem o_l {e : Expr} {f : DL} (h : PE X e (tL X.K m f)) : PE X e (tO X.K m (lD f)) := impPE h fun σ H Q ⟨F, ρ, k, d, k', R, hf, q⟩ => by
  unfold lD at hf
  cases e : f ρ k with
  | none =>
    rw [e] at hf
    cases hf
  | some p =>
    obtain ⟨ds, k1⟩ := p
    rw [e] at hf
    cases hf
    exact ⟨F, ρ, k, ds, k1, R, e, fun p vs F' H' g c hp fp h1 r => q _ F' H' g c (.inr ⟨p, vs, ds, rfl, R.ctr.ne hp, fp, h1, r, rfl⟩)⟩
theorem e_l {e : Expr} {f : DL} (h : PE X e (tL X.K m f)) : PE X e (tE X.K m (lD f)) := impPE h fun σ H Q ⟨F, ρ, k, d, k', R, hf, q⟩ => by
  unfold lD at hf
  cases e : f ρ k with
  | none =>
    rw [e] at hf
    cases hf
  | some p =>
    obtain ⟨ds, k1⟩ := p
    rw [e] at hf
    cases hf
    exact ⟨F, ρ, k, ds, k1, R, e, fun p vs F' H' g c hp fp h1 r => q _ (upd F' p (.lst vs)) H' (g.freeze hp h1) (c.freeze (R.ctr.ne hp)) (.lst (.inl (.inl upd_same)) (r.mono (ex_freeze fp)))⟩
end
end Dn

set_option Elab.async false
set_option linter.all false
set_option maxRecDepth 100000
set_option maxHeartbeats 1000000
namespace Dn
open PySem PySem.Spec PyProof.Rows L2 Evl

/-! ### what a computation is made of -/
@[simp] def dC (d : Dt) : DE := fun _ k => some (d, k)
@[simp] def dVar (i : Nat) : DE := fun ρ k => match ρ[i]? with
  | some (.sh d) => some (d, k)
  | _ => none
@[simp] def dVarO (i : Nat) : DE := fun ρ k => match ρ[i]? with
  | some (.sh d) => some (d, k)
  | some (.ow ds) => some (.list ds, k)
  | _ => none
@[simp] def dU (g : Dt → Option Dt) (f : DE) : DE := fun ρ k => (f ρ k).bind fun p => (g p.1).bind fun d => some (d, p.2)
@[simp] def dB (g : Dt → Dt → Option Dt) (fa fb : DE) : DE := fun ρ k => (fa ρ k).bind fun p => (fb ρ p.2).bind fun q => (g p.1 q.1).bind fun d => some (d, q.2)
@[simp] def dBL (g : Dt → Dt → Option (List Dt)) (fa fb : DE) : DL := fun ρ k => (fa ρ k).bind fun p => (fb ρ p.2).bind fun q => (g p.1 q.1).bind fun d => some (d, q.2)
@[simp] def dN (g : List Dt → Option Dt) (f : DL) : DE := fun ρ k => (f ρ k).bind fun p => (g p.1).bind fun d => some (d, p.2)
@[simp] def dNL (g : List Dt → Option (List Dt)) (f : DL) : DL := fun ρ k => (f ρ k).bind fun p => (g p.1).bind fun d => some (d, p.2)
@[simp] def aNil : DL := fun _ k => some ([], k)
@[simp] def aCons (f : DE) (g : DL) : DL := fun ρ k => (f ρ k).bind fun p => (g ρ p.2).bind fun q => some (p.1 :: q.1, q.2)
@[simp] def asB : Dt → Option Bool
  | .bool b => some b
  | _ => none
@[simp] def tV (f : DE) : DT := fun ρ k => (f ρ k).bind fun p => (asB p.1).bind fun b => some (b, p.2)
@[simp] def tNotD (f : DT) : DT := fun ρ k => (f ρ k).bind fun p => some (!p.1, p.2)
@[simp] def tAndD (f g : DT) : DT := fun ρ k => (f ρ k).bind fun p => if p.1 = true then g ρ p.2 else some (false, p.2)
@[simp] def tOrD (f g : DT) : DT := fun ρ k => (f ρ k).bind fun p => if p.1 = true then some (true, p.2) else g ρ p.2
@[simp] def vAnd (f g : DE) : DE := fun ρ k => (f ρ k).bind fun p => (asB p.1).bind fun b => if b = true then g ρ p.2 else some (.bool false, p.2)
@[simp] def vOr (f g : DE) : DE := fun ρ k => (f ρ k).bind fun p => (asB p.1).bind fun b => if b = true then some (.bool true, p.2) else g ρ p.2
@[simp] def vNot (f : DE) : DE := fun ρ k => (f ρ k).bind fun p => (asB p.1).bind fun b => some (.bool (!b), p.2)
@[simp] def dIf (t : DT) (f g : DE) : DE := fun ρ k => (t ρ k).bind fun p => if p.1 = true then f ρ p.2 else g ρ p.2
/-- a < b < c: b once -/
@[simp] def dChain (g h : Dt → Dt → Option Dt) (fa fb fc : DE) : DE := fun ρ k => (fa ρ k).bind fun p => (fb ρ p.2).bind fun q => (g p.1 q.1).bind fun d => (asB d).bind fun b =>
  if b = true then (fc ρ q.2).bind fun r => (h q.1 r.1).bind fun e => some (e, r.2) else some (.bool false, q.2)

theorem asB_some {d : Dt} {b : Bool} (h : asB d = some b) : d = .bool b := by
  cases d <;> simp [asB] at h
  rw [h]

/-! ### operations on values, as data -/
def roD (K : Fr) (m : Option Addr) (g : Dt → Dt → Option Dt) : R2 := fun x y H Q => ∃ F k dx dy d, Ex F H ∧ Ctr m F H k ∧ Ro K m F H x dx ∧ Ro K m F H y dy ∧ g dx dy = some d ∧ ∀ v F' H', Grow m F H F' H' → Ctr m F' H' k → Rp K m F' v d → Q v H'
def rlD (K : Fr) (m : Option Addr) (g : Dt → Dt → Option (List Dt)) : R2 := fun x y H Q => ∃ F k dx dy ds, Ex F H ∧ Ctr m F H k ∧ Ro K m F H x dx ∧ Ro K m F H y dy ∧ g dx dy = some ds ∧ ∀ p vs H', H p = none → H' = upd H p (.lst vs) → RpA K m F vs ds → Q (.ref p) H'
def ruD (K : Fr) (m : Option Addr) (g : Dt → Option Dt) : V → Hp → VK → Prop := fun x H Q => ∃ F k dx d, Ex F H ∧ Ctr m F H k ∧ Ro K m F H x dx ∧ g dx = some d ∧ ∀ v F' H', Grow m F H F' H' → Ctr m F' H' k → Rp K m F' v d → Q v H'
def rcD (K : Fr) (m : Option Addr) (g : List Dt → Option Dt) : List V → Hp → VK → Prop := fun xs H Q => ∃ F k ds d, Ex F H ∧ Ctr m F H k ∧ RoA K m F H xs ds ∧ g ds = some d ∧ ∀ v F' H', Grow m F H F' H' → Ctr m F' H' k → Rp K m F' v d → Q v H'
def rclD (K : Fr) (m : Option Addr) (g : List Dt → Option (List Dt)) : List V → Hp → VK → Prop := fun xs H Q => ∃ F k ds es, Ex F H ∧ Ctr m F H k ∧ RoA K m F H xs ds ∧ g ds = some es ∧ ∀ p vs H', H p = none → H' = upd H p (.lst vs) → RpA K m F vs es → Q (.ref p) H'

section
variable {X : Cx} {m : Option Addr} {a b c e : Expr} {es : List Expr} {pos : Pos}
/-! names and constants -/
theorem e_var (i : Nat) {x : Str} {pos : Pos} (hN : X.N[i]? = some x := by rfl) (hv : Vis X.env.scope x := by first | exact Or.inl rfl | exact Or.inr (Or.inl rfl) | exact Or.inr (Or.inr rfl)) (hd : (x == ("__debug__" : Str)) = false := by decide)
    (hcd : (x == ("__classdict__" : Str)) = false := by decide) : PE X (.Name x pos) (tE X.K m (dVar i)) := impPE (pe_var (i := i) hN hv hd hcd) fun σ H Q ⟨F, ρ, k, d, k', R, hf, q⟩ => by
  unfold dVar at hf
  cases h : ρ[i]? with
  | none =>
    rw [h] at hf
    cases hf
  | some c =>
    rw [h] at hf
    cases c <;> cases hf
    obtain ⟨v, e, r⟩ := R.sh i _ h
    exact ⟨v, e, q v F H (.refl R.sub) R.ctr r⟩
theorem o_var (i : Nat) {x : Str} {pos : Pos} (hN : X.N[i]? = some x := by rfl) (hv : Vis X.env.scope x := by first | exact Or.inl rfl | exact Or.inr (Or.inl rfl) | exact Or.inr (Or.inr rfl)) (hd : (x == ("__debug__" : Str)) = false := by decide)
    (hcd : (x == ("__classdict__" : Str)) = false := by decide) : PE X (.Name x pos) (tO X.K m (dVarO i)) := impPE (pe_var (i := i) hN hv hd hcd) fun σ H Q ⟨F, ρ, k, d, k', R, hf, q⟩ => by
  unfold dVarO at hf
  cases h : ρ[i]? with
  | none =>
    rw [h] at hf
    cases hf
  | some c =>
    rw [h] at hf
    cases c <;> cases hf
    · obtain ⟨v, e, r⟩ := R.sh i _ h
      exact ⟨v, e, q v F H (.refl R.sub) R.ctr (.inl r)⟩
    · rename_i ds
      obtain ⟨p, o, e, f, n, ho, r⟩ := R.ow i _ h rfl
      obtain ⟨vs, rfl, r⟩ := r
      exact ⟨_, e, q _ F H (.refl R.sub) R.ctr (.inr ⟨p, vs, ds, rfl, n, f, ho, r, rfl⟩)⟩
theorem e_of {e : Expr} {v : V} {d : Dt} (h : PE X e (tC v)) (r : ∀ F, Rp X.K m F v d) : PE X e (tE X.K m (dC d)) := impPE h fun σ H Q ⟨F, ρ, k, d', k', R, hf, q⟩ => by
  cases hf
  exact q v F H (.refl R.sub) R.ctr (r F)
theorem e_int {i : Int} {j pos} : PE X (.Constant (.int i) j pos) (tE X.K m (dC (.int i))) := e_of pe_int fun _ => .int i
theorem e_bl {i : Bool} {j pos} : PE X (.Constant (.bool i) j pos) (tE X.K m (dC (.bool i))) := e_of pe_bl fun _ => .bl i
theorem e_str {i : Str} {j pos} : PE X (.Constant (.str i) j pos) (tE X.K m (dC (.str i))) := e_of pe_str fun _ => .str i
theorem e_non {j pos} : PE X (.Constant .none j pos) (tE X.K m (dC .none)) := e_of pe_non fun _ => .non
theorem e_globI {x : Str} {i : Int} {t : Tok} {pos : Pos} (hm : X.mg x = some (.int i t)) (hg : Gl X x := by rfl) (hd : (x == ("__debug__" : Str)) = false := by decide) : PE X (.Name x pos) (tE X.K m (dC (.int i))) :=
  e_of (pe_glob hg hm (v := .int i) ⟨t, rfl⟩ hd) fun _ => .int i

/-! operators -/
theorem e_op {op : Operator} {g : Dt → Dt → Option Dt} {fa fb : DE} (ha : PE X a (tO X.K m fa)) (hb : PE X b (tO X.K m fb)) (ho : OpR X (binaryOp op) (roD X.K m g)) : PE X (.BinOp a op b pos) (tE X.K m (dB g fa fb)) :=
  impPE (pe_op ho ha hb) fun σ H Q ⟨F, ρ, k, d, k', R, hf, q⟩ => by
    unfold dB at hf
    obtain ⟨⟨x, k1⟩, h1, hf⟩ := Option.bind_eq_some_iff.mp hf
    obtain ⟨⟨y, k2⟩, h2, hf⟩ := Option.bind_eq_some_iff.mp hf
    obtain ⟨z, h3, hf⟩ := Option.bind_eq_some_iff.mp hf
    cases hf
    exact ⟨F, ρ, k, x, k1, R, h1, fun v1 F1 H1 g1 c1 r1 => ⟨F1, ρ, k1, y, k2, R.grow g1 c1, h2, fun v2 F2 H2 g2 c2 r2 =>
      ⟨F2, k2, x, y, d, g2.fh, c2, r1.grow g2, r2, h3, fun v F' H' g' c' r => q v F' H' ((g1.trans c1 g2).trans c2 g') c' r⟩⟩⟩
theorem l_op {op : Operator} {g : Dt → Dt → Option (List Dt)} {fa fb : DE} (ha : PE X a (tO X.K m fa)) (hb : PE X b (tO X.K m fb)) (ho : OpR X (binaryOp op) (rlD X.K m g)) : PE X (.BinOp a op b pos) (tL X.K m (dBL g fa fb)) :=
  impPE (pe_op ho ha hb) fun σ H Q ⟨F, ρ, k, d, k', R, hf, q⟩ => by
    unfold dBL at hf
    obtain ⟨⟨x, k1⟩, h1, hf⟩ := Option.bind_eq_some_iff.mp hf
    obtain ⟨⟨y, k2⟩, h2, hf⟩ := Option.bind_eq_some_iff.mp hf
    obtain ⟨z, h3, hf⟩ := Option.bind_eq_some_iff.mp hf
    cases hf
    exact ⟨F, ρ, k, x, k1, R, h1, fun v1 F1 H1 g1 c1 r1 => ⟨F1, ρ, k1, y, k2, R.grow g1 c1, h2, fun v2 F2 H2 g2 c2 r2 =>
      ⟨F2, k2, x, y, d, g2.fh, c2, r1.grow g2, r2, h3, fun p vs H' hp eh r => by
        subst eh
        have g3 := g1.trans c1 g2
        exact q p vs F2 _ (g3.trans c2 (Grow.laid g2.fh hp)) (c2.laid hp) (g3.back c2 hp) (ex_none g2.fh hp) upd_same r⟩⟩⟩
theorem e_un {op : UnaryOp} {g : Dt → Option Dt} {fa : DE} (ha : PE X a (tO X.K m fa)) (ho : UnR X (unaryOp op) (ruD X.K m g)) : PE X (.UnaryOp op a pos) (tE X.K m (dU g fa)) :=
  impPE (pe_un ho ha) fun σ H Q ⟨F, ρ, k, d, k', R, hf, q⟩ => by
    unfold dU at hf
    obtain ⟨⟨x, k1⟩, h1, hf⟩ := Option.bind_eq_some_iff.mp hf
    obtain ⟨z, h3, hf⟩ := Option.bind_eq_some_iff.mp hf
    cases hf
    exact ⟨F, ρ, k, x, k1, R, h1, fun v1 F1 H1 g1 c1 r1 => ⟨F1, k1, x, d, g1.fh, c1, r1, h3, fun v F' H' g' c' r => q v F' H' (g1.trans c1 g') c' r⟩⟩
theorem e_cmp {op : CmpOp} {g : Dt → Dt → Option Dt} {fa fb : DE} (ha : PE X a (tO X.K m fa)) (hb : PE X b (tO X.K m fb)) (ho : OpR X (compareOp op) (roD X.K m g)) (hm : behindInMarks op b = false) : PE X (.Compare a [op] [b] pos) (tE X.K m (dB g fa fb)) :=
  impPE (pe_cmpR ho ha hb hm) fun σ H Q ⟨F, ρ, k, d, k', R, hf, q⟩ => by
    unfold dB at hf
    obtain ⟨⟨x, k1⟩, h1, hf⟩ := Option.bind_eq_some_iff.mp hf
    obtain ⟨⟨y, k2⟩, h2, hf⟩ := Option.bind_eq_some_iff.mp hf
    obtain ⟨z, h3, hf⟩ := Option.bind_eq_some_iff.mp hf
    cases hf
    exact ⟨F, ρ, k, x, k1, R, h1, fun v1 F1 H1 g1 c1 r1 => ⟨F1, ρ, k1, y, k2, R.grow g1 c1, h2, fun v2 F2 H2 g2 c2 r2 =>
      ⟨F2, k2, x, y, d, g2.fh, c2, r1.grow g2, r2, h3, fun v F' H' g' c' r => q v F' H' ((g1.trans c1 g2).trans c2 g') c' r⟩⟩⟩
theorem t_cmp {op : CmpOp} {g : Dt → Dt → Option Dt} {fa fb : DE} (ha : PE X a (tO X.K m fa)) (hb : PE X b (tO X.K m fb)) (ho : OpR X (compareOp op) (roD X.K m g)) (hm : behindInMarks op b = false) : PT X (.Compare a [op] [b] pos) (tT X.K m (tV (dB g fa fb))) :=
  impPT (pt_cmpR ho ha hb hm) fun σ H Q ⟨F, ρ, k, d, k', R, hf, q⟩ => by
    unfold tV dB at hf
    obtain ⟨⟨w, k0⟩, h0, hf⟩ := Option.bind_eq_some_iff.mp hf
    obtain ⟨b, hb, hf⟩ := Option.bind_eq_some_iff.mp hf
    cases hf
    cases asB_some hb
    obtain ⟨⟨x, k1⟩, h1, hf⟩ := Option.bind_eq_some_iff.mp h0
    obtain ⟨⟨y, k2⟩, h2, hf⟩ := Option.bind_eq_some_iff.mp hf
    obtain ⟨z, h3, hf⟩ := Option.bind_eq_some_iff.mp hf
    cases hf
    exact ⟨F, ρ, k, x, k1, R, h1, fun v1 F1 H1 g1 c1 r1 => ⟨F1, ρ, k1, y, k2, R.grow g1 c1, h2, fun v2 F2 H2 g2 c2 r2 =>
      ⟨F2, k2, x, y, _, g2.fh, c2, r1.grow g2, r2, h3, fun v F' H' g' c' r => by
        cases r
        exact ⟨_, rfl, q F' H' ((g1.trans c1 g2).trans c2 g') c'⟩⟩⟩⟩
theorem chain_in {g h : Dt → Dt → Option Dt} {fa fb fc : DE} {K : Fr} {σ : L2.St} {H : Hp} {Q : VK} (w : tE K m (dChain g h fa fb fc) σ H Q) : tChain (roD K m g) (roD K m h) (tO K m fa) (tO K m fb) (tO K m fc) σ H Q := by
  obtain ⟨F, ρ, k, d, k', R, hf, q⟩ := w
  unfold dChain at hf
  obtain ⟨⟨x, k1⟩, h1, hf⟩ := Option.bind_eq_some_iff.mp hf
  obtain ⟨⟨y, k2⟩, h2, hf⟩ := Option.bind_eq_some_iff.mp hf
  obtain ⟨z, h3, hf⟩ := Option.bind_eq_some_iff.mp hf
  obtain ⟨b, hb, hf⟩ := Option.bind_eq_some_iff.mp hf
  cases asB_some hb
  refine ⟨F, ρ, k, x, k1, R, h1, fun v1 F1 H1 g1 c1 r1 => ⟨F1, ρ, k1, y, k2, R.grow g1 c1, h2, fun v2 F2 H2 g2 c2 r2 =>
      ⟨F2, k2, x, y, _, g2.fh, c2, r1.grow g2, r2, h3, fun v F3 H3 g3 c3 r => ?_⟩⟩⟩
  cases r
  refine ⟨b, rfl, ?_⟩
  have g12 := g1.trans c1 g2
  have g13 := g12.trans c2 g3
  cases b with
  | false =>
    cases hf
    exact q _ F3 H3 g13 c3 (.bl false)
  | true =>
    replace hf : ((fc ρ k2).bind fun r => (h y r.1).bind fun e => some (e, r.2)) = some (d, k') := hf
    show tO K m fc σ H3 fun w' H4 => roD K m h v2 w' H4 Q
    obtain ⟨⟨u, k4⟩, h4, hf⟩ := Option.bind_eq_some_iff.mp hf
    obtain ⟨e, h5, hf⟩ := Option.bind_eq_some_iff.mp hf
    cases hf
    exact ⟨F3, ρ, k2, u, k4, R.grow g13 c3, h4, fun v4 F4 H4 g4 c4 r4 => ⟨F4, k4, y, u, d, g4.fh, c4, (r2.grow g3).grow g4, r4, h5, fun v F' H' g' c' r => q v F' H' ((g13.trans c3 g4).trans c4 g') c' r⟩⟩
theorem e_chain {op op' : CmpOp} {g h : Dt → Dt → Option Dt} {fa fb fc : DE} (ha : PE X a (tO X.K m fa)) (hb : PE X b (tO X.K m fb)) (hc : PE X c (tO X.K m fc)) (ho : OpR X (compareOp op) (roD X.K m g)) (ho' : OpR X (compareOp op') (roD X.K m h))
    (hm : lastMarks [op, op'] [b, c] = false := by with_unfolding_all rfl) : PE X (.Compare a [op, op'] [b, c] pos) (tE X.K m (dChain g h fa fb fc)) := impPE (pe_chain ho ho' ha hb hc hm) fun _ _ _ w => chain_in w
theorem t_chain {op op' : CmpOp} {g h : Dt → Dt → Option Dt} {fa fb fc : DE} (ha : PE X a (tO X.K m fa)) (hb : PE X b (tO X.K m fb)) (hc : PE X c (tO X.K m fc)) (ho : OpR X (compareOp op) (roD X.K m g)) (ho' : OpR X (compareOp op') (roD X.K m h))
    (hm : lastMarks [op, op'] [b, c] = false := by with_unfolding_all rfl) : PT X (.Compare a [op, op'] [b, c] pos) (tT X.K m (tV (dChain g h fa fb fc))) := impPT (pt_chain ho ho' ha hb hc hm) fun σ H Q ⟨F, ρ, k, d, k', R, hf, q⟩ => by
  unfold tV at hf
  obtain ⟨⟨w, k0⟩, h0, hf⟩ := Option.bind_eq_some_iff.mp hf
  obtain ⟨b, hb, hf⟩ := Option.bind_eq_some_iff.mp hf
  cases hf
  cases asB_some hb
  have z := chain_in (K := X.K) (m := m) (σ := σ) (H := H) (Q := fun x H' => ∃ k, x = .bl k ∧ Q k H') ⟨F, ρ, k, _, k0, R, h0, fun v F' H' g' c' r => by
    cases r
    exact ⟨_, rfl, q F' H' g' c'⟩⟩
  exact z
end
end Dn

set_option Elab.async false
set_option linter.all false
set_option maxRecDepth 100000
set_option maxHeartbeats 1000000
namespace Dn
open PySem PySem.Spec PyProof.Rows L2 Evl

section
variable {X : Cx} {m : Option Addr} {a b c e : Expr} {es : List Expr} {pos : Pos}
/-! tests, and/or/not -/
theorem t_val {e : Expr} {f : DE} (h : PE X e (tE X.K m f)) (he : ∀ whole, isTrue e X.env whole = (do let v ← whole; standAt e.pos; holding [v] (truthy v)) := by intro _; rfl) : PT X e (tT X.K m (tV f)) :=
  impPT (pt_val h he) fun σ H Q ⟨F, ρ, k, b, k', R, hf, q⟩ => by
    unfold tV at hf
    obtain ⟨⟨w, k0⟩, h0, hf⟩ := Option.bind_eq_some_iff.mp hf
    obtain ⟨b, hb, hf⟩ := Option.bind_eq_some_iff.mp hf
    cases hf
    cases asB_some hb
    exact ⟨F, ρ, k, _, k0, R, h0, fun v F' H' g' c' r => by
      cases r
      exact ⟨_, rfl, q F' H' g' c'⟩⟩
theorem t_not {f : DT} (h : PT X a (tT X.K m f)) : PT X (.UnaryOp .Not a pos) (tT X.K m (tNotD f)) :=
  impPT (pt_not h) fun σ H Q ⟨F, ρ, k, b, k', R, hf, q⟩ => by
    unfold tNotD at hf
    obtain ⟨⟨w, k0⟩, h0, hf⟩ := Option.bind_eq_some_iff.mp hf
    cases hf
    exact ⟨F, ρ, k, w, k0, R, h0, fun F' H' g' c' => q F' H' g' c'⟩
theorem w_and1 {f : DT} (h : PT X a (tT X.K m f)) : PW X (.BoolOp .And [a] pos) (tT X.K m f) := pw_and1 h
theorem w_or1 {f : DT} (h : PT X a (tT X.K m f)) : PW X (.BoolOp .Or [a] pos) (tT X.K m f) := pw_or1 h
theorem w_and {rest : List Expr} {f g : DT} (h : PT X a (tT X.K m f)) (h2 : PW X (.BoolOp .And (b :: rest) pos) (tT X.K m g)) : PW X (.BoolOp .And (a :: b :: rest) pos) (tT X.K m (tAndD f g)) :=
  impPW (pw_and h h2) fun σ H Q ⟨F, ρ, k, b, k', R, hf, q⟩ => by
    unfold tAndD at hf
    obtain ⟨⟨w, k0⟩, h0, hf⟩ := Option.bind_eq_some_iff.mp hf
    refine ⟨F, ρ, k, w, k0, R, h0, fun F' H' g' c' => ?_⟩
    cases w with
    | true => exact ⟨F', ρ, k0, b, k', R.grow g' c', hf, fun F2 H2 g2 c2 => q F2 H2 (g'.trans c' g2) c2⟩
    | false =>
      cases hf
      exact q F' H' g' c'
theorem w_or {rest : List Expr} {f g : DT} (h : PT X a (tT X.K m f)) (h2 : PW X (.BoolOp .Or (b :: rest) pos) (tT X.K m g)) : PW X (.BoolOp .Or (a :: b :: rest) pos) (tT X.K m (tOrD f g)) :=
  impPW (pw_or h h2) fun σ H Q ⟨F, ρ, k, b, k', R, hf, q⟩ => by
    unfold tOrD at hf
    obtain ⟨⟨w, k0⟩, h0, hf⟩ := Option.bind_eq_some_iff.mp hf
    refine ⟨F, ρ, k, w, k0, R, h0, fun F' H' g' c' => ?_⟩
    cases w with
    | false => exact ⟨F', ρ, k0, b, k', R.grow g' c', hf, fun F2 H2 g2 c2 => q F2 H2 (g'.trans c' g2) c2⟩
    | true =>
      cases hf
      exact q F' H' g' c'
theorem t_w {f : DT} (h : PW X e (tT X.K m f)) : PT X e (tT X.K m f) := h.pt
theorem v_one {op} {f : DE} (h : PE X a (tE X.K m f)) : PE X (.BoolOp op [a] pos) (tE X.K m f) := pe_one h
theorem v_and {rest : List Expr} {f g : DE} (h : PE X a (tE X.K m f)) (h2 : PE X (.BoolOp .And (b :: rest) pos) (tE X.K m g)) : PE X (.BoolOp .And (a :: b :: rest) pos) (tE X.K m (vAnd f g)) :=
  impPE (pe_and h h2) fun σ H Q ⟨F, ρ, k, d, k', R, hf, q⟩ => by
    unfold vAnd at hf
    obtain ⟨⟨w, k0⟩, h0, hf⟩ := Option.bind_eq_some_iff.mp hf
    obtain ⟨b, hb, hf⟩ := Option.bind_eq_some_iff.mp hf
    cases asB_some hb
    refine ⟨F, ρ, k, _, k0, R, h0, fun v F' H' g' c' r => ?_⟩
    cases r
    refine ⟨b, rfl, ?_⟩
    cases b with
    | true => exact ⟨F', ρ, k0, d, k', R.grow g' c', hf, fun v2 F2 H2 g2 c2 r2 => q v2 F2 H2 (g'.trans c' g2) c2 r2⟩
    | false =>
      cases hf
      exact q _ F' H' g' c' (.bl false)
theorem v_or {rest : List Expr} {f g : DE} (h : PE X a (tE X.K m f)) (h2 : PE X (.BoolOp .Or (b :: rest) pos) (tE X.K m g)) : PE X (.BoolOp .Or (a :: b :: rest) pos) (tE X.K m (vOr f g)) :=
  impPE (pe_or h h2) fun σ H Q ⟨F, ρ, k, d, k', R, hf, q⟩ => by
    unfold vOr at hf
    obtain ⟨⟨w, k0⟩, h0, hf⟩ := Option.bind_eq_some_iff.mp hf
    obtain ⟨b, hb, hf⟩ := Option.bind_eq_some_iff.mp hf
    cases asB_some hb
    refine ⟨F, ρ, k, _, k0, R, h0, fun v F' H' g' c' r => ?_⟩
    cases r
    refine ⟨b, rfl, ?_⟩
    cases b with
    | false => exact ⟨F', ρ, k0, d, k', R.grow g' c', hf, fun v2 F2 H2 g2 c2 r2 => q v2 F2 H2 (g'.trans c' g2) c2 r2⟩
    | true =>
      cases hf
      exact q _ F' H' g' c' (.bl true)
theorem v_not {f : DE} (h : PE X a (tE X.K m f)) : PE X (.UnaryOp .Not a pos) (tE X.K m (vNot f)) :=
  impPE (pe_not h) fun σ H Q ⟨F, ρ, k, d, k', R, hf, q⟩ => by
    unfold vNot at hf
    obtain ⟨⟨w, k0⟩, h0, hf⟩ := Option.bind_eq_some_iff.mp hf
    obtain ⟨b, hb, hf⟩ := Option.bind_eq_some_iff.mp hf
    cases asB_some hb
    cases hf
    refine ⟨F, ρ, k, _, k0, R, h0, fun v F' H' g' c' r => ?_⟩
    cases r
    exact ⟨b, rfl, q _ F' H' g' c' (.bl _)⟩
theorem e_if {f : DT} {g h : DE} (hc : PT X c (tT X.K m f)) (ha : PE X a (tE X.K m g)) (hb : PE X b (tE X.K m h)) : PE X (.IfExp c a b pos) (tE X.K m (dIf f g h)) :=
  impPE (pe_ifExp hc ha hb) fun σ H Q ⟨F, ρ, k, d, k', R, hf, q⟩ => by
    unfold dIf at hf
    obtain ⟨⟨w, k0⟩, h0, hf⟩ := Option.bind_eq_some_iff.mp hf
    refine ⟨F, ρ, k, w, k0, R, h0, fun F' H' g' c' => ?_⟩
    cases w with
    | true => exact ⟨F', ρ, k0, d, k', R.grow g' c', hf, fun v2 F2 H2 g2 c2 r2 => q v2 F2 H2 (g'.trans c' g2) c2 r2⟩
    | false => exact ⟨F', ρ, k0, d, k', R.grow g' c', hf, fun v2 F2 H2 g2 c2 r2 => q v2 F2 H2 (g'.trans c' g2) c2 r2⟩

/-! arguments -/
theorem p_nilO : PA X [] (tAo X.K m aNil) := impPA pa_nil fun σ H Q ⟨F, ρ, k, ds, k', R, hf, q⟩ => by
  cases hf
  exact q [] F H (.refl R.sub) R.ctr .nil
theorem p_nil : PA X [] (tAr X.K m aNil) := impPA pa_nil fun σ H Q ⟨F, ρ, k, ds, k', R, hf, q⟩ => by
  cases hf
  exact q [] F H (.refl R.sub) R.ctr .nil
theorem p_consO {f : DE} {g : DL} (h : PE X e (tO X.K m f)) (h2 : PA X es (tAo X.K m g)) (hs : starEach (e :: es) X.env = (false, eval e X.env) :: starEach es X.env := by rfl) : PA X (e :: es) (tAo X.K m (aCons f g)) :=
  impPA (pa_cons h h2 hs) fun σ H Q ⟨F, ρ, k, ds, k', R, hf, q⟩ => by
    unfold aCons at hf
    obtain ⟨⟨x, k1⟩, h1, hf⟩ := Option.bind_eq_some_iff.mp hf
    obtain ⟨⟨y, k2⟩, h2, hf⟩ := Option.bind_eq_some_iff.mp hf
    cases hf
    exact ⟨F, ρ, k, x, k1, R, h1, fun v1 F1 H1 g1 c1 r1 => ⟨F1, ρ, k1, y, k2, R.grow g1 c1, h2, fun v2 F2 H2 g2 c2 r2 => q _ F2 H2 (g1.trans c1 g2) c2 (.cons (r1.grow g2) r2)⟩⟩
theorem p_cons {f : DE} {g : DL} (h : PE X e (tE X.K m f)) (h2 : PA X es (tAr X.K m g)) (hs : starEach (e :: es) X.env = (false, eval e X.env) :: starEach es X.env := by rfl) : PA X (e :: es) (tAr X.K m (aCons f g)) :=
  impPA (pa_cons h h2 hs) fun σ H Q ⟨F, ρ, k, ds, k', R, hf, q⟩ => by
    unfold aCons at hf
    obtain ⟨⟨x, k1⟩, h1, hf⟩ := Option.bind_eq_some_iff.mp hf
    obtain ⟨⟨y, k2⟩, h2, hf⟩ := Option.bind_eq_some_iff.mp hf
    cases hf
    exact ⟨F, ρ, k, x, k1, R, h1, fun v1 F1 H1 g1 c1 r1 => ⟨F1, ρ, k1, y, k2, R.grow g1 c1, h2, fun v2 F2 H2 g2 c2 r2 => q _ F2 H2 (g1.trans c1 g2) c2 (.cons (r1.mono g2.ff) r2)⟩⟩
theorem p_o {es : List Expr} {f : DL} (h : PA X es (tAr X.K m f)) : PA X es (tAo X.K m f) := impPA h fun σ H Q ⟨F, ρ, k, ds, k', R, hf, q⟩ =>
  ⟨F, ρ, k, ds, k', R, hf, fun vs F' H' g c r => q vs F' H' g c r.ops⟩

/-! displays -/
theorem small_line {n : Nat} (h : n ≤ 1000000) : n ≤ sizeLine := Nat.le_trans h (by decide)
@[simp] def gTupD (ds : List Dt) : Option Dt := if ds.length ≤ 1000 then some (.tuple ds) else none
@[simp] def gLstD (ds : List Dt) : Option (List Dt) := if ds.length ≤ 1000 then some ds else none
theorem new_tup {K : Fr} {F H : Hp} {k : Int} {vs : List V} {ds : List Dt} (e : Ex F H) (c : Ctr m F H k) (r : RpA K m F vs ds) {p : Addr} (hp : H p = none) :
    Grow m F H (upd F p (.tup vs)) (upd H p (.tup vs)) ∧ Ctr m (upd F p (.tup vs)) (upd H p (.tup vs)) k ∧ Rp K m (upd F p (.tup vs)) (.ref p) (.tuple ds) :=
  ⟨(Grow.laid e hp).freeze hp upd_same, (c.laid hp).freeze (c.ne hp), .tup (.inl (.inl upd_same)) (r.mono (ex_freeze (ex_none e hp)))⟩
theorem e_tup {f : DL} {x1} (h : PA X es (tAr X.K m f)) : PE X (.Tuple es x1 pos) (tE X.K m (dN gTupD f)) := impPE (pe_tup h) fun σ H Q ⟨F, ρ, k, d, k', R, hf, q⟩ => by
  unfold dN at hf
  obtain ⟨⟨ds, k1⟩, h1, hf⟩ := Option.bind_eq_some_iff.mp hf
  obtain ⟨z, h3, hf⟩ := Option.bind_eq_some_iff.mp hf
  cases hf
  unfold gTupD at h3
  split at h3
  · cases h3
    exact ⟨F, ρ, k, ds, k1, R, h1, fun vs F' H' g c r => ⟨by
      rw [r.length]
      exact small_line (by simp only at *; omega), fun p hp => by
      obtain ⟨z1, z2, z3⟩ := new_tup g.fh c r hp
      exact q _ _ _ (g.trans c z1) z2 z3⟩⟩
  · cases h3
theorem l_lst {f : DL} (h : PA X es (tAr X.K m f)) : PE X (.List es pos) (tL X.K m (dNL gLstD f)) := impPE (pe_lst h) fun σ H Q ⟨F, ρ, k, d, k', R, hf, q⟩ => by
  unfold dNL at hf
  obtain ⟨⟨ds, k1⟩, h1, hf⟩ := Option.bind_eq_some_iff.mp hf
  obtain ⟨z, h3, hf⟩ := Option.bind_eq_some_iff.mp hf
  cases hf
  unfold gLstD at h3
  split at h3
  · cases h3
    exact ⟨F, ρ, k, ds, k1, R, h1, fun vs F' H' g c r => ⟨by
      rw [r.length]
      exact small_line (by simp only at *; omega), fun p hp => q p vs F' _ (g.trans c (Grow.laid g.fh hp)) (c.laid hp) (g.back c hp) (ex_none g.fh hp) upd_same r⟩⟩
  · cases h3

/-! calls of what is built in -/
theorem e_callB {id : String} {x : Str} {p : Pos} {g : List Dt → Option Dt} {f : DL} (hc : CallR X (.builtin id) (rcD X.K m g)) (hm : X.mg x = none) (hv : bootBuiltins x = some (.builtin id)) (ha : PA X (e :: es) (tAo X.K m f)) (hg : Gl X x := by rfl) (hn : x ≠ "__name__" := by decide) (hdb : (x == ("__debug__" : Str)) = false := by decide)
    (hs : starEach (e :: es) X.env = (false, eval e X.env) :: starEach es X.env := by rfl) (hpl : (backTo pos (starEach es X.env)).any (·.1) = false := by rfl) : PE X (.Call (.Name x p) (e :: es) [] pos) (tE X.K m (dN g f)) :=
  impPE (pe_callB hc hg hm hv ha hn hdb hs hpl) fun σ H Q ⟨F, ρ, k, d, k', R, hf, q⟩ => by
    unfold dN at hf
    obtain ⟨⟨ds, k1⟩, h1, hf⟩ := Option.bind_eq_some_iff.mp hf
    obtain ⟨z, h3, hf⟩ := Option.bind_eq_some_iff.mp hf
    cases hf
    exact ⟨F, ρ, k, ds, k1, R, h1, fun vs F1 H1 g1 c1 r => ⟨F1, k1, ds, d, g1.fh, c1, r, h3, fun v F' H' g' c' r' => q v F' H' (g1.trans c1 g') c' r'⟩⟩
theorem e_callTy {T : String} {x : Str} {p : Pos} {g : List Dt → Option Dt} {f : DL} (hc : CallR X (.type T) (rcD X.K m g)) (hm : X.mg x = none) (hv : bootBuiltins x = some (.type T)) (ha : PA X (e :: es) (tAo X.K m f)) (hg : Gl X x := by rfl) (hn : x ≠ "__name__" := by decide) (hdb : (x == ("__debug__" : Str)) = false := by decide)
    (hs : starEach (e :: es) X.env = (false, eval e X.env) :: starEach es X.env := by rfl) (hpl : (backTo pos (starEach es X.env)).any (·.1) = false := by rfl) : PE X (.Call (.Name x p) (e :: es) [] pos) (tE X.K m (dN g f)) :=
  impPE (pe_callTy hc hg hm hv ha hn hdb hs hpl) fun σ H Q ⟨F, ρ, k, d, k', R, hf, q⟩ => by
    unfold dN at hf
    obtain ⟨⟨ds, k1⟩, h1, hf⟩ := Option.bind_eq_some_iff.mp hf
    obtain ⟨z, h3, hf⟩ := Option.bind_eq_some_iff.mp hf
    cases hf
    exact ⟨F, ρ, k, ds, k1, R, h1, fun vs F1 H1 g1 c1 r => ⟨F1, k1, ds, d, g1.fh, c1, r, h3, fun v F' H' g' c' r' => q v F' H' (g1.trans c1 g') c' r'⟩⟩
theorem l_callB {id : String} {x : Str} {p : Pos} {g : List Dt → Option (List Dt)} {f : DL} (hc : CallR X (.builtin id) (rclD X.K m g)) (hm : X.mg x = none) (hv : bootBuiltins x = some (.builtin id)) (ha : PA X (e :: es) (tAo X.K m f)) (hg : Gl X x := by rfl) (hn : x ≠ "__name__" := by decide) (hdb : (x == ("__debug__" : Str)) = false := by decide)
    (hs : starEach (e :: es) X.env = (false, eval e X.env) :: starEach es X.env := by rfl) (hpl : (backTo pos (starEach es X.env)).any (·.1) = false := by rfl) : PE X (.Call (.Name x p) (e :: es) [] pos) (tL X.K m (dNL g f)) :=
  impPE (pe_callB hc hg hm hv ha hn hdb hs hpl) fun σ H Q ⟨F, ρ, k, d, k', R, hf, q⟩ => by
    unfold dNL at hf
    obtain ⟨⟨ds, k1⟩, h1, hf⟩ := Option.bind_eq_some_iff.mp hf
    obtain ⟨z, h3, hf⟩ := Option.bind_eq_some_iff.mp hf
    cases hf
    exact ⟨F, ρ, k, ds, k1, R, h1, fun vs F1 H1 g1 c1 r => ⟨F1, k1, ds, d, g1.fh, c1, r, h3, fun p vs H' hp eh r' => by
      subst eh
      exact q p vs F1 _ (g1.trans c1 (Grow.laid g1.fh hp)) (c1.laid hp) (g1.back c1 hp) (ex_none g1.fh hp) upd_same r'⟩⟩
theorem l_callTy {T : String} {x : Str} {p : Pos} {g : List Dt → Option (List Dt)} {f : DL} (hc : CallR X (.type T) (rclD X.K m g)) (hm : X.mg x = none) (hv : bootBuiltins x = some (.type T)) (ha : PA X (e :: es) (tAo X.K m f)) (hg : Gl X x := by rfl) (hn : x ≠ "__name__" := by decide) (hdb : (x == ("__debug__" : Str)) = false := by decide)
    (hs : starEach (e :: es) X.env = (false, eval e X.env) :: starEach es X.env := by rfl) (hpl : (backTo pos (starEach es X.env)).any (·.1) = false := by rfl) : PE X (.Call (.Name x p) (e :: es) [] pos) (tL X.K m (dNL g f)) :=
  impPE (pe_callTy hc hg hm hv ha hn hdb hs hpl) fun σ H Q ⟨F, ρ, k, d, k', R, hf, q⟩ => by
    unfold dNL at hf
    obtain ⟨⟨ds, k1⟩, h1, hf⟩ := Option.bind_eq_some_iff.mp hf
    obtain ⟨z, h3, hf⟩ := Option.bind_eq_some_iff.mp hf
    cases hf
    exact ⟨F, ρ, k, ds, k1, R, h1, fun vs F1 H1 g1 c1 r => ⟨F1, k1, ds, d, g1.fh, c1, r, h3, fun p vs H' hp eh r' => by
      subst eh
      exact q p vs F1 _ (g1.trans c1 (Grow.laid g1.fh hp)) (c1.laid hp) (g1.back c1 hp) (ex_none g1.fh hp) upd_same r'⟩⟩

/-! the program's own defs -/
abbrev Fn := List Dt → Int → Option (Dt × Int)
abbrev FnL := List Dt → Int → Option (List Dt × Int)
def spD (K : Fr) (f : Fn) : Sp := fun vs H Q _ => ∃ m F k ds d k', Ex F H ∧ Ctr m F H k ∧ RpA K m F vs ds ∧ f ds k = some (d, k') ∧ ∀ v F' H', Grow m F H F' H' → Ctr m F' H' k' → Rp K m F' v d → Q v H'
/-- hands back a new list that nobody else holds -/
def spL (K : Fr) (f : FnL) : Sp := fun vs H Q _ => ∃ m F k ds es k', Ex F H ∧ Ctr m F H k ∧ RpA K m F vs ds ∧ f ds k = some (es, k') ∧
  ∀ p ws F' H', Grow m F H F' H' → Ctr m F' H' k' → H p = none → F' p = none → H' p = some (.lst ws) → RpA K m F' ws es → Q (.ref p) H'
@[simp] def dCall (f : Fn) (g : DL) : DE := fun ρ k => (g ρ k).bind fun p => f p.1 p.2
@[simp] def dCallL (f : FnL) (g : DL) : DL := fun ρ k => (g ρ k).bind fun p => f p.1 p.2
theorem e_call {j : Nat} {fa : Addr} {fd : FuncData} {ps : List Str} {f : Fn} {g : DL} {x : Str} {p : Pos} (G : FnOk X.prog X.w X.K X.mg X.base CX0 j fa fd ps (spD X.K f)) (hr : Room j X.A) (hm : X.mg x = some (.ref fa)) (hk : PySem.W.keepIn X.K (.ref fa) = true)
    (hb : Binds X.K fd ps []) (ha : PA X (e :: es) (tAr X.K m g)) (hg : Gl X x := by rfl) (hdb : (x == ("__debug__" : Str)) = false := by decide) (he : starEach (e :: es) X.env = (false, eval e X.env) :: starEach es X.env := by rfl) (hpl : (backTo pos (starEach es X.env)).any (·.1) = false := by rfl) :
    PE X (.Call (.Name x p) (e :: es) [] pos) (tE X.K m (dCall f g)) := impPE (pe_call G hr hg hm hk hb .nil pass0 ha hdb he hpl) fun σ H Q ⟨F, ρ, k, d, k', R, hf, q⟩ => by
  unfold dCall at hf
  obtain ⟨⟨ds, k1⟩, h1, hf⟩ := Option.bind_eq_some_iff.mp hf
  refine ⟨F, ρ, k, ds, k1, R, h1, fun vs F1 H1 g1 c1 r => ?_⟩
  show spD X.K f (vs ++ []) H1 Q E0
  rw [List.append_nil]
  exact ⟨m, F1, k1, ds, d, k', g1.fh, c1, r, hf, fun v F' H' g' c' r' => q v F' H' (g1.trans c1 g') c' r'⟩
theorem l_call {j : Nat} {fa : Addr} {fd : FuncData} {ps : List Str} {f : FnL} {g : DL} {x : Str} {p : Pos} (G : FnOk X.prog X.w X.K X.mg X.base CX0 j fa fd ps (spL X.K f)) (hr : Room j X.A) (hm : X.mg x = some (.ref fa)) (hk : PySem.W.keepIn X.K (.ref fa) = true)
    (hb : Binds X.K fd ps []) (ha : PA X (e :: es) (tAr X.K m g)) (hg : Gl X x := by rfl) (hdb : (x == ("__debug__" : Str)) = false := by decide) (he : starEach (e :: es) X.env = (false, eval e X.env) :: starEach es X.env := by rfl) (hpl : (backTo pos (starEach es X.env)).any (·.1) = false := by rfl) :
    PE X (.Call (.Name x p) (e :: es) [] pos) (tL X.K m (dCallL f g)) := impPE (pe_call G hr hg hm hk hb .nil pass0 ha hdb he hpl) fun σ H Q ⟨F, ρ, k, d, k', R, hf, q⟩ => by
  unfold dCallL at hf
  obtain ⟨⟨ds, k1⟩, h1, hf⟩ := Option.bind_eq_some_iff.mp hf
  refine ⟨F, ρ, k, ds, k1, R, h1, fun vs F1 H1 g1 c1 r => ?_⟩
  show spL X.K f (vs ++ []) H1 Q E0
  rw [List.append_nil]
  exact ⟨m, F1, k1, ds, d, k', g1.fh, c1, r, hf, fun p ws F' H' g' c' hp fp h' r' => q p ws F' H' (g1.trans c1 g') c' (g1.back c1 hp) fp h' r'⟩

/-! subscripts, slices -/
theorem e_ix {g : Dt → Dt → Option Dt} {fa fb : DE} (ha : PE X a (tO X.K m fa)) (hb : PE X b (tO X.K m fb)) (hr : IxR X (roD X.K m g)) (hs : PlainIx b := by exact fun _ _ => rfl) : PE X (.Subscript a b pos) (tE X.K m (dB g fa fb)) :=
  impPE (pe_ix hr ha hb hs) fun σ H Q ⟨F, ρ, k, d, k', R, hf, q⟩ => by
    unfold dB at hf
    obtain ⟨⟨x, k1⟩, h1, hf⟩ := Option.bind_eq_some_iff.mp hf
    obtain ⟨⟨y, k2⟩, h2, hf⟩ := Option.bind_eq_some_iff.mp hf
    obtain ⟨z, h3, hf⟩ := Option.bind_eq_some_iff.mp hf
    cases hf
    exact ⟨F, ρ, k, x, k1, R, h1, fun v1 F1 H1 g1 c1 r1 => ⟨F1, ρ, k1, y, k2, R.grow g1 c1, h2, fun v2 F2 H2 g2 c2 r2 =>
      ⟨F2, k2, x, y, d, g2.fh, c2, r1.grow g2, r2, h3, fun v F' H' g' c' r => q v F' H' ((g1.trans c1 g2).trans c2 g') c' r⟩⟩⟩
abbrev DP := E1 (Option Int)
@[simp] def pN : DP := fun _ k => some (none, k)
@[simp] def asI : Dt → Option Int
  | .int i => some i
  | _ => none
@[simp] def pS (f : DE) : DP := fun ρ k => (f ρ k).bind fun p => (asI p.1).bind fun i => some (some i, p.2)
theorem asI_some {d : Dt} {i : Int} (h : asI d = some i) : d = .int i := by
  cases d <;> simp [asI] at h
  rw [h]
def tPo (K : Fr) (m : Option Addr) (f : DP) : TO := fun σ H Q => ∃ F ρ k o k', Rl K m F ρ k σ H ∧ f ρ k = some (o, k') ∧ ∀ F' H', Grow m F H F' H' → Ctr m F' H' k' → Q o H'
theorem impPO {o : Option Expr} {t t' : TO} (h : PO X o t) (i : ∀ σ H Q, t' σ H Q → t σ H Q) : PO X o t' := ⟨fun pins s σ H Q I w => h.run pins s σ H Q I (i σ H Q w)⟩
theorem o_none : PO X none (tPo X.K m pN) := impPO po_none fun σ H Q ⟨F, ρ, k, o, k', R, hf, q⟩ => by
  cases hf
  exact q F H (.refl R.sub) R.ctr
theorem o_some {f : DE} (h : PE X e (tO X.K m f)) : PO X (some e) (tPo X.K m (pS f)) := impPO (po_some h) fun σ H Q ⟨F, ρ, k, o, k', R, hf, q⟩ => by
  unfold pS at hf
  obtain ⟨⟨x, k1⟩, h1, hf⟩ := Option.bind_eq_some_iff.mp hf
  obtain ⟨i, h2, hf⟩ := Option.bind_eq_some_iff.mp hf
  cases hf
  cases asI_some h2
  exact ⟨F, ρ, k, _, k1, R, h1, fun v F' H' g c r => ⟨i, r.int, q F' H' g c⟩⟩
@[simp] def dSl (g : Dt → Option Int → Option Int → Option Dt) (f : DE) (l h : DP) : DE := fun ρ k => (f ρ k).bind fun p => (l ρ p.2).bind fun q => (h ρ q.2).bind fun r => (g p.1 q.1 r.1).bind fun d => some (d, r.2)
@[simp] def dSlL (g : Dt → Option Int → Option Int → Option (List Dt)) (f : DE) (l h : DP) : DL := fun ρ k => (f ρ k).bind fun p => (l ρ p.2).bind fun q => (h ρ q.2).bind fun r => (g p.1 q.1 r.1).bind fun d => some (d, r.2)
def rsD (K : Fr) (m : Option Addr) (g : Dt → Option Int → Option Int → Option Dt) : V → Option Int → Option Int → Hp → VK → Prop := fun x lo hi H Q => ∃ F k dx d, Ex F H ∧ Ctr m F H k ∧ Ro K m F H x dx ∧ g dx lo hi = some d ∧ ∀ v F' H', Grow m F H F' H' → Ctr m F' H' k → Rp K m F' v d → Q v H'
def rslD (K : Fr) (m : Option Addr) (g : Dt → Option Int → Option Int → Option (List Dt)) : V → Option Int → Option Int → Hp → VK → Prop := fun x lo hi H Q => ∃ F k dx ds, Ex F H ∧ Ctr m F H k ∧ Ro K m F H x dx ∧ g dx lo hi = some ds ∧ ∀ p vs H', H p = none → H' = upd H p (.lst vs) → RpA K m F vs ds → Q (.ref p) H'
theorem e_slice {p2} {lo hi : Option Expr} {g : Dt → Option Int → Option Int → Option Dt} {f : DE} {fl fh : DP} (hr : SlR X (rsD X.K m g)) (he : PE X e (tO X.K m f)) (hl : PO X lo (tPo X.K m fl)) (hu : PO X hi (tPo X.K m fh)) : PE X (.Subscript e (.Slice lo hi none p2) pos) (tE X.K m (dSl g f fl fh)) :=
  impPE (pe_slice hr he hl hu) fun σ H Q ⟨F, ρ, k, d, k', R, hf, q⟩ => by
    unfold dSl at hf
    obtain ⟨⟨x, k1⟩, h1, hf⟩ := Option.bind_eq_some_iff.mp hf
    obtain ⟨⟨y, k2⟩, h2, hf⟩ := Option.bind_eq_some_iff.mp hf
    obtain ⟨⟨z, k3⟩, h3, hf⟩ := Option.bind_eq_some_iff.mp hf
    obtain ⟨w, h4, hf⟩ := Option.bind_eq_some_iff.mp hf
    cases hf
    refine ⟨F, ρ, k, x, k1, R, h1, fun v1 F1 H1 g1 c1 r1 => ⟨F1, ρ, k1, y, k2, R.grow g1 c1, h2, fun F2 H2 g2 c2 => ?_⟩⟩
    have g12 := g1.trans c1 g2
    exact ⟨F2, ρ, k2, z, k3, R.grow g12 c2, h3, fun F3 H3 g3 c3 => ⟨F3, k3, x, d, g3.fh, c3, (r1.grow g2).grow g3, h4, fun v F' H' g' c' r => q v F' H' ((g12.trans c2 g3).trans c3 g') c' r⟩⟩
theorem l_slice {p2} {lo hi : Option Expr} {g : Dt → Option Int → Option Int → Option (List Dt)} {f : DE} {fl fh : DP} (hr : SlR X (rslD X.K m g)) (he : PE X e (tO X.K m f)) (hl : PO X lo (tPo X.K m fl)) (hu : PO X hi (tPo X.K m fh)) : PE X (.Subscript e (.Slice lo hi none p2) pos) (tL X.K m (dSlL g f fl fh)) :=
  impPE (pe_slice hr he hl hu) fun σ H Q ⟨F, ρ, k, d, k', R, hf, q⟩ => by
    unfold dSlL at hf
    obtain ⟨⟨x, k1⟩, h1, hf⟩ := Option.bind_eq_some_iff.mp hf
    obtain ⟨⟨y, k2⟩, h2, hf⟩ := Option.bind_eq_some_iff.mp hf
    obtain ⟨⟨z, k3⟩, h3, hf⟩ := Option.bind_eq_some_iff.mp hf
    obtain ⟨w, h4, hf⟩ := Option.bind_eq_some_iff.mp hf
    cases hf
    refine ⟨F, ρ, k, x, k1, R, h1, fun v1 F1 H1 g1 c1 r1 => ⟨F1, ρ, k1, y, k2, R.grow g1 c1, h2, fun F2 H2 g2 c2 => ?_⟩⟩
    have g12 := g1.trans c1 g2
    refine ⟨F2, ρ, k2, z, k3, R.grow g12 c2, h3, fun F3 H3 g3 c3 => ⟨F3, k3, x, d, g3.fh, c3, (r1.grow g2).grow g3, h4, fun p vs H' hp eh r => ?_⟩⟩
    subst eh
    have g13 := g12.trans c2 g3
    exact q p vs F3 _ (g13.trans c3 (Grow.laid g3.fh hp)) (c3.laid hp) (g13.back c3 hp) (ex_none g3.fh hp) upd_same r
end
end Dn

set_option Elab.async false
set_option linter.all false
set_option maxRecDepth 100000
set_option maxHeartbeats 1000000
namespace Dn
open PySem PySem.Spec PyProof.Rows L2 Evl

/-! ### what is walked -/
/-- the iterator J gives the data ds, frozen in F, one by one -/
structure Feeds (K : Fr) (m : Option Addr) (J : It) (ds : List Dt) (F : Hp) : Prop where
  go : ∀ (F' H : Hp) (i : Nat) (d : Dt) (k : Int), Ex F F' → Ex F' H → Ctr m F' H k → ds[i]? = some d → J.go i H ∧ ∀ x H', J.yld i H x H' → ∃ F'', Grow m F' H F'' H' ∧ Ctr m F'' H' k ∧ Rp K m F'' x d
  stop : ∀ (F' H : Hp), Ex F F' → Ex F' H → J.stop ds.length H
theorem Feeds.mono {K : Fr} {m : Option Addr} {J : It} {ds : List Dt} {F F1 : Hp} (h : Feeds K m J ds F) (e : Ex F F1) : Feeds K m J ds F1 :=
  ⟨fun F' H i d k e1 e2 c h1 => h.go F' H i d k (e.trans e1) e2 c h1, fun F' H e1 e2 => h.stop F' H (e.trans e1) e2⟩
def tIS (K : Fr) (m : Option Addr) (f : DL) : TI := fun σ H R => ∃ F ρ k ds k', Rl K m F ρ k σ H ∧ f ρ k = some (ds, k') ∧ ∀ J F' H', Grow m F H F' H' → Ctr m F' H' k' → Feeds K m J ds F' → R J H'
theorem impPI {X : Cx} {tg it : Expr} {t t' : TI} (h : PI X tg it t) (i : ∀ σ H R, t' σ H R → t σ H R) : PI X tg it t' := ⟨fun pins s σ H R I w => h.run pins s σ H R I (i σ H R w)⟩
theorem feeds_list {K : Fr} {m : Option Addr} {F : Hp} {a : Addr} {xs : List V} {ds : List Dt} (h : SqL K F a xs) (r : RpA K m F xs ds) (inj : ∀ H ys, Ex F H → SqL K H a ys → ys = xs) : Feeds K m (Itl K a) ds F where
  go := fun F' H i d k e1 e2 c h1 => by
    obtain ⟨v, hv, rv⟩ := r.get h1
    refine ⟨⟨xs, v, ex_l (e1.trans e2) h, hv⟩, fun x H' hy => ?_⟩
    obtain ⟨rfl, f⟩ := hy
    have ex := f xs (ex_l (e1.trans e2) h)
    rw [hv] at ex
    cases ex
    exact ⟨F', .refl e2, c, rv.mono e1⟩
  stop := fun F' H e1 e2 => ⟨xs, ex_l (e1.trans e2) h, by rw [r.length]; exact Nat.le_refl _⟩
theorem feeds_tup {K : Fr} {m : Option Addr} {F : Hp} {a : Addr} {xs : List V} {ds : List Dt} (h : SqT K F a xs) (r : RpA K m F xs ds) : Feeds K m (Itt K a) ds F where
  go := fun F' H i d k e1 e2 c h1 => by
    obtain ⟨v, hv, rv⟩ := r.get h1
    refine ⟨⟨xs, v, ex_t (e1.trans e2) h, hv⟩, fun x H' hy => ?_⟩
    obtain ⟨rfl, f⟩ := hy
    have ex := f xs (ex_t (e1.trans e2) h)
    rw [hv] at ex
    cases ex
    exact ⟨F', .refl e2, c, rv.mono e1⟩
  stop := fun F' H e1 e2 => ⟨xs, ex_t (e1.trans e2) h, by rw [r.length]; exact Nat.le_refl _⟩
def signD (c : Nat) : Dt := .str ⟨#[c]⟩
theorem feeds_str {K : Fr} {m : Option Addr} {F : Hp} (x : Str) : Feeds K m (Its x) (x.cps.toList.map signD) F where
  go := fun F' H i d k e1 e2 c h1 => by
    rw [List.getElem?_map] at h1
    cases hc : x.cps.toList[i]? with
    | none =>
      rw [hc] at h1
      cases h1
    | some z =>
      rw [hc] at h1
      cases h1
      have hi : i < x.cps.size := by
        have := (List.getElem?_eq_some_iff.mp hc).1
        simpa using this
      refine ⟨hi, fun v H' hy => ?_⟩
      obtain ⟨rfl, z', hz, rfl⟩ := hy
      rw [← Array.getElem?_toList, hc] at hz
      cases hz
      exact ⟨F', .refl e2, c, .str _⟩
  stop := fun F' H e1 e2 => by
    show x.cps.size ≤ (x.cps.toList.map signD).length
    simp
theorem feeds_range {K : Fr} {m : Option Addr} {F : Hp} (lo : Int) (n : Nat) : Feeds K m (Itr lo n) ((List.range n).map fun (i : Nat) => PyData.int (lo + (i : Int))) F where
  go := fun F' H i d k e1 e2 c h1 => by
    rw [List.getElem?_map] at h1
    by_cases hi : i < n
    · rw [List.getElem?_range hi] at h1
      cases h1
      refine ⟨hi, fun v H' hy => ?_⟩
      obtain ⟨rfl, rfl⟩ := hy
      exact ⟨F', .refl e2, c, .int _⟩
    · rw [List.getElem?_eq_none (by simpa using hi)] at h1
      cases h1
  stop := fun F' H e1 e2 => by
    show n ≤ _
    simp
/-- the items of a list, a tuple; the signs of a text -/
@[simp] def gItems : Dt → Option (List Dt)
  | .list ds => some ds
  | .tuple ds => some ds
  | .str x => some (x.cps.toList.map signD)
  | _ => none
@[simp] def dItems (f : DE) : DL := fun ρ k => (f ρ k).bind fun p => (gItems p.1).bind fun ds => some (ds, p.2)
section
variable {X : Cx} {m : Option Addr} {a b e tg : Expr} {es : List Expr} {pos : Pos}
theorem i_seq {f : DE} (h : PE X e (tE X.K m f)) : PI X tg e (tIS X.K m (dItems f)) := by
  refine ⟨fun pins s σ H R I w => ?_⟩
  obtain ⟨F, ρ, k, ds, k', Rl1, hf, q⟩ := w
  unfold dItems at hf
  obtain ⟨⟨d, k1⟩, h1, hf⟩ := Option.bind_eq_some_iff.mp hf
  obtain ⟨es, h2, hf⟩ := Option.bind_eq_some_iff.mp hf
  cases hf
  cases d with
  | list xs =>
    cases h2
    refine (pi_list h).run pins s σ H R I ⟨F, ρ, k, _, k1, Rl1, h1, fun v F' H' g c r => ?_⟩
    cases r with
    | lst hl r =>
      exact ⟨_, rfl, ⟨_, ex_l g.fh hl⟩, q _ F' H' g c ⟨fun F2 H2 i d k e1 e2 c2 h3 => by
        obtain ⟨v, hv, rv⟩ := r.get h3
        refine ⟨⟨_, v, ex_l (e1.trans e2) hl, hv⟩, fun x H3 hy => ?_⟩
        obtain ⟨rfl, f⟩ := hy
        have ex := f _ (ex_l (e1.trans e2) hl)
        rw [hv] at ex
        cases ex
        exact ⟨F2, .refl e2, c2, rv.mono e1⟩, fun F2 H2 e1 e2 => ⟨_, ex_l (e1.trans e2) hl, by
        rw [r.length]
        exact Nat.le_refl _⟩⟩⟩
  | tuple xs =>
    cases h2
    refine (pi_tup h).run pins s σ H R I ⟨F, ρ, k, _, k1, Rl1, h1, fun v F' H' g c r => ?_⟩
    cases r with
    | tup hl r => exact ⟨_, rfl, ⟨_, ex_t g.fh hl⟩, q _ F' H' g c (feeds_tup hl r)⟩
  | str x =>
    cases h2
    refine (pi_str h).run pins s σ H R I ⟨F, ρ, k, _, k1, Rl1, h1, fun v F' H' g c r => ?_⟩
    cases r
    exact ⟨x, rfl, q _ F' H' g c (feeds_str x)⟩
  | _ => cases h2
@[simp] def gRange1 : List Dt → Option (List Dt)
  | [.int n] => if 0 ≤ n ∧ n ≤ 1000000 then some ((List.range n.toNat).map fun (i : Nat) => PyData.int (i : Int)) else none
  | _ => none
def gRange2 : List Dt → Option (List Dt)
  | [.int a, .int b] => if -1000000 ≤ a ∧ a ≤ 1000000 ∧ -1000000 ≤ b ∧ b ≤ 1000000 then some ((List.range (b - a).toNat).map fun (i : Nat) => PyData.int (a + (i : Int))) else none
  | _ => none
theorem i_range1 {f : DL} {p : Pos} (hm : X.mg "range" = none) (ha : PA X [a] (tAo X.K m f)) (hg : Gl X "range" := by rfl) (hs : starEach [a] X.env = [(false, eval a X.env)] := by rfl) : PI X tg (.Call (.Name "range" p) [a] [] pos) (tIS X.K m (dNL gRange1 f)) :=
  impPI (pi_range1 hg hm ha hs) fun σ H R ⟨F, ρ, k, ds, k', Rl1, hf, q⟩ => by
    unfold dNL at hf
    obtain ⟨⟨d, k1⟩, h1, hf⟩ := Option.bind_eq_some_iff.mp hf
    obtain ⟨es, h2, hf⟩ := Option.bind_eq_some_iff.mp hf
    cases hf
    unfold gRange1 at h2
    split at h2
    · rename_i n e1
      split at h2
      · rename_i hn
        cases h2
        simp only at e1
        subst e1
        refine ⟨F, ρ, k, _, k1, Rl1, h1, fun vs F' H' g c r => ?_⟩
        cases r with
        | cons h r =>
          cases r
          rw [h.int]
          exact ⟨n, rfl, by omega, by omega, q _ F' H' g c (by
            have z := feeds_range (K := X.K) (m := m) (F := F') 0 n.toNat
            simpa using z)⟩
      · cases h2
    · cases h2
end
end Dn

set_option Elab.async false
set_option linter.all false
set_option maxRecDepth 100000
set_option maxHeartbeats 1000000
namespace Dn
open PySem PySem.Spec PyProof.Rows L2 Evl

/-! ### targets -/
abbrev DG := Ev → Dt → Option Ev
abbrev DGs := Ev → List Dt → Option Ev
@[simp] def gSet (i : Nat) : DG := fun ρ d => some (ρ.set i (.sh d))
@[simp] def gNilD : DGs := fun ρ ds => match ds with
  | [] => some ρ
  | _ :: _ => none
@[simp] def gConsD (g : DG) (gs : DGs) : DGs := fun ρ ds => match ds with
  | [] => none
  | d :: ds => (g ρ d).bind fun ρ' => gs ρ' ds
@[simp] def gTupG (n : Nat) (gs : DGs) : DG := fun ρ d => match d with
  | .tuple ds => if ds.length = n then gs ρ ds else none
  | _ => none

section
variable {K : Fr} {m : Option Addr} {F H : Hp} {ρ : Ev} {k : Int} {σ : L2.St}
theorem own_set_sh {i j : Nat} {d : Dt} {v : V} {p : Addr} (h : Own (ρ.set i (.sh d)) (σ.set i (some v)) j p) : Own ρ σ j p ∧ j ≠ i := by
  obtain ⟨c, h1, h2, h3⟩ := h
  by_cases e : i = j
  · subst e
    by_cases hl : i < ρ.length
    · rw [List.getElem?_set_self hl] at h1
      cases h1
      cases h2
    · rw [List.getElem?_eq_none (by simpa using hl)] at h1
      cases h1
  · rw [List.getElem?_set_ne e] at h1 h3
    exact ⟨⟨c, h1, h2, h3⟩, fun z => e z.symm⟩
theorem Rl.set_sh (R : Rl K m F ρ k σ H) {i : Nat} {d : Dt} {v : V} (r : Rp K m F v d) : Rl K m F (ρ.set i (.sh d)) k (σ.set i (some v)) H where
  sub := R.sub
  ctr := R.ctr
  len := by rw [List.length_set, List.length_set, R.len]
  sh := fun j e h => by
    by_cases z : i = j
    · subst z
      by_cases hl : i < ρ.length
      · rw [List.getElem?_set_self hl] at h
        cases h
        exact ⟨v, by rw [List.getElem?_set_self (by rw [← R.len]; exact hl)], r⟩
      · rw [List.getElem?_eq_none (by simpa using hl)] at h
        cases h
    · rw [List.getElem?_set_ne z] at h ⊢
      exact R.sh j e h
  ow := fun j c h hc => by
    by_cases z : i = j
    · subst z
      by_cases hl : i < ρ.length
      · rw [List.getElem?_set_self hl] at h
        cases h
        cases hc
      · rw [List.getElem?_eq_none (by simpa using hl)] at h
        cases h
    · rw [List.getElem?_set_ne z] at h ⊢
      exact R.ow j c h hc
  sep := fun a b p h1 h2 => R.sep a b p (own_set_sh h1).1 (own_set_sh h2).1
end

def tGd (K : Fr) (m : Option Addr) (tch : List Nat) (g : DG) : TG := fun v σ H Q => ∃ F ρ k d ρ', Rl K m F ρ k σ H ∧ Rp K m F v d ∧ g ρ d = some ρ' ∧
  ∀ σ', Rl K m F ρ' k σ' H → (∀ j, j ∉ tch → σ'[j]? = σ[j]?) → σ'.length = σ.length → (∀ i p, Own ρ' σ' i p → Own ρ σ i p) → Q σ' H
def tGs (K : Fr) (m : Option Addr) (tch : List Nat) (g : DGs) : TGs := fun vs σ H Q => ∃ F ρ k ds ρ', Rl K m F ρ k σ H ∧ RpA K m F vs ds ∧ g ρ ds = some ρ' ∧
  ∀ σ', Rl K m F ρ' k σ' H → (∀ j, j ∉ tch → σ'[j]? = σ[j]?) → σ'.length = σ.length → (∀ i p, Own ρ' σ' i p → Own ρ σ i p) → Q σ' H
section
variable {X : Cx} {m : Option Addr} {a b e tg : Expr} {es : List Expr} {pos : Pos}
theorem impPG {t t' : TG} (h : PG X tg t) (i : ∀ v σ H Q, t' v σ H Q → t v σ H Q) : PG X tg t' := ⟨fun pins s σ H v u Q I r w => h.run pins s σ H v u Q I r (i v σ H Q w)⟩
theorem impPGs {t t' : TGs} (h : PGs X es t) (i : ∀ v σ H Q, t' v σ H Q → t v σ H Q) : PGs X es t' := ⟨fun pins s σ H v u Q I r w => h.run pins s σ H v u Q I r (i v σ H Q w)⟩
theorem g_name (i : Nat) {x : Str} (hN : X.N.Nodup) (hi : X.N[i]? = some x := by rfl) (hx : Loc X.env.scope x := by first | exact .inl rfl | exact .inr rfl) (hf : X.fn x = true ∨ X.env.scope.names.lookup x = some .local := by first | exact .inl rfl | exact .inr rfl | assumption) : PG X (.Name x pos) (tGd X.K m [i] (gSet i)) :=
  impPG (pg_name (i := i) hN hi hx hf) fun v σ H Q ⟨F, ρ, k, d, ρ', R, r, hg, q⟩ => by
    cases hg
    exact q (σ.set i (some v)) (R.set_sh r) (fun j hj => List.getElem?_set_ne (fun z => hj (by simp [z]))) (List.length_set ..) fun j p h => (own_set_sh h).1
theorem gs_nil : PGs X [] (tGs X.K m [] gNilD) := impPGs pgs_nil fun v σ H Q ⟨F, ρ, k, d, ρ', R, r, hg, q⟩ => by
  cases r with
  | nil =>
    cases hg
    exact ⟨rfl, q σ R (fun _ _ => rfl) rfl fun _ _ h => h⟩
  | cons _ _ => cases hg
theorem gs_cons {t1 t2 : List Nat} {g : DG} {gs : DGs} (h1 : PG X e (tGd X.K m t1 g)) (h2 : PGs X es (tGs X.K m t2 gs)) (hs : (assignEach (e :: es) X.env).map (·.2) = assign e X.env :: (assignEach es X.env).map (·.2) := by rfl) :
    PGs X (e :: es) (tGs X.K m (t1 ++ t2) (gConsD g gs)) := impPGs (pgs_cons h1 h2 hs) fun v σ H Q ⟨F, ρ, k, d, ρ', R, r, hg, q⟩ => by
  cases r with
  | nil => cases hg
  | cons r rs =>
    unfold gConsD at hg
    obtain ⟨ρ1, e1, hg⟩ := Option.bind_eq_some_iff.mp hg
    exact ⟨_, _, rfl, F, ρ, k, _, ρ1, R, r, e1, fun σ1 R1 w1 l1 o1 => ⟨F, ρ1, k, _, ρ', R1, rs, hg, fun σ2 R2 w2 l2 o2 => q σ2 R2 (fun j hj => (w2 j (fun z => hj (List.mem_append_right _ z))).trans (w1 j (fun z => hj (List.mem_append_left _ z)))) (l2.trans l1) fun i p h => o1 i p (o2 i p h)⟩⟩
theorem g_tup {k n : Nat} {t : List Nat} {gs : DGs} (hc : X.calm = true) (h : PGs X es (tGs X.K m t gs)) (hn : (assignEach es X.env).length = n := by rfl) (hst : (assignEach es X.env).findIdx? (·.1) = none := by rfl) : PG X (.Tuple es k pos) (tGd X.K m t (gTupG n gs)) :=
  impPG (pg_tup (n := n) hc h hn hst) fun v σ H Q ⟨F, ρ, k, d, ρ', R, r, hg, q⟩ => by
    unfold gTupG at hg
    cases d with
    | tuple ds =>
      simp only at hg
      split at hg
      · rename_i hl
        cases r with
        | tup ht r => exact ⟨_, _, rfl, ex_t R.sub ht, by rw [r.length]; exact hl, F, ρ, k, ds, ρ', R, r, hg, q⟩
      · cases hg
    | _ => cases hg
end

/-! ### list comprehensions -/
@[simp] def wipeE (ρ : Ev) : List Nat → Ev
  | [] => ρ
  | v :: vs => (wipeE ρ vs).set v .un
section
variable {K : Fr} {m : Option Addr} {F H F1 H1 : Hp} {ρ : Ev} {k : Int} {σ : L2.St}
theorem own_set_un {i j : Nat} {p : Addr} {x : Option V} (h : Own (ρ.set i .un) (σ.set i x) j p) : Own ρ σ j p := by
  obtain ⟨c, h1, h2, h3⟩ := h
  by_cases e : i = j
  · subst e
    by_cases hl : i < ρ.length
    · rw [List.getElem?_set_self hl] at h1
      cases h1
      cases h2
    · rw [List.getElem?_eq_none (by simpa using hl)] at h1
      cases h1
  · rw [List.getElem?_set_ne e] at h1 h3
    exact ⟨c, h1, h2, h3⟩
theorem Rl.set_un (R : Rl K m F ρ k σ H) {i : Nat} {x : Option V} : Rl K m F (ρ.set i .un) k (σ.set i x) H where
  sub := R.sub
  ctr := R.ctr
  len := by rw [List.length_set, List.length_set, R.len]
  sh := fun j e h => by
    by_cases z : i = j
    · subst z
      by_cases hl : i < ρ.length
      · rw [List.getElem?_set_self hl] at h
        cases h
      · rw [List.getElem?_eq_none (by simpa using hl)] at h
        cases h
    · rw [List.getElem?_set_ne z] at h ⊢
      exact R.sh j e h
  ow := fun j c h hc => by
    by_cases z : i = j
    · subst z
      by_cases hl : i < ρ.length
      · rw [List.getElem?_set_self hl] at h
        cases h
        cases hc
      · rw [List.getElem?_eq_none (by simpa using hl)] at h
        cases h
    · rw [List.getElem?_set_ne z] at h ⊢
      exact R.ow j c h hc
  sep := fun a b p h1 h2 => R.sep a b p (own_set_un h1) (own_set_un h2)
theorem Rl.wipe (R : Rl K m F ρ k σ H) : ∀ vs : List Nat, Rl K m F (wipeE ρ vs) k (L2.wipe σ vs) H
  | [] => R
  | v :: vs => (Rl.wipe R vs).set_un
theorem wipe_get {σ : L2.St} {j : Nat} : ∀ {vs : List Nat}, (L2.wipe σ vs)[j]? = if j ∈ vs ∧ j < σ.length then some none else σ[j]?
  | [] => by simp [L2.wipe]
  | v :: vs => by
    unfold L2.wipe
    by_cases e : v = j
    · subst e
      by_cases hl : v < σ.length
      · rw [List.getElem?_set_self (by rw [wipe_length]; exact hl), if_pos ⟨by simp, hl⟩]
      · rw [List.getElem?_eq_none (by rw [List.length_set, wipe_length]; omega), if_neg (fun z => hl z.2), List.getElem?_eq_none (by omega)]
    · rw [List.getElem?_set_ne e, wipe_get (vs := vs)]
      have : (j ∈ v :: vs) ↔ j ∈ vs := by simp [show j ≠ v from fun z => e z.symm]
      simp only [this]
theorem wipe_again {σ σ' : L2.St} {vs t : List Nat} (ht : ∀ j, j ∈ t → j ∈ vs) (hl : σ'.length = (L2.wipe σ vs).length) (h : ∀ j, j ∉ t → σ'[j]? = (L2.wipe σ vs)[j]?) : L2.wipe σ' vs = L2.wipe σ vs := by
  apply List.ext_getElem?
  intro j
  rw [wipe_get]
  by_cases hj : j ∈ vs ∧ j < σ'.length
  · rw [if_pos hj, wipe_get, if_pos ⟨hj.1, by rw [wipe_length] at hl; omega⟩]
  · rw [if_neg hj]
    by_cases hjt : j ∈ t
    · have hn : ¬ j < σ'.length := fun z => hj ⟨ht j hjt, z⟩
      rw [List.getElem?_eq_none (by omega), List.getElem?_eq_none (by omega)]
    · exact h j hjt
theorem Grow.mut {p : Addr} {o : HO} (g : Grow m F H F1 H1) (hp : H p = none) (fp : F1 p = none) : Grow m F H F1 (upd H1 p o) where
  ff := g.ff
  fh := fun a u h => by
    rw [upd_ne (ne_of_none h fp)]
    exact g.fh a u h
  nw := g.nw
  hh := fun a u e h => by
    rw [upd_ne (ne_of_none h hp)]
    exact g.hh a u e h
theorem Ctr.mut {p : Addr} {o : HO} (c : Ctr m F H k) (hp : m ≠ some p) : Ctr m F (upd H p o) k := fun a e => by
  rw [upd_ne (fun z => hp (by rw [← z]; exact e))]
  exact c a e
end
def lcLoop (ρ : Ev) (g : DG) (t : DT) (e : DE) : List Dt → Int → Option (List Dt × Int)
  | [], k => some ([], k)
  | d :: ds, k => (g ρ d).bind fun ρ' => (t ρ' k).bind fun q => if q.1 = true then (e ρ' q.2).bind fun r => (lcLoop ρ g t e ds r.2).bind fun s => some (r.1 :: s.1, s.2) else lcLoop ρ g t e ds q.2
@[simp] def tAll : DT := fun _ k => some (true, k)
@[simp] def dLc (src : DL) (vs : List Nat) (g : DG) (t : DT) (e : DE) : DL := fun ρ k => (src ρ k).bind fun p => if p.1.length ≤ 1000000 then lcLoop (wipeE ρ vs) g t e p.1 p.2 else none
theorem lc_in {K : Fr} {m : Option Addr} {src : DL} {vs tch : List Nat} {g : DG} {t : DT} {e : DE} {σ : L2.St} {H : Hp} {Q : VK} (ht : ∀ j, j ∈ tch → j ∈ vs) (w : tL K m (dLc src vs g t e) σ H Q) :
    tLc (tIS K m src) (tGd K m tch g) (tT K m t) (tE K m e) vs σ H Q := by
  obtain ⟨F, ρ, k, out, k', R, hf, q⟩ := w
  unfold dLc at hf
  obtain ⟨⟨ds, k1⟩, h1, hf⟩ := Option.bind_eq_some_iff.mp hf
  simp only at hf
  split at hf
  · rename_i hlen
    refine ⟨F, ρ, k, ds, k1, R, h1, fun J F1 H1 g1 c1 fd D hD => ?_⟩
    let W : Nat → Nat → Hp → Prop := fun i n H2 => n + i = ds.length ∧ ∃ F2 k2 acc av rest, Grow m F1 H1 F2 H2 ∧ Ctr m F2 H2 k2 ∧ F2 D = none ∧ H2 D = some (.lst av) ∧ RpA K m F2 av acc ∧ acc.length ≤ i ∧ lcLoop (wipeE ρ vs) g t e (ds.drop i) k2 = some (rest, k') ∧ acc ++ rest = out
    refine ⟨W, ⟨ds.length, by omega, F1, k1, [], [], out, Grow.laid g1.fh hD, c1.laid hD, ex_none g1.fh hD, upd_same, .nil, Nat.le_refl _, hf, rfl⟩, fun i n H2 hW => ?_⟩
    obtain ⟨hn, F2, k2, acc, av, rest, g2, c2, fD, eD, ra, hal, hl, ho⟩ := hW
    have R2 : Rl K m F2 (wipeE ρ vs) k2 (L2.wipe σ vs) H2 := (R.wipe vs).grow (g1.trans c1 g2) c2
    have hmD : m ≠ some D := c1.ne hD
    cases hds : ds[i]? with
    | none =>
      have hi : ds.length ≤ i := List.getElem?_eq_none_iff.mp hds
      have hi2 : i = ds.length := by omega
      subst hi2
      rw [List.drop_length] at hl
      cases hl
      rw [List.append_nil] at ho
      subst ho
      exact .inl ⟨(fd.mono g2.ff).stop F2 H2 (Ex.refl _) g2.fh, q D av F2 H2 (g1.trans c1 g2) c2 (g1.back c1 hD) fD eD ra⟩
    | some d =>
      obtain ⟨hgo, hyl⟩ := (fd.mono g2.ff).go F2 H2 i d k2 (Ex.refl _) g2.fh c2 hds
      have hi : i < ds.length := (List.getElem?_eq_some_iff.mp hds).1
      rw [List.drop_eq_getElem_cons hi] at hl
      have ed : ds[i] = d := by
        rw [List.getElem?_eq_getElem hi] at hds
        exact Option.some.inj hds
      rw [ed] at hl
      unfold lcLoop at hl
      obtain ⟨ρ', hg, hl⟩ := Option.bind_eq_some_iff.mp hl
      obtain ⟨⟨b, k3⟩, htst, hl⟩ := Option.bind_eq_some_iff.mp hl
      refine .inr ⟨hgo, fun H' => W (i + 1) (n - 1) H', fun H' h => ⟨n - 1, by omega, h⟩, fun x H3 hy => ?_⟩
      obtain ⟨F3, g3, c3, rx⟩ := hyl x H3 hy
      have R3 := R2.grow g3 c3
      refine ⟨F3, wipeE ρ vs, k2, d, ρ', R3, rx, hg, fun σ' Rs w1 l1 _ => ⟨wipe_again ht l1 w1, ?_⟩⟩
      refine ⟨F3, ρ', k2, b, k3, Rs, htst, fun F4 H4 g4 c4 => ?_⟩
      have g34 := g3.trans c3 g4
      have g14 := g2.trans c2 g34
      have eD4 : H4 D = some (.lst av) := g34.hh D _ hmD eD
      have fD4 : F4 D = none := g34.f_none fD eD
      cases b with
      | false =>
        refine ⟨by omega, F4, k3, acc, av, rest, g14, c4, fD4, eD4, ra.mono g34.ff, by omega, hl, ho⟩
      | true =>
        simp only [if_true] at hl
        obtain ⟨⟨y, k5⟩, he, hl⟩ := Option.bind_eq_some_iff.mp hl
        obtain ⟨⟨rest2, k6⟩, hl2, hl⟩ := Option.bind_eq_some_iff.mp hl
        cases hl
        refine ⟨F4, ρ', k3, y, k5, Rs.grow g4 c4, he, fun vy F5 H5 g5 c5 ry => ?_⟩
        have eD5 : H5 D = some (.lst av) := g5.hh D _ hmD eD4
        have fD5 : F5 D = none := g5.f_none fD4 eD4
        refine ⟨av, eD5, ?_, by omega, F5, k5, acc ++ [y], av ++ [vy], rest2, (g14.trans c4 g5).mut hD fD5, c5.mut hmD, fD5, upd_same, ((ra.mono g34.ff).mono g5.ff).append (.cons ry .nil), by rw [List.length_append]; exact Nat.add_le_add_right hal 1, hl2, by rw [List.append_assoc]; exact ho⟩
        rw [ra.length]
        exact Nat.lt_of_lt_of_le (Nat.lt_of_le_of_lt hal hi) (small_line hlen)
  · cases hf
end Dn

set_option Elab.async false
set_option linter.all false
set_option maxRecDepth 100000
set_option maxHeartbeats 1000000
namespace Dn
open PySem PySem.Spec PyProof.Rows L2 Evl

section
variable {X : Cx} {m : Option Addr} {a b e tg it : Expr} {es : List Expr} {pos : Pos}
theorem impPTs {ifs : List Expr} {t t' : TT} (h : PTs X ifs t) (i : ∀ σ H Q, t' σ H Q → t σ H Q) : PTs X ifs t' := ⟨fun pins s σ H Q I w => h.run pins s σ H Q I (i σ H Q w)⟩
theorem ts_nil : PTs X [] (tT X.K m tAll) := impPTs pts_nil fun σ H Q ⟨F, ρ, k, b, k', R, hf, q⟩ => by
  cases hf
  exact q F H (.refl R.sub) R.ctr
theorem ts_one {c : Expr} {f : DT} (h : PT X c (tT X.K m f)) : PTs X [c] (tT X.K m f) := pts_one h
theorem l_lc {elt : Expr} {ifs : List Expr} {scope : Scope} {own : List (Str × Nat)} {src : DL} {tch : List Nat} {g : DG} {t : DT} {f : DE} (hc : X.calm = true) (hN : X.N.Nodup) (ok : blkC X.N X.env.scope scope own = true) (ht0 : ∀ j, j ∈ tch → j ∈ own.map (·.2)) (hi : PI X tg it (tIS X.K m src))
    (hg : ∀ (s : Shared) (H : Hp) (C : Addr) (cl : List (Str × Addr)) (fp : List Addr), PG (X.blk s H scope (compEnvC scope cl C X.env) fp) tg (tGd X.K m tch g)) (ht : ∀ (s : Shared) (H : Hp) (C : Addr) (cl : List (Str × Addr)) (fp : List Addr), PTs (X.blk s H scope (compEnvC scope cl C X.env) fp) ifs (tT X.K m t))
    (he : ∀ (s : Shared) (H : Hp) (C : Addr) (cl : List (Str × Addr)) (fp : List Addr), PE (X.blk s H scope (compEnvC scope cl C X.env) fp) elt (tE X.K m f)) (hs : ∀ x, foldedSetIterable it X.env x = pure x := by intro _; rfl) :
    PE X (.ListComp elt [⟨tg, it, ifs, 0⟩] scope pos) (tL X.K m (dLc src (own.map (·.2)) g t f)) := impPE (pe_lc hc hN hi (blkOk_by ok) hg ht he hs) fun _ _ _ w => lc_in ht0 w

/-! ### statements -/
end
inductive Out where
  | next (ρ : Ev) (k : Int)
  | ret (d : Dt) (k : Int)
  | retL (ds : List Dt) (k : Int)
  | brk (ρ : Ev) (k : Int)
  | cont (ρ : Ev) (k : Int)
  | exc (c : Str) (k : Int)
abbrev DS := Ev → Int → Option Out
structure Rs (K : Fr) (m : Option Addr) (F0 H0 F : Hp) (ρ : Ev) (k : Int) (σ : L2.St) (H : Hp) : Prop where
  rl : Rl K m F ρ k σ H
  gr : Grow m F0 H0 F H
  own : ∀ i p, Own ρ σ i p → H0 p = none
abbrev WE := Str → Hp → Prop
def Post (K : Fr) (m : Option Addr) (F0 H0 : Hp) (W : WE) (D : Ends) (Fb : Hp) : Out → Prop
  | .next ρ k => ∀ σ F H, Ex Fb F → Rs K m F0 H0 F ρ k σ H → D.nx σ H
  | .brk ρ k => ∀ σ F H, Ex Fb F → Rs K m F0 H0 F ρ k σ H → D.bk σ H
  | .cont ρ k => ∀ σ F H, Ex Fb F → Rs K m F0 H0 F ρ k σ H → D.ct σ H
  | .ret d k => ∀ v F H, Grow m F0 H0 F H → Ctr m F H k → Rp K m F v d → D.rt v H
  | .retL ds k => ∀ p vs F H, Grow m F0 H0 F H → Ctr m F H k → H0 p = none → F p = none → H p = some (.lst vs) → RpA K m F vs ds → D.rt (.ref p) H
  | .exc c k => ∀ F H, Grow m F0 H0 F H → Ctr m F H k → W c H
def tS (K : Fr) (m : Option Addr) (F0 H0 : Hp) (W : WE) (f : DS) : TS := fun D σ H => ∃ F ρ k out, Rs K m F0 H0 F ρ k σ H ∧ f ρ k = some out ∧ Post K m F0 H0 W D F out
theorem Post.mono {K : Fr} {m : Option Addr} {F0 H0 : Hp} {W : WE} {D : Ends} {F F' : Hp} (e : Ex F F') : ∀ {out : Out}, Post K m F0 H0 W D F out → Post K m F0 H0 W D F' out
  | .next _ _, q => fun σ F1 H e1 R => q σ F1 H (e.trans e1) R
  | .brk _ _, q => fun σ F1 H e1 R => q σ F1 H (e.trans e1) R
  | .cont _ _, q => fun σ F1 H e1 R => q σ F1 H (e.trans e1) R
  | .ret _ _, q => q
  | .retL _ _, q => q
  | .exc _ _, q => q
section
variable {K : Fr} {m : Option Addr} {F0 H0 F H F' H' : Hp} {ρ : Ev} {k k' : Int} {σ : L2.St}
theorem Rs.grow (R : Rs K m F0 H0 F ρ k σ H) (g : Grow m F H F' H') (c : Ctr m F' H' k') : Rs K m F0 H0 F' ρ k' σ H' := ⟨R.rl.grow g c, R.gr.trans R.rl.ctr g, R.own⟩
theorem Rs.fresh (R : Rs K m F0 H0 F ρ k σ H) {p : Addr} (h : H p = none) : H0 p = none := R.gr.back R.rl.ctr h
theorem own_set_ow {i j : Nat} {c : Cell} {v : V} {p : Addr} (h : Own (ρ.set i c) (σ.set i (some v)) j p) : (j = i ∧ v = .ref p) ∨ (j ≠ i ∧ Own ρ σ j p) := by
  obtain ⟨c', h1, h2, h3⟩ := h
  by_cases e : i = j
  · subst e
    by_cases hl : i < σ.length
    · rw [List.getElem?_set_self hl] at h3
      exact .inl ⟨rfl, by injection h3 with h3; injection h3⟩
    · rw [List.getElem?_eq_none (by simpa using hl)] at h3
      cases h3
  · rw [List.getElem?_set_ne e] at h1 h3
    exact .inr ⟨fun z => e z.symm, c', h1, h2, h3⟩
/-- a thing that nobody else holds comes into a slot -/
theorem Rl.set_ow (R : Rl K m F ρ k σ H) {i : Nat} {c : Cell} {o : HO} {p : Addr} (hc : c.isOw = true) (hF : F p = none) (hm : m ≠ some p) (hH : H p = some o) (r : OwRep K m F c o) (hn : ∀ j, ¬ Own ρ σ j p) : Rl K m F (ρ.set i c) k (σ.set i (some (.ref p))) H where
  sub := R.sub
  ctr := R.ctr
  len := by rw [List.length_set, List.length_set, R.len]
  sh := fun j e h => by
    by_cases z : i = j
    · subst z
      by_cases hl : i < ρ.length
      · rw [List.getElem?_set_self hl] at h
        cases h
        cases hc
      · rw [List.getElem?_eq_none (by simpa using hl)] at h
        cases h
    · rw [List.getElem?_set_ne z] at h ⊢
      exact R.sh j e h
  ow := fun j c' h hc' => by
    by_cases z : i = j
    · subst z
      by_cases hl : i < ρ.length
      · rw [List.getElem?_set_self hl] at h
        cases h
        exact ⟨p, o, by rw [List.getElem?_set_self (by rw [← R.len]; exact hl)], hF, hm, hH, r⟩
      · rw [List.getElem?_eq_none (by simpa using hl)] at h
        cases h
    · rw [List.getElem?_set_ne z] at h ⊢
      exact R.ow j c' h hc'
  sep := fun a b q h1 h2 => by
    rcases own_set_ow h1 with ⟨e1, f1⟩ | ⟨e1, f1⟩ <;> rcases own_set_ow h2 with ⟨e2, f2⟩ | ⟨e2, f2⟩
    · rw [e1, e2]
    · cases f1
      exact absurd f2 (hn b)
    · cases f2
      exact absurd f1 (hn a)
    · exact R.sep a b q f1 f2
theorem Own.known (R : Rl K m F ρ k σ H) {i : Nat} {p : Addr} (h : Own ρ σ i p) : H p ≠ none := by
  obtain ⟨c, h1, h2, h3⟩ := h
  obtain ⟨p', o, e, _, _, h, _⟩ := R.ow i c h1 h2
  rw [h3] at e
  cases e
  rw [h]
  intro z
  cases z
/-- a thing held alone is changed -/
theorem Rl.mut (R : Rl K m F ρ k σ H) {i : Nat} {c c' : Cell} {o : HO} {p : Addr} (h1 : ρ[i]? = some c) (h2 : c.isOw = true) (h3 : σ[i]? = some (some (.ref p))) (hc : c'.isOw = true) (r : OwRep K m F c' o) : Rl K m F (ρ.set i c') k σ (upd H p o) := by
  obtain ⟨p', o', e, hF, hm, hH, _⟩ := R.ow i c h1 h2
  rw [h3] at e
  cases e
  have hi : i < ρ.length := (List.getElem?_eq_some_iff.mp h1).1
  have owi : Own ρ σ i p := ⟨c, h1, h2, h3⟩
  have back : ∀ j q, Own (ρ.set i c') σ j q → Own ρ σ j q := fun j q ⟨d, a1, a2, a3⟩ => by
    by_cases z : i = j
    · subst z
      exact ⟨c, h1, h2, a3⟩
    · rw [List.getElem?_set_ne z] at a1
      exact ⟨d, a1, a2, a3⟩
  exact {
    sub := fun a u h => by
      rw [upd_ne (ne_of_none h hF)]
      exact R.sub a u h
    ctr := R.ctr.mut hm
    len := by rw [List.length_set, R.len]
    sh := fun j e h => by
      by_cases z : i = j
      · subst z
        rw [List.getElem?_set_self hi] at h
        cases h
        cases hc
      · rw [List.getElem?_set_ne z] at h
        exact R.sh j e h
    ow := fun j d h hd => by
      by_cases z : i = j
      · subst z
        rw [List.getElem?_set_self hi] at h
        cases h
        exact ⟨p, o, h3, hF, hm, upd_same, r⟩
      · rw [List.getElem?_set_ne z] at h
        obtain ⟨q, u, a1, a2, a3, a4, a5⟩ := R.ow j d h hd
        refine ⟨q, u, a1, a2, a3, ?_, a5⟩
        rw [upd_ne (fun e => z (R.sep i j p owi ⟨d, h, hd, by rw [← e]; exact a1⟩))]
        exact a4
    sep := fun a b q x y => R.sep a b q (back a q x) (back b q y) }
theorem Rs.mut (R : Rs K m F0 H0 F ρ k σ H) {i : Nat} {c c' : Cell} {o : HO} {p : Addr} (h1 : ρ[i]? = some c) (h2 : c.isOw = true) (h3 : σ[i]? = some (some (.ref p))) (hc : c'.isOw = true) (r : OwRep K m F c' o) : Rs K m F0 H0 F (ρ.set i c') k σ (upd H p o) := by
  have owi : Own ρ σ i p := ⟨c, h1, h2, h3⟩
  obtain ⟨p', o', e, hF, hm, hH, _⟩ := R.rl.ow i c h1 h2
  rw [h3] at e
  cases e
  refine ⟨R.rl.mut h1 h2 h3 hc r, R.gr.mut (R.own i p owi) hF, fun j q ⟨d, a1, a2, a3⟩ => ?_⟩
  by_cases z : i = j
  · subst z
    exact R.own i q ⟨c, h1, h2, a3⟩
  · rw [List.getElem?_set_ne z] at a1
    exact R.own j q ⟨d, a1, a2, a3⟩
end

@[simp] def sNext : DS := fun ρ k => some (.next ρ k)
@[simp] def sSeq (f g : DS) : DS := fun ρ k => (f ρ k).bind fun o => match o with
  | .next ρ' k' => g ρ' k'
  | o => some o
@[simp] def sDrop (f : DE) : DS := fun ρ k => (f ρ k).bind fun p => some (.next ρ p.2)
@[simp] def sAsg (f : DE) (g : DG) : DS := fun ρ k => (f ρ k).bind fun p => (g ρ p.1).bind fun ρ' => some (.next ρ' p.2)
@[simp] def sSetL (i : Nat) (f : DL) : DS := fun ρ k => (f ρ k).bind fun p => some (.next (ρ.set i (.ow p.1)) p.2)
@[simp] def sRet (f : DE) : DS := fun ρ k => (f ρ k).bind fun p => some (.ret p.1 p.2)
@[simp] def sRetL (f : DL) : DS := fun ρ k => (f ρ k).bind fun p => some (.retL p.1 p.2)
@[simp] def sRetN : DS := fun _ k => some (.ret .none k)
@[simp] def sIf (t : DT) (f g : DS) : DS := fun ρ k => (t ρ k).bind fun p => if p.1 = true then f ρ p.2 else g ρ p.2
@[simp] def sBrk : DS := fun ρ k => some (.brk ρ k)
@[simp] def sCont : DS := fun ρ k => some (.cont ρ k)
def forLoop (g : DG) (body : DS) : List Dt → Ev → Int → Option Out
  | [], ρ, k => some (.next ρ k)
  | d :: ds, ρ, k => (g ρ d).bind fun ρ' => (body ρ' k).bind fun o => match o with
    | .next ρ2 k2 => forLoop g body ds ρ2 k2
    | .cont ρ2 k2 => forLoop g body ds ρ2 k2
    | .brk ρ2 k2 => some (.next ρ2 k2)
    | o => some o
@[simp] def sFor (src : DL) (g : DG) (body : DS) : DS := fun ρ k => (src ρ k).bind fun p => forLoop g body p.1 ρ p.2
def whLoop (t : DT) (body : DS) : Nat → Ev → Int → Option Out
  | 0, _, _ => none
  | n + 1, ρ, k => (t ρ k).bind fun p => if p.1 = true then (body ρ p.2).bind fun o => match o with
      | .next ρ2 k2 => whLoop t body n ρ2 k2
      | .cont ρ2 k2 => whLoop t body n ρ2 k2
      | .brk ρ2 k2 => some (.next ρ2 k2)
      | o => some o
    else some (.next ρ p.2)
@[simp] def sWhile (n : Nat) (t : DT) (body : DS) : DS := fun ρ k => whLoop t body n ρ k
/-- what was held alone in slot i is shared from here on -/
@[simp] def sFreeze (i : Nat) (f : DS) : DS := fun ρ k => match ρ[i]? with
  | some (.ow ds) => f (ρ.set i (.sh (.list ds))) k
  | _ => f ρ k
@[simp] def sPar (i j : Nat) (f : DL) : DS := fun ρ k => (f ρ k).bind fun p => match p.1 with
  | [x, y] => some (.next ((ρ.set i (.sh x)).set j (.sh y)) p.2)
  | _ => none
/-- slot i's list: .append, .extend, .insert .. by what it becomes -/
@[simp] def sMut (i : Nat) (g : List Dt → List Dt → Option (List Dt)) (f : DL) : DS := fun ρ k => (f ρ k).bind fun p => match ρ[i]? with
  | some (.ow ds) => (g ds p.1).bind fun es => some (.next (ρ.set i (.ow es)) p.2)
  | _ => none

section
variable {X : Cx} {m : Option Addr} {F0 H0 : Hp} {W : WE} {a b c e tg it : Expr} {es : List Expr} {pos : Pos} {st : Stmt} {sts : List Stmt}
theorem ss_nil : PSs X [] (tS X.K m F0 H0 W sNext) := impPSs pss_nil fun D σ H ⟨F, ρ, k, out, R, hf, q⟩ => by
  cases hf
  exact q σ F H (Ex.refl F) R
theorem s_pass : PS X (.Pass pos) (tS X.K m F0 H0 W sNext) := impPS ps_pass fun D σ H ⟨F, ρ, k, out, R, hf, q⟩ => by
  cases hf
  exact q σ F H (Ex.refl F) R
theorem ss_cons {f g : DS} (h1 : PS X st (tS X.K m F0 H0 W f)) (h2 : PSs X sts (tS X.K m F0 H0 W g)) : PSs X (st :: sts) (tS X.K m F0 H0 W (sSeq f g)) := impPSs (pss_cons h1 h2) fun D σ H ⟨F, ρ, k, out, R, hf, q⟩ => by
  unfold sSeq at hf
  obtain ⟨o, e1, hf⟩ := Option.bind_eq_some_iff.mp hf
  refine ⟨F, ρ, k, o, R, e1, ?_⟩
  cases o with
  | next ρ' k' => exact fun σ' F' H' e R' => ⟨F', ρ', k', out, R', hf, q.mono e⟩
  | ret d k' =>
    cases hf
    exact q
  | retL d k' =>
    cases hf
    exact q
  | brk ρ' k' =>
    cases hf
    exact q
  | cont ρ' k' =>
    cases hf
    exact q
  | exc c k' =>
    cases hf
    exact q
theorem ss_one {f : DS} (h1 : PS X st (tS X.K m F0 H0 W f)) : PSs X [st] (tS X.K m F0 H0 W f) := impPSs (pss_one h1) fun D σ H w => w
theorem ss_freeze (i : Nat) {f : DS} (h : PSs X sts (tS X.K m F0 H0 W f)) : PSs X sts (tS X.K m F0 H0 W (sFreeze i f)) := impPSs h fun D σ H ⟨F, ρ, k, out, R, hf, q⟩ => by
  unfold sFreeze at hf
  split at hf
  · rename_i ds e1
    obtain ⟨p, o, h3, hF, hm, hH, r⟩ := R.rl.ow i _ e1 rfl
    obtain ⟨vs, rfl, r⟩ := r
    have hi : i < ρ.length := (List.getElem?_eq_some_iff.mp e1).1
    have owi : Own ρ σ i p := ⟨_, e1, rfl, h3⟩
    have eF : Ex F (upd F p (.lst vs)) := ex_freeze hF
    have hk : H0 p = none := R.own i p owi
    have back : ∀ j q, Own (ρ.set i (.sh (.list ds))) σ j q → Own ρ σ j q ∧ j ≠ i := fun j q ⟨d, a1, a2, a3⟩ => by
      by_cases z : i = j
      · subst z
        rw [List.getElem?_set_self hi] at a1
        cases a1
        cases a2
      · rw [List.getElem?_set_ne z] at a1
        exact ⟨⟨d, a1, a2, a3⟩, fun e => z e.symm⟩
    refine ⟨upd F p (.lst vs), _, k, out, ⟨?_, R.gr.freeze hk hH, fun j q h => R.own j q (back j q h).1⟩, hf, q.mono eF⟩
    exact {
      sub := fun a u h => by
        by_cases z : a = p
        · subst z
          rw [upd_same] at h
          cases h
          exact hH
        · rw [upd_ne z] at h
          exact R.rl.sub a u h
      ctr := R.rl.ctr.freeze hm
      len := by rw [List.length_set, R.rl.len]
      sh := fun j d h => by
        by_cases z : i = j
        · subst z
          rw [List.getElem?_set_self hi] at h
          cases h
          exact ⟨_, h3, .lst (.inl (.inl upd_same)) (r.mono eF)⟩
        · rw [List.getElem?_set_ne z] at h
          obtain ⟨v, h1, h2⟩ := R.rl.sh j d h
          exact ⟨v, h1, h2.mono eF⟩
      ow := fun j d h hd => by
        by_cases z : i = j
        · subst z
          rw [List.getElem?_set_self hi] at h
          cases h
          cases hd
        · rw [List.getElem?_set_ne z] at h
          obtain ⟨q, u, a1, a2, a3, a4, a5⟩ := R.rl.ow j d h hd
          refine ⟨q, u, a1, ?_, a3, a4, a5.mono eF⟩
          rw [upd_ne (fun e => z (R.rl.sep i j p owi ⟨d, h, hd, by rw [← e]; exact a1⟩))]
          exact a2
      sep := fun a b q x y => R.rl.sep a b q (back a q x).1 (back b q y).1 }
  · exact ⟨F, ρ, k, out, R, hf, q⟩
theorem s_expr {f : DE} (h : PE X e (tE X.K m f)) (hs : swapsWith e none pos.line X.env = pure false := by rfl) : PS X (.Expr e pos) (tS X.K m F0 H0 W (sDrop f)) := impPS (ps_expr h hs) fun D σ H ⟨F, ρ, k, out, R, hf, q⟩ => by
  unfold sDrop at hf
  obtain ⟨⟨d, k1⟩, h1, hf⟩ := Option.bind_eq_some_iff.mp hf
  cases hf
  exact ⟨F, ρ, k, d, k1, R.rl, h1, fun v F' H' g c r => q σ F' H' g.ff (R.grow g c)⟩
theorem s_set (i : Nat) {x : Str} {f : DE} {pos' : Pos} (hN : X.N.Nodup) (h : PE X e (tE X.K m f)) (hi : X.N[i]? = some x := by rfl) (hx : Loc X.env.scope x := by first | exact .inl rfl | exact .inr rfl) (hs : swapsWith e (some (.Name x pos')) pos.line X.env = pure false := by rfl)
    (hf : X.fn x = true ∨ X.env.scope.names.lookup x = some .local := by first | exact .inl rfl | exact .inr rfl | assumption) : PS X (.Assign [.Name x pos'] e pos) (tS X.K m F0 H0 W (sAsg f (gSet i))) := impPS (ps_set hN hi hx h hs hf) fun D σ H ⟨F, ρ, k, out, R, hf, q⟩ => by
  unfold sAsg at hf
  obtain ⟨⟨d, k1⟩, h1, hf⟩ := Option.bind_eq_some_iff.mp hf
  cases hf
  exact ⟨F, ρ, k, d, k1, R.rl, h1, fun v F' H' g c r => q _ F' H' g.ff ⟨(R.rl.grow g c).set_sh r, R.gr.trans R.rl.ctr g, fun j p h => R.own j p (own_set_sh h).1⟩⟩
theorem s_asg {t : List Nat} {g : DG} {f : DE} (h : PE X e (tE X.K m f)) (hg : PG X tg (tGd X.K m t g)) (hs : swapsWithSole [tg] e pos.line X.env = pure false := by rfl) (hw : swappedStores [tg] e X.env = pure none := by rfl)
    (h1 : (assignEach [tg] X.env).map (·.2) = [assign tg X.env] := by rfl) : PS X (.Assign [tg] e pos) (tS X.K m F0 H0 W (sAsg f g)) := impPS (ps_asg h hg hs hw h1) fun D σ H ⟨F, ρ, k, out, R, hf, q⟩ => by
  unfold sAsg at hf
  obtain ⟨⟨d, k1⟩, h1, hf⟩ := Option.bind_eq_some_iff.mp hf
  obtain ⟨ρ', h2, hf⟩ := Option.bind_eq_some_iff.mp hf
  cases hf
  exact ⟨F, ρ, k, d, k1, R.rl, h1, fun v F' H' g c r => ⟨F', ρ, k1, d, ρ', R.rl.grow g c, r, h2, fun σ' R' w1 l1 o1 => q σ' F' H' g.ff ⟨R', R.gr.trans R.rl.ctr g, fun j p h => R.own j p (o1 j p h)⟩⟩⟩
theorem s_setL (i : Nat) {x : Str} {f : DL} {pos' : Pos} (hN : X.N.Nodup) (h : PE X e (tL X.K m f)) (hi : X.N[i]? = some x := by rfl) (hx : Loc X.env.scope x := by first | exact .inl rfl | exact .inr rfl) (hs : swapsWith e (some (.Name x pos')) pos.line X.env = pure false := by rfl)
    (hf : X.fn x = true ∨ X.env.scope.names.lookup x = some .local := by first | exact .inl rfl | exact .inr rfl | assumption) : PS X (.Assign [.Name x pos'] e pos) (tS X.K m F0 H0 W (sSetL i f)) := impPS (ps_set hN hi hx h hs hf) fun D σ H ⟨F, ρ, k, out, R, hf, q⟩ => by
  unfold sSetL at hf
  obtain ⟨⟨d, k1⟩, h1, hf⟩ := Option.bind_eq_some_iff.mp hf
  cases hf
  refine ⟨F, ρ, k, d, k1, R.rl, h1, fun p vs F' H' g c hp fp ho r => q _ F' H' g.ff ⟨(R.rl.grow g c).set_ow rfl fp (R.rl.ctr.ne hp) ho ⟨vs, rfl, r⟩ fun j hj => hj.known R.rl hp, R.gr.trans R.rl.ctr g, fun j q' h => ?_⟩⟩
  rcases own_set_ow h with ⟨_, e⟩ | ⟨_, h⟩
  · cases e
    exact R.fresh hp
  · exact R.own j q' h
theorem s_ret {f : DE} (h : PE X e (tE X.K m f)) : PS X (.Return (some e) pos) (tS X.K m F0 H0 W (sRet f)) := impPS (ps_ret h) fun D σ H ⟨F, ρ, k, out, R, hf, q⟩ => by
  unfold sRet at hf
  obtain ⟨⟨d, k1⟩, h1, hf⟩ := Option.bind_eq_some_iff.mp hf
  cases hf
  exact ⟨F, ρ, k, d, k1, R.rl, h1, fun v F' H' g c r => q v F' H' (R.gr.trans R.rl.ctr g) c r⟩
theorem s_retL {f : DL} (h : PE X e (tL X.K m f)) : PS X (.Return (some e) pos) (tS X.K m F0 H0 W (sRetL f)) := impPS (ps_ret h) fun D σ H ⟨F, ρ, k, out, R, hf, q⟩ => by
  unfold sRetL at hf
  obtain ⟨⟨d, k1⟩, h1, hf⟩ := Option.bind_eq_some_iff.mp hf
  cases hf
  exact ⟨F, ρ, k, d, k1, R.rl, h1, fun p vs F' H' g c hp fp ho r => q p vs F' H' (R.gr.trans R.rl.ctr g) c (R.fresh hp) fp ho r⟩
/-- a list that the def has made and held alone is handed back -/
@[simp] def dOwn (i : Nat) : DL := fun ρ k => match ρ[i]? with
  | some (.ow ds) => some (ds, k)
  | _ => none
theorem s_retO (i : Nat) {x : Str} {pos2 : Pos} (hN : X.N[i]? = some x := by rfl) (hv : Vis X.env.scope x := by first | exact Or.inl rfl | exact Or.inr (Or.inl rfl) | exact Or.inr (Or.inr rfl)) (hd : (x == ("__debug__" : Str)) = false := by decide) (hcd : (x == ("__classdict__" : Str)) = false := by decide) :
    PS X (.Return (some (.Name x pos2)) pos) (tS X.K m F0 H0 W (sRetL (dOwn i))) := impPS (ps_ret (pe_var (i := i) hN hv hd hcd)) fun D σ H ⟨F, ρ, k, out, R, hf, q⟩ => by
  unfold sRetL at hf
  obtain ⟨⟨d, k1⟩, h1, hf⟩ := Option.bind_eq_some_iff.mp hf
  cases hf
  unfold dOwn at h1
  split at h1
  · rename_i ds e1
    cases h1
    obtain ⟨p, o, h3, hF, hm, hH, r⟩ := R.rl.ow i _ e1 rfl
    obtain ⟨vs, rfl, r⟩ := r
    exact ⟨_, h3, q p vs F H R.gr R.rl.ctr (R.own i p ⟨_, e1, rfl, h3⟩) hF hH r⟩
  · cases h1
theorem s_retN : PS X (.Return none pos) (tS X.K m F0 H0 W sRetN) := impPS ps_retN fun D σ H ⟨F, ρ, k, out, R, hf, q⟩ => by
  cases hf
  exact q .non F H R.gr R.rl.ctr .non
theorem s_if {t : DT} {f g : DS} {a b : List Stmt} (hc : PT X c (tT X.K m t)) (ha : PSs X a (tS X.K m F0 H0 W f)) (hb : PSs X b (tS X.K m F0 H0 W g)) : PS X (.If c a b pos) (tS X.K m F0 H0 W (sIf t f g)) := impPS (ps_if hc ha hb) fun D σ H ⟨F, ρ, k, out, R, hf, q⟩ => by
  unfold sIf at hf
  obtain ⟨⟨w, k1⟩, h1, hf⟩ := Option.bind_eq_some_iff.mp hf
  refine ⟨F, ρ, k, w, k1, R.rl, h1, fun F' H' g c => ?_⟩
  cases w with
  | true => exact ⟨F', ρ, k1, out, R.grow g c, hf, q.mono g.ff⟩
  | false => exact ⟨F', ρ, k1, out, R.grow g c, hf, q.mono g.ff⟩
theorem s_break : PS X (.Break pos) (tS X.K m F0 H0 W sBrk) := impPS ps_break fun D σ H ⟨F, ρ, k, out, R, hf, q⟩ => by
  cases hf
  exact q σ F H (Ex.refl F) R
theorem s_cont : PS X (.Continue pos) (tS X.K m F0 H0 W sCont) := impPS ps_continue fun D σ H ⟨F, ρ, k, out, R, hf, q⟩ => by
  cases hf
  exact q σ F H (Ex.refl F) R
theorem s_for {src : DL} {t : List Nat} {g : DG} {f : DS} {body : List Stmt} (hp : PassesOwn (model X.prog X.w) X.A X.env X.xe) (hc : X.calm = true) (hi : PI X tg it (tIS X.K m src)) (hg : PG X tg (tGd X.K m t g)) (hb : PSs X body (tS X.K m F0 H0 W f))
    (hs : ∀ x, foldedSetIterable it X.env x = pure x := by intro _; rfl) : PS X (.For tg it body [] pos) (tS X.K m F0 H0 W (sFor src g f)) := impPS (ps_for hp hc hi hg hb hs) fun D σ H ⟨F, ρ, k, out, R, hf, q⟩ => by
  unfold sFor at hf
  obtain ⟨⟨ds, k1⟩, h1, hf⟩ := Option.bind_eq_some_iff.mp hf
  refine ⟨F, ρ, k, ds, k1, R.rl, h1, fun J F1 H1 g1 c1 fd => ?_⟩
  refine ⟨fun i n σ2 H2 => n + i = ds.length ∧ ∃ F2 ρ2 k2, Ex F1 F2 ∧ Rs X.K m F0 H0 F2 ρ2 k2 σ2 H2 ∧ forLoop g f (ds.drop i) ρ2 k2 = some out, ⟨ds.length, by omega, F1, ρ, k1, Ex.refl _, R.grow g1 c1, hf⟩, fun i n σ2 H2 hW => ?_⟩
  obtain ⟨hn, F2, ρ2, k2, e2, R2, hl⟩ := hW
  cases hds : ds[i]? with
  | none =>
    have hi2 : i = ds.length := by
      have := List.getElem?_eq_none_iff.mp hds
      omega
    subst hi2
    rw [List.drop_length] at hl
    cases hl
    exact .inl ⟨(fd.mono e2).stop F2 H2 (Ex.refl _) R2.rl.sub, q σ2 F2 H2 (g1.ff.trans e2) R2⟩
  | some d =>
    obtain ⟨hgo, hyl⟩ := (fd.mono e2).go F2 H2 i d k2 (Ex.refl _) R2.rl.sub R2.rl.ctr hds
    have hi : i < ds.length := (List.getElem?_eq_some_iff.mp hds).1
    have ed : ds[i] = d := by
      rw [List.getElem?_eq_getElem hi] at hds
      exact Option.some.inj hds
    rw [List.drop_eq_getElem_cons hi, ed] at hl
    unfold forLoop at hl
    obtain ⟨ρ', hgd, hl⟩ := Option.bind_eq_some_iff.mp hl
    obtain ⟨o, hbd, hl⟩ := Option.bind_eq_some_iff.mp hl
    refine .inr ⟨hgo, fun σ' H' => (n - 1) + (i + 1) = ds.length ∧ ∃ F2 ρ2 k2, Ex F1 F2 ∧ Rs X.K m F0 H0 F2 ρ2 k2 σ' H' ∧ forLoop g f (ds.drop (i + 1)) ρ2 k2 = some out, fun σ' H' h => ⟨n - 1, by omega, h⟩, fun x H3 hy => ?_⟩
    obtain ⟨F3, g3, c3, rx⟩ := hyl x H3 hy
    have R3 := R2.grow g3 c3
    refine ⟨F3, ρ2, k2, d, ρ', R3.rl, rx, hgd, fun σ' R' w1 l1 o1 => ?_⟩
    have R4 : Rs X.K m F0 H0 F3 ρ' k2 σ' H3 := ⟨R', R3.gr, fun j p h => R3.own j p (o1 j p h)⟩
    have e13 : Ex F1 F3 := e2.trans g3.ff
    have q3 : Post X.K m F0 H0 W D F3 out := q.mono (g1.ff.trans e13)
    refine ⟨F3, ρ', k2, o, R4, hbd, ?_⟩
    cases o with
    | next ρ4 k4 => exact fun σ4 F4 H4 e4 R5 => ⟨by omega, F4, ρ4, k4, e13.trans e4, R5, hl⟩
    | cont ρ4 k4 => exact fun σ4 F4 H4 e4 R5 => ⟨by omega, F4, ρ4, k4, e13.trans e4, R5, hl⟩
    | brk ρ4 k4 =>
      cases hl
      exact q3
    | ret d4 k4 =>
      cases hl
      exact q3
    | retL d4 k4 =>
      cases hl
      exact q3
    | exc d4 k4 =>
      cases hl
      exact q3
theorem s_while (n : Nat) {t : DT} {f : DS} {body : List Stmt} (hp : PassesOwn (model X.prog X.w) X.A X.env X.xe) (hc : PT X c (tT X.K m t)) (hb : PSs X body (tS X.K m F0 H0 W f)) : PS X (.While c body [] pos) (tS X.K m F0 H0 W (sWhile n t f)) :=
  impPS (ps_while hp hc hb) fun D σ H ⟨F, ρ, k, out, R, hf, q⟩ => by
    refine ⟨fun i σ2 H2 => ∃ F2 ρ2 k2, Ex F F2 ∧ Rs X.K m F0 H0 F2 ρ2 k2 σ2 H2 ∧ whLoop t f i ρ2 k2 = some out, ⟨n, F, ρ, k, Ex.refl _, R, hf⟩, fun i σ2 H2 hW => ?_⟩
    obtain ⟨F2, ρ2, k2, e2, R2, hl⟩ := hW
    cases i with
    | zero => cases hl
    | succ i =>
      unfold whLoop at hl
      obtain ⟨⟨w, k3⟩, htst, hl⟩ := Option.bind_eq_some_iff.mp hl
      refine ⟨F2, ρ2, k2, w, k3, R2.rl, htst, fun F3 H3 g3 c3 => ?_⟩
      have R3 := R2.grow g3 c3
      have e3 := e2.trans g3.ff
      cases w with
      | false =>
        cases hl
        exact q σ2 F3 H3 e3 R3
      | true =>
        replace hl := hl
        obtain ⟨o, hbd, hl⟩ := Option.bind_eq_some_iff.mp (show (f ρ2 k3).bind _ = some out from hl)
        have q3 : Post X.K m F0 H0 W D F3 out := q.mono e3
        refine ⟨fun σ' H' => ∃ F2 ρ2 k2, Ex F F2 ∧ Rs X.K m F0 H0 F2 ρ2 k2 σ' H' ∧ whLoop t f i ρ2 k2 = some out, fun σ' H' h => ⟨i, Nat.lt_succ_self i, h⟩, F3, ρ2, k3, o, R3, hbd, ?_⟩
        cases o with
        | next ρ4 k4 => exact fun σ4 F4 H4 e4 R5 => ⟨F4, ρ4, k4, e3.trans e4, R5, hl⟩
        | cont ρ4 k4 => exact fun σ4 F4 H4 e4 R5 => ⟨F4, ρ4, k4, e3.trans e4, R5, hl⟩
        | brk ρ4 k4 =>
          cases hl
          exact q3
        | ret d4 k4 =>
          cases hl
          exact q3
        | retL d4 k4 =>
          cases hl
          exact q3
        | exc d4 k4 =>
          cases hl
          exact q3
theorem s_par {i j : Nat} {x y : Str} {px py pt : Pos} {kt k2 pt2} {f : DL} (hc : X.calm = true) (hN : X.N.Nodup) (h : PA X [a, b] (tAr X.K m f)) (hi : X.N[i]? = some x) (hj : X.N[j]? = some y) (hij : i ≠ j)
    (hx : X.env.scope.names.lookup x = some .local) (hy : X.env.scope.names.lookup y = some .local)
    (hw : swappedStores [.Tuple [.Name x px, .Name y py] kt pt] (.Tuple [a, b] k2 pt2) X.env = pure (some [x, y]))
    (hs : swapsWithSole [.Tuple [.Name x px, .Name y py] kt pt] (.Tuple [a, b] k2 pt2) pos.line X.env = pure false := by rfl) :
    PS X (.Assign [.Tuple [.Name x px, .Name y py] kt pt] (.Tuple [a, b] k2 pt2) pos) (tS X.K m F0 H0 W (sPar i j f)) := impPS (ps_par hc hN hi hj hij hx hy h hw hs) fun D σ H ⟨F, ρ, k, out, R, hf, q⟩ => by
  unfold sPar at hf
  obtain ⟨⟨ds, k1⟩, h1, hf⟩ := Option.bind_eq_some_iff.mp hf
  cases ds with
  | nil => cases hf
  | cons d1 ds =>
    cases ds with
    | nil => cases hf
    | cons d2 ds =>
      cases ds with
      | cons d3 ds => cases hf
      | nil =>
        cases hf
        refine ⟨F, ρ, k, _, k1, R.rl, h1, fun vs F' H' g c r => ?_⟩
        cases r with
        | cons r1 r =>
          cases r with
          | cons r2 r =>
            cases r
            exact ⟨_, _, rfl, q _ F' H' g.ff ⟨((R.rl.grow g c).set_sh r1).set_sh r2, R.gr.trans R.rl.ctr g, fun j p h => R.own j p (own_set_sh (own_set_sh h).1).1⟩⟩
end
end Dn

set_option Elab.async false
set_option linter.all false
set_option maxRecDepth 100000
set_option maxHeartbeats 1000000
namespace Dn
open PySem PySem.Spec PyProof.Rows L2 Evl

def isCtr : Dt → Bool
  | .dict [(.none, .none)] => true
  | _ => false
theorem isCtr_eq {d : Dt} (h : isCtr d = true) : d = ctrD := by
  unfold isCtr at h
  split at h
  · rfl
  · cases h
/-- the counter's value, by the slot where the counter stands -/
@[simp] def dAt (i : Nat) : DE := fun ρ k => match ρ[i]? with
  | some (.sh d) => if isCtr d = true then some (.int k, k) else none
  | _ => none
@[simp] def sAt (i : Nat) (f : DE) : DS := fun ρ k => match ρ[i]? with
  | some (.sh d) => if isCtr d = true then (f ρ k).bind fun p => (asI p.1).bind fun j => some (.next ρ j) else none
  | _ => none
theorem Rp.isCtr {K : Fr} {m : Option Addr} {F : Hp} {v : V} (r : Rp K m F v ctrD) : ∃ a, v = .ref a ∧ m = some a := Ro.ctr (H := F) (.inl r)
section
variable {X : Cx} {m : Option Addr} {F0 H0 : Hp} {W : WE} {a b c e tg it : Expr} {es : List Expr} {pos : Pos} {st : Stmt} {sts : List Stmt}
/-! a list held alone is changed by one of its methods -/
theorem s_mut (i : Nat) {x : Str} {id : String} {name : Str} {px pa pos2 : Pos} {f : DL} {gd : List Dt → List Dt → Option (List Dt)} {rr : V → List V → Hp → VK → Prop}
    (pat : PlainAttrs "list") (slot : Slot "list" name id) (hty : typeOf (.builtin id) = pure (.type "method_descriptor")) (hm : MtR X id rr)
    (hr : ∀ (F : Hp) (l : Addr) (xs : List V) (ds es args : List Dt) (vs : List V) (H : Hp) (Q : VK), RpA X.K m F xs ds → RpA X.K m F vs args → gd ds args = some es → H l = some (.lst xs) → (∀ ys, RpA X.K m F ys es → Q .non (upd H l (.lst ys))) → rr (.ref l) vs H Q)
    (ha : PA X (e :: es) (tAr X.K m f)) (hN : X.N[i]? = some x := by rfl) (hv : Vis X.env.scope x := by first | exact Or.inl rfl | exact Or.inr (Or.inl rfl) | exact Or.inr (Or.inr rfl)) (hd : (x == ("__debug__" : Str)) = false := by decide) (hcd : (x == ("__classdict__" : Str)) = false := by decide)
    (hbase : attributeBase (.Name x px) name X.env (eval (.Name x px) X.env) = eval (.Name x px) X.env := by rfl)
    (hfew : ((backTo pos2 (starEach (e :: es) X.env)).all (fun x => !x.1) && (backToKw pos2 (keywordEach [] X.env)).all (fun x => x.1.isSome)
      && decide ((e :: es).length + ([] : List Keyword).length + (if ([] : List Keyword).isEmpty then 0 else 1) < 30)) = true := by rfl)
    (hline : (pa.endLine == pos2.line) = true := by rfl) (hst : starEach (e :: es) X.env = (false, eval e X.env) :: starEach es X.env := by rfl) (hpl : (backTo pos2 (starEach es X.env)).any (·.1) = false := by rfl)
    (hs : swapsWith (.Call (.Attribute (.Name x px) name pa) (e :: es) [] pos2) none pos.line X.env = pure false := by rfl) :
    PS X (.Expr (.Call (.Attribute (.Name x px) name pa) (e :: es) [] pos2) pos) (tS X.K m F0 H0 W (sMut i gd f)) :=
  impPS (ps_expr (pe_bm pat slot hty hm (pe_var (i := i) hN hv hd hcd) ha hbase hfew hline hst hpl) hs) fun D σ H ⟨F, ρ, k, out, R, hf, q⟩ => by
    unfold sMut at hf
    obtain ⟨⟨args, k1⟩, h1, hf⟩ := Option.bind_eq_some_iff.mp hf
    cases hc : ρ[i]? with
    | none =>
      rw [hc] at hf
      cases hf
    | some cl =>
      rw [hc] at hf
      cases cl with
      | ow ds =>
        obtain ⟨es', h2, hf⟩ := Option.bind_eq_some_iff.mp hf
        cases hf
        obtain ⟨p, o, h3, hF, hmp, hH, r⟩ := R.rl.ow i _ hc rfl
        obtain ⟨xs, rfl, r⟩ := r
        refine ⟨_, h3, Or.inl ⟨rfl, _, .inl (.inl hH)⟩, F, ρ, k, args, k1, R.rl, h1, fun vs F' H' g c ra => ?_⟩
        refine hr F' p xs ds es' args vs H' _ (r.mono g.ff) ra h2 (g.hh p _ hmp hH) fun ys ry => ?_
        exact q σ F' _ g.ff ((R.grow g c).mut hc rfl h3 rfl ⟨ys, rfl, ry⟩)
      | _ => cases hf
@[simp] def gAppend : List Dt → List Dt → Option (List Dt)
  | ds, [d] => if ds.length < 1000000 then some (ds ++ [d]) else none
  | _, _ => none
theorem r_append {K : Fr} (F : Hp) (l : Addr) (xs : List V) (ds es args : List Dt) (vs : List V) (H : Hp) (Q : VK) (r : RpA K m F xs ds) (ra : RpA K m F vs args) (h : gAppend ds args = some es) (hH : H l = some (.lst xs)) (q : ∀ ys, RpA K m F ys es → Q .non (upd H l (.lst ys))) : rAppend (.ref l) vs H Q := by
  unfold gAppend at h
  split at h
  · split at h
    · cases h
      cases ra with
      | cons r1 rn =>
        cases rn
        exact ⟨l, xs, _, rfl, rfl, hH, by
          rw [r.length]
          exact Nat.lt_of_lt_of_le ‹_› (small_line (Nat.le_refl _)), q _ (r.append (.cons r1 .nil))⟩
    · cases h
  · cases h
theorem s_append (i : Nat) {x : Str} {px pa pos2 : Pos} {f : DE} (he : PE X e (tE X.K m f)) (hN : X.N[i]? = some x := by rfl) (hv : Vis X.env.scope x := by first | exact Or.inl rfl | exact Or.inr (Or.inl rfl) | exact Or.inr (Or.inr rfl)) (hd : (x == ("__debug__" : Str)) = false := by decide) (hcd : (x == ("__classdict__" : Str)) = false := by decide)
    (hbase : attributeBase (.Name x px) "append" X.env (eval (.Name x px) X.env) = eval (.Name x px) X.env := by rfl)
    (hfew : ((backTo pos2 (starEach (e :: []) X.env)).all (fun x => !x.1) && (backToKw pos2 (keywordEach [] X.env)).all (fun x => x.1.isSome)
      && decide ((e :: []).length + ([] : List Keyword).length + (if ([] : List Keyword).isEmpty then 0 else 1) < 30)) = true := by rfl)
    (hline : (pa.endLine == pos2.line) = true := by rfl) (hst : starEach (e :: []) X.env = (false, eval e X.env) :: starEach [] X.env := by rfl) (hpl : (backTo pos2 (starEach [] X.env)).any (·.1) = false := by rfl)
    (hs : swapsWith (.Call (.Attribute (.Name x px) "append" pa) (e :: []) [] pos2) none pos.line X.env = pure false := by rfl) :
    PS X (.Expr (.Call (.Attribute (.Name x px) "append" pa) [e] [] pos2) pos) (tS X.K m F0 H0 W (sMut i gAppend (aCons f aNil))) :=
  s_mut i PySem.F.plainAttrs_list PySem.F.slot_list_append PySem.F.type_list_append mt_append r_append (p_cons he p_nil hst) hN hv hd hcd hbase hfew hline hst hpl hs
/-! the counter -/
theorem e_at (i : Nat) {x : Str} {j : Nat} {px p1 : Pos} (hN : X.N[i]? = some x := by rfl) (hv : Vis X.env.scope x := by first | exact Or.inl rfl | exact Or.inr (Or.inl rfl) | exact Or.inr (Or.inr rfl)) (hd : (x == ("__debug__" : Str)) = false := by decide) (hcd : (x == ("__classdict__" : Str)) = false := by decide) :
    PE X (.Subscript (.Name x px) (.Constant (.int 0) j p1) pos) (tE X.K m (dAt i)) := impPE (pe_ix ix_list (pe_var (i := i) hN hv hd hcd) pe_int (fun _ _ => rfl)) fun σ H Q ⟨F, ρ, k, d, k', R, hf, q⟩ => by
  unfold dAt at hf
  split at hf
  · rename_i d1 e1
    split at hf
    · rename_i hc
      cases hf
      cases isCtr_eq hc
      obtain ⟨v, e2, r⟩ := R.sh i _ e1
      obtain ⟨a, rfl, em⟩ := r.isCtr
      exact ⟨_, e2, a, [.int k], 0, .int k, rfl, rfl, .inl (.inl (R.ctr a em).1), rfl, q _ F H (.refl R.sub) R.ctr (.int k)⟩
    · cases hf
  · cases hf
theorem s_at (i : Nat) {x : Str} {j : Nat} {px p1 p2 : Pos} {f : DE} (h : PE X e (tE X.K m f)) (hN : X.N[i]? = some x := by rfl) (hv : Vis X.env.scope x := by first | exact Or.inl rfl | exact Or.inr (Or.inl rfl) | exact Or.inr (Or.inr rfl)) (hd : (x == ("__debug__" : Str)) = false := by decide) (hcd : (x == ("__classdict__" : Str)) = false := by decide)
    (hs : swapsWithSole [.Subscript (.Name x px) (.Constant (.int 0) j p1) p2] e pos.line X.env = pure false := by rfl) (hw : swappedStores [.Subscript (.Name x px) (.Constant (.int 0) j p1) p2] e X.env = pure none := by rfl)
    (h1 : (assignEach [.Subscript (.Name x px) (.Constant (.int 0) j p1) p2] X.env).map (·.2) = [assign (.Subscript (.Name x px) (.Constant (.int 0) j p1) p2) X.env] := by rfl)
    (ha : ∀ v, assign (.Subscript (.Name x px) (.Constant (.int 0) j p1) p2) X.env v = (do
      let ov ← holding [v] (eval (.Name x px) X.env)
      let iv ← holding [v, ov] (eval (.Constant (.int 0) j p1) X.env)
      standAt p2
      holding [v, ov, iv] (setItem ov iv v)
      release [v, ov, iv] []) := by intro _; rfl) :
    PS X (.Assign [.Subscript (.Name x px) (.Constant (.int 0) j p1) p2] e pos) (tS X.K m F0 H0 W (sAt i f)) := impPS (ps_asg h (pg_sub (pe_var (i := i) hN hv hd hcd) pe_int set_list ha) hs hw h1) fun D σ H ⟨F, ρ, k, out, R, hf, q⟩ => by
  unfold sAt at hf
  split at hf
  · rename_i d1 e1
    split at hf
    · rename_i hc
      cases isCtr_eq hc
      obtain ⟨⟨d, k1⟩, h1, hf⟩ := Option.bind_eq_some_iff.mp hf
      obtain ⟨k2, h2, hf⟩ := Option.bind_eq_some_iff.mp hf
      cases hf
      cases asI_some h2
      refine ⟨F, ρ, k, _, k1, R.rl, h1, fun v F' H' g c r => ?_⟩
      cases r
      have R1 := R.grow g c
      obtain ⟨v, e2, r⟩ := R1.rl.sh i _ e1
      obtain ⟨a, rfl, em⟩ := r.isCtr
      obtain ⟨c1, c2⟩ := c a em
      refine ⟨_, e2, a, [.int k1], 0, 0, rfl, rfl, c1, rfl, q σ F' _ g.ff ⟨?_, ?_, R.own⟩⟩
      · exact {
          sub := fun b u h => by
            rw [upd_ne (ne_of_none h c2)]
            exact R1.rl.sub b u h
          ctr := fun b eb => by
            rw [em] at eb
            cases eb
            exact ⟨upd_same, c2⟩
          len := R1.rl.len
          sh := R1.rl.sh
          ow := fun j c h hc => by
            obtain ⟨p, o, a1, a2, a3, a4, a5⟩ := R1.rl.ow j c h hc
            refine ⟨p, o, a1, a2, a3, ?_, a5⟩
            rw [upd_ne (fun z => a3 (by rw [z]; exact em))]
            exact a4
          sep := R1.rl.sep }
      · exact {
          ff := R1.gr.ff
          fh := fun b u h => by
            rw [upd_ne (ne_of_none h c2)]
            exact R1.gr.fh b u h
          nw := R1.gr.nw
          hh := fun b o hb h => by
            rw [upd_ne (fun z => hb (by rw [z]; exact em))]
            exact R1.gr.hh b o hb h }
    · cases hf
  · cases hf
end

/-! ### a def -/
@[simp] def startE (n : Nat) (ds : List Dt) : Ev := ds.map Cell.sh ++ List.replicate (n - ds.length) .un
theorem startE_get {n : Nat} {ds : List Dt} {i : Nat} {c : Cell} (h : (startE n ds)[i]? = some c) : (∃ d, ds[i]? = some d ∧ c = .sh d) ∨ c = .un := by
  unfold startE at h
  by_cases hi : i < ds.length
  · rw [List.getElem?_append_left (by simpa using hi), List.getElem?_map] at h
    cases e : ds[i]? with
    | none =>
      rw [e] at h
      cases h
    | some d =>
      rw [e] at h
      cases h
      exact .inl ⟨d, rfl, rfl⟩
  · rw [List.getElem?_append_right (by simpa using Nat.le_of_not_lt hi)] at h
    have := List.mem_of_getElem? h
    rw [List.mem_replicate] at this
    exact .inr this.2
theorem startE_ow {n : Nat} {ds : List Dt} {i : Nat} {c : Cell} (h : (startE n ds)[i]? = some c) (hc : c.isOw = true) : False := by
  rcases startE_get h with ⟨d, _, rfl⟩ | rfl <;> cases hc
theorem rl_start {K : Fr} {m : Option Addr} {F H : Hp} {k : Int} {N : List Str} {vs : List V} {ds : List Dt} (e : Ex F H) (c : Ctr m F H k) (r : RpA K m F vs ds) : Rl K m F (startE N.length ds) k (L2.start N vs) H where
  sub := e
  ctr := c
  len := by
    unfold startE L2.start
    simp [r.length]
  sh := fun i d h => by
    rcases startE_get h with ⟨d', h1, h2⟩ | h2
    · cases h2
      obtain ⟨v, hv, rv⟩ := r.get h1
      refine ⟨v, ?_, rv⟩
      unfold L2.start
      have hi := (List.getElem?_eq_some_iff.mp hv).1
      rw [List.getElem?_append_left (by simpa using hi), List.getElem?_map, hv]
      rfl
    · cases h2
  ow := fun i c h hc => (startE_ow h hc).elim
  sep := fun i j p ⟨c, h, hc, _⟩ _ => (startE_ow h hc).elim
/-- what a def gives, by its body -/
@[simp] def dDef (n sl : Nat) (body : DS) : Fn := fun ds k => if ds.length = n then (body (startE sl ds) k).bind fun o => match o with
  | .ret d k' => some (d, k')
  | .retL es k' => some (.list es, k')
  | .next _ k' => some (.none, k')
  | _ => none else none
@[simp] def dDefL (n sl : Nat) (body : DS) : FnL := fun ds k => if ds.length = n then (body (startE sl ds) k).bind fun o => match o with
  | .retL es k' => some (es, k')
  | _ => none else none
section
variable {P : Program} {w : World} {K : Fr} {mg : Str → Option Value} {base : Heap}
theorem fn_D {x qual : Str} {st : Stmt} {f : Addr} {fd : FuncData} {N ps : List Str} {j : Nat} (G : Fun K x qual st f fd) (S : FnScope N ps (defScope st)) (body : DS)
    (hb : ∀ (cdv : Value) (A : Around) (outer : List PySem.Env) (s : Shared) (H : Hp) (E : XK) (m : Option Addr) (F0 : Hp), Room j (A.deeper (envOfC qual (defScope st) s.heap.objs.size f cdv)) →
      PSs (cxOf CX0 P w K mg base N qual (defScope st) f cdv A outer s H E).nox (defBody st) (tS K m F0 H (fun _ _ => False) body)) : FnOk P w K mg base CX0 (j + 1) f fd ps (spD K (dDef ps.length N.length body)) := by
  refine G.ok S (fun vs H Q E h => ?_) (fun cdv A outer s H vs Q E hr h => ?_)
  · obtain ⟨m, F, k, ds, d, k', e, c, r, hf, q⟩ := h
    unfold dDef at hf
    split at hf
    · rw [r.length]
      assumption
    · cases hf
  · obtain ⟨m, F, k, ds, d, k', e, c, r, hf, q⟩ := h
    refine ⟨_, hb cdv A outer s H E m F hr, ?_⟩
    unfold dDef at hf
    split at hf
    · obtain ⟨o, h1, hf⟩ := Option.bind_eq_some_iff.mp hf
      refine ⟨F, _, k, o, ⟨rl_start e c r, .refl e, fun i p ⟨c, h, hc, _⟩ => (startE_ow h hc).elim⟩, h1, ?_⟩
      cases o with
      | ret d' k1 =>
        cases hf
        exact fun v F' H' g c' r' => q v F' H' g c' r'
      | retL es k1 =>
        cases hf
        exact fun p ws F' H' g c' hp fp h' r' => q _ (upd F' p (.lst ws)) H' (g.freeze hp h') (c'.freeze (c.ne hp)) (.lst (.inl (.inl upd_same)) (r'.mono (ex_freeze fp)))
      | next ρ k1 =>
        cases hf
        exact fun σ' F' H' _ R => q .non F' H' R.gr R.rl.ctr .non
      | _ => cases hf
    · cases hf
theorem fn_L {x qual : Str} {st : Stmt} {f : Addr} {fd : FuncData} {N ps : List Str} {j : Nat} (G : Fun K x qual st f fd) (S : FnScope N ps (defScope st)) (body : DS)
    (hb : ∀ (cdv : Value) (A : Around) (outer : List PySem.Env) (s : Shared) (H : Hp) (E : XK) (m : Option Addr) (F0 : Hp), Room j (A.deeper (envOfC qual (defScope st) s.heap.objs.size f cdv)) →
      PSs (cxOf CX0 P w K mg base N qual (defScope st) f cdv A outer s H E).nox (defBody st) (tS K m F0 H (fun _ _ => False) body)) : FnOk P w K mg base CX0 (j + 1) f fd ps (spL K (dDefL ps.length N.length body)) := by
  refine G.ok S (fun vs H Q E h => ?_) (fun cdv A outer s H vs Q E hr h => ?_)
  · obtain ⟨m, F, k, ds, d, k', e, c, r, hf, q⟩ := h
    unfold dDefL at hf
    split at hf
    · rw [r.length]
      assumption
    · cases hf
  · obtain ⟨m, F, k, ds, d, k', e, c, r, hf, q⟩ := h
    refine ⟨_, hb cdv A outer s H E m F hr, ?_⟩
    unfold dDefL at hf
    split at hf
    · obtain ⟨o, h1, hf⟩ := Option.bind_eq_some_iff.mp hf
      refine ⟨F, _, k, o, ⟨rl_start e c r, .refl e, fun i p ⟨c, h, hc, _⟩ => (startE_ow h hc).elim⟩, h1, ?_⟩
      cases o with
      | retL es k1 =>
        cases hf
        exact fun p ws F' H' g c' hp fp h' r' => q p ws F' H' g c' hp fp h' r'
      | _ => cases hf
    · cases hf
/-- a promise by another function that says at least as much -/
theorem spD_imp {f g : Fn} (h : ∀ ds k d k', g ds k = some (d, k') → f ds k = some (d, k')) {vs : List V} {H : Hp} {Q : VK} {E : XK} : spD K g vs H Q E → spD K f vs H Q E := fun ⟨m, F, k, ds, d, k', e, c, r, hf, q⟩ => ⟨m, F, k, ds, d, k', e, c, r, h _ _ _ _ hf, q⟩
end
end Dn

set_option Elab.async false
set_option linter.all false
set_option maxRecDepth 100000
set_option maxHeartbeats 1000000
namespace Dn
open PySem PySem.Spec PyProof.Rows L2 Evl

/-! ### types compared -/
theorem slot_type_ne : Slot "type" (cmpInfo .NotEq).2.1 "object.__ne__" :=
  .of (owner := "object") (n := "__ne__") (by rw [typeLookup_type, builtinLookup_eq_fast]; kernel_rfl) (by decide +kernel) (by decide +kernel) (by decide +kernel)
    (by first | exact .inl (by decide +kernel) | exact .inr (by decide +kernel)) (by rw [isSubtype_type]; kernel_rfl)
theorem slot_type_ne_refl : Slot "type" (cmpInfo .NotEq).2.2 "object.__ne__" :=
  .of (owner := "object") (n := "__ne__") (by rw [typeLookup_type, builtinLookup_eq_fast]; kernel_rfl) (by decide +kernel) (by decide +kernel) (by decide +kernel)
    (by first | exact .inl (by decide +kernel) | exact .inr (by decide +kernel)) (by rw [isSubtype_type]; kernel_rfl)
theorem slot_type_eq' : Slot "type" "__eq__" "object.__eq__" := TypeEq.slot_type_eq
section
variable {prog : Program} {w : World} {A : Around} {E : Value → Shared → Prop} {s : Shared}
theorem objNe_ty {Z Y : String} {Q : Fin → Shared → Prop} (hX : ∀ s' : Shared, s'.TypeIs (.type Z) "type") (h : Q (.done (.ret (if (Value.type Z == Value.type Y) = true then .bool false else .notImplemented))) s) :
    wpAny (model prog w) A (Builtin.«object.__ne__» ⟨[.type Z, .type Y], []⟩) Q E s := by
  unfold Builtin.«object.__ne__»
  by_cases e : (Value.type Z == Value.type Y) = true
  · rw [if_pos e] at h
    repeat (first
      | with_reducible refine wpAny_cRoomFor_byValue rfl ?_
      | (refine wpAny_bind (m := callSpecialIfBound? (.type Z) (Str.ofString "__eq__") [.type Y]) (wpAny_callSpecialIfBound?_slot (hX s) slot_type_eq' (call_gives slot_type_eq' (hX s) F.entry_object_eq (F.args_object_eq_2 _ _) (TypeEq.object_eq_same rfl e) ?_)))
      | exact h
      | exact wpAny_pure h
      | (refine wpAny_bind (m := truthy (.bool _)) (wpAny_truthy_bool ?_))
      | wp_step)
  · rw [if_neg e] at h
    repeat (first
      | with_reducible refine wpAny_cRoomFor_byValue rfl ?_
      | (refine wpAny_bind (m := callSpecialIfBound? (.type Z) (Str.ofString "__eq__") [.type Y]) (wpAny_callSpecialIfBound?_slot (hX s) slot_type_eq' (call_gives slot_type_eq' (hX s) F.entry_object_eq (F.args_object_eq_2 _ _) (TypeEq.object_eq_other rfl (by simpa using e)) ?_)))
      | exact h
      | exact wpAny_pure h
      | (refine wpAny_bind (m := truthy (.bool _)) (wpAny_truthy_bool ?_))
      | wp_step)
theorem call_objNe {Z Y : String} {Q : Value → Shared → Prop} (hX : ∀ s' : Shared, s'.TypeIs (.type Z) "type") (h : Q (if (Value.type Z == Value.type Y) = true then .bool false else .notImplemented) s) :
    wpAny (model prog w) A (call (.builtin "object.__ne__") [.type Z, .type Y]) Q E s :=
  wpAny_call (codeAny_call_builtin slot_type_ne.plain F.cmpEntry_ne (slot_type_ne.check _ _ _ _ _ _ _ _ (hX s) (F.cmpArgs_ne _ _) (objNe_ty hX h)))
theorem beq_comm_ty {Z Y : String} (h : (Value.type Z == Value.type Y) = false) : (Value.type Y == Value.type Z) = false := by
  rw [Bool.eq_false_iff] at h ⊢
  intro e
  exact h (by rw [beq_iff_eq] at e ⊢; exact e.symm)
theorem ne_types {Z Y : String} {Q : Value → Shared → Prop} (hX : ∀ s' : Shared, s'.TypeIs (.type Z) "type") (hY : ∀ s' : Shared, s'.TypeIs (.type Y) "type") (h : Q (.bool (!(Value.type Z == Value.type Y))) s) : wpAny (model prog w) A (compareOp .NotEq (.type Z) (.type Y)) Q E s := by
  show wpAny _ A (richCompare .NotEq _ _) Q E s
  cases e : (Value.type Z == Value.type Y) with
  | true =>
    rw [e] at h
    exact wpAny_richCompare_same (T := "type") (hX s) (hY s) slot_type_ne (call_objNe hX (by rw [if_pos e]; exact ⟨(fun z => nomatch z), h⟩))
  | false =>
    rw [e] at h
    have h2 : ∀ (Q' : Value → Shared → Prop), Q' .notImplemented s → wpAny (model prog w) A (call (.builtin "object.__ne__") [.type Z, .type Y]) Q' E s := fun Q' q => call_objNe hX (by rw [e, if_neg Bool.false_ne_true]; exact q)
    have h3 : ∀ (Q' : Value → Shared → Prop), Q' .notImplemented s → wpAny (model prog w) A (call (.builtin "object.__ne__") [.type Y, .type Z]) Q' E s := fun Q' q => call_objNe hY (by rw [beq_comm_ty e, if_neg Bool.false_ne_true]; exact q)
    rcases hi : cmpInfo CmpOp.NotEq with ⟨sym, f, r⟩
    have h1 := slot_type_ne
    have h1r := slot_type_ne_refl
    rw [hi] at h1 h1r
    simp only [richCompare, hi, (hX s).oneThing_none]
    try with_reducible refine wpAny_holding ?_
    refine wpAny_bind (wpAny_cRoomFor_or (.inl rfl) ?_)
    refine wpAny_bind (wpAny_typeOf (hX s) (wpAny_bind (wpAny_typeOf (hY s) ?_)))
    simp only [bne_self_eq_false, Bool.false_eq_true, if_false, pure_bind, Bool.not_false, if_true]
    refine wpAny_bind (m := tryCompare (.type Z) _ (.type Y)) (wpAny_tryCompare_declines (hX s) h1 (h2 _ ⟨rfl, ?_⟩))
    refine wpAny_bind (m := tryCompare (.type Y) _ (.type Z)) (wpAny_tryCompare_declines (hY s) h1r (h3 _ ⟨rfl, ?_⟩))
    refine wpAny_bind (wpAny_rule (wpAny_bind (wpAny_of_eq (isSame_plain rfl) (wpAny_pure (by rw [e]; exact h)))))
theorem eq_types {Z Y : String} {Q : Value → Shared → Prop} (hX : ∀ s' : Shared, s'.TypeIs (.type Z) "type") (hY : ∀ s' : Shared, s'.TypeIs (.type Y) "type") (h : Q (.bool (Value.type Z == Value.type Y)) s) : wpAny (model prog w) A (compareOp .Eq (.type Z) (.type Y)) Q E s := by
  cases e : (Value.type Z == Value.type Y) with
  | true =>
    rw [e] at h
    rw [beq_iff_eq] at e
    rw [← e]
    exact TypeEq.eq_type_same hX h
  | false =>
    rw [e] at h
    exact TypeEq.eq_type_other hX hY e h
end
end Dn

set_option Elab.async false
set_option linter.all false
set_option maxRecDepth 100000
set_option maxHeartbeats 1000000
namespace Dn
open PySem PySem.Spec PyProof.Rows L2 Evl

/-! ### data that can be compared -/
mutual
theorem Rp.dp {K : Fr} {m : Option Addr} {F : Hp} : ∀ {v : V} {d : Dt}, Rp K m F v d → d.canLay0 = true → Dp K F v d
  | _, _, .non, _ => .non
  | _, _, .bl b, _ => .bl b
  | _, _, .int i, _ => .int i
  | _, _, .str x, _ => .str x
  | _, _, .lst h r, l => .lst h (RpA.dp r (by simpa [PyData.canLay0] using l))
  | _, _, .tup h r, l => .tup h (RpA.dp r (by simpa [PyData.canLay0] using l))
  | _, _, .dK h r, l => by simp [PyData.canLay0] at l
  | _, _, .dT h r, l => by simp [PyData.canLay0] at l
  | _, _, .ctr h, l => by simp [ctrD, PyData.canLay0] at l
theorem RpA.dp {K : Fr} {m : Option Addr} {F : Hp} : ∀ {vs : List V} {ds : List Dt}, RpA K m F vs ds → PyData.canLayAll0 ds = true → DpAll K F vs ds
  | _, _, .nil, _ => .nil
  | _, _, .cons h r, l => by
    rw [PyData.canLayAll0, Bool.and_eq_true] at l
    exact .cons (Rp.dp h l.1) (RpA.dp r l.2)
end
/-- the two ends of an expression's value -/
theorem ro_bl {K : Fr} {m : Option Addr} {F H : Hp} {k : Int} {Q : VK} {b : Bool} {d : Dt} (e : Ex F H) (c : Ctr m F H k) (hd : d = .bool b) (q : ∀ v F' H', Grow m F H F' H' → Ctr m F' H' k → Rp K m F' v d → Q v H') : Q (.bl b) H := by
  subst hd
  exact q _ F H (.refl e) c (.bl b)
def okD (d : Dt) : Bool := SeqAt.shaped d
@[simp] def gEq (x y : Dt) : Option Dt := if okD x = true ∧ okD y = true then some (.bool (PyData.eqv x y)) else none
@[simp] def gNe (x y : Dt) : Option Dt := if okD x = true ∧ okD y = true then some (.bool (!PyData.eqv x y)) else none
section
variable {X : Cx} {m : Option Addr}
theorem ok_eq (hu : X.A.units + 64 < cLine) : OpR X (compareOp .Eq) (roD X.K m gEq) := by
  intro pins s σ H x y v u Q I rx ry ⟨F, k, dx, dy, d, e, c, r1, r2, hg, q⟩
  unfold gEq at hg
  split at hg
  · rename_i h
    cases hg
    exact op_eqD hu pins s σ H x y v u Q I rx ry ⟨dx, dy, (r1.whole e).dp (SeqAt.canLay_of_shaped h.1), (r2.whole e).dp (SeqAt.canLay_of_shaped h.2), h.1, h.2, ro_bl e c rfl q⟩
  · cases hg
theorem ok_ne (hu : X.A.units + 64 < cLine) : OpR X (compareOp .NotEq) (roD X.K m gNe) := by
  intro pins s σ H x y v u Q I rx ry ⟨F, k, dx, dy, d, e, c, r1, r2, hg, q⟩
  unfold gNe at hg
  split at hg
  · rename_i h
    cases hg
    exact op_neD hu pins s σ H x y v u Q I rx ry ⟨dx, dy, (r1.whole e).dp (SeqAt.canLay_of_shaped h.1), (r2.whole e).dp (SeqAt.canLay_of_shaped h.2), h.1, h.2, ro_bl e c rfl q⟩
  · cases hg
end

/-! ### order -/
mutual
def ltD : Dt → Dt → Option Bool
  | .int a, .int b => some (decide (a < b))
  | .str a, .str b => some (decide (a.cps.toList < b.cps.toList))
  | .tuple xs, .tuple ys => ltA xs ys
  | _, _ => none
def ltA : List Dt → List Dt → Option Bool
  | [], [] => some false
  | [], _ :: _ => some true
  | _ :: _, [] => some false
  | x :: xs, y :: ys => (ltA xs ys).bind fun r => if PyData.eqv x y = true then some r else ltD x y
end
mutual
def leD : Dt → Dt → Option Bool
  | .int a, .int b => some (decide (a ≤ b))
  | .str a, .str b => some (!decide (b.cps.toList < a.cps.toList))
  | .tuple xs, .tuple ys => leA xs ys
  | _, _ => none
def leA : List Dt → List Dt → Option Bool
  | [], _ => some true
  | _ :: _, [] => some false
  | x :: xs, y :: ys => (leA xs ys).bind fun r => if PyData.eqv x y = true then some r else leD x y
end
theorem lexAt_shift {e r : Nat → Bool} {z : Bool} : ∀ {n i : Nat}, Ob.lexAt e r z (i + 1) n = Ob.lexAt (fun j => e (j + 1)) (fun j => r (j + 1)) z i n
  | 0, _ => rfl
  | n + 1, i => by
    rw [Ob.lexAt_succ, Ob.lexAt_succ, lexAt_shift]
def eqAtL (xs ys : List Dt) (j : Nat) : Bool := PyData.eqv (xs.getD j .none) (ys.getD j .none)
def opAtL (f : Dt → Dt → Option Bool) (xs ys : List Dt) (j : Nat) : Bool := (f (xs.getD j .none) (ys.getD j .none)).getD false
theorem lex_lt : ∀ (xs ys : List Dt) (k : Bool), ltA xs ys = some k → Ob.lexAt (eqAtL xs ys) (opAtL ltD xs ys) (decide (xs.length < ys.length)) 0 (min xs.length ys.length) = k
  | [], [], k, h => by
    unfold ltA at h
    cases h
    rfl
  | [], _ :: _, k, h => by
    unfold ltA at h
    cases h
    rfl
  | _ :: _, [], k, h => by
    unfold ltA at h
    cases h
    rfl
  | x :: xs, y :: ys, k, h => by
    rw [ltA] at h
    rw [List.length_cons, List.length_cons, Nat.add_min_add_right, Ob.lexAt_succ]
    have e0 : eqAtL (x :: xs) (y :: ys) 0 = PyData.eqv x y := rfl
    have r0 : opAtL ltD (x :: xs) (y :: ys) 0 = (ltD x y).getD false := rfl
    rw [e0, r0]
    obtain ⟨k', h', h⟩ := Option.bind_eq_some_iff.mp h
    by_cases hc : PyData.eqv x y = true
    · rw [if_pos hc] at h
      cases h
      rw [if_pos hc, lexAt_shift, show decide (xs.length + 1 < ys.length + 1) = decide (xs.length < ys.length) by simp]
      exact lex_lt xs ys _ h'
    · rw [if_neg hc] at h
      rw [if_neg hc, h]
      rfl
theorem lex_le : ∀ (xs ys : List Dt) (k : Bool), leA xs ys = some k → Ob.lexAt (eqAtL xs ys) (opAtL leD xs ys) (decide (xs.length ≤ ys.length)) 0 (min xs.length ys.length) = k
  | [], ys, k, h => by
    unfold leA at h
    cases h
    simp [Ob.lexAt]
  | _ :: _, [], k, h => by
    unfold leA at h
    cases h
    rfl
  | x :: xs, y :: ys, k, h => by
    rw [leA] at h
    rw [List.length_cons, List.length_cons, Nat.add_min_add_right, Ob.lexAt_succ]
    have e0 : eqAtL (x :: xs) (y :: ys) 0 = PyData.eqv x y := rfl
    have r0 : opAtL leD (x :: xs) (y :: ys) 0 = (leD x y).getD false := rfl
    rw [e0, r0]
    obtain ⟨k', h', h⟩ := Option.bind_eq_some_iff.mp h
    by_cases hc : PyData.eqv x y = true
    · rw [if_pos hc] at h
      cases h
      rw [if_pos hc, lexAt_shift, show decide (xs.length + 1 ≤ ys.length + 1) = decide (xs.length ≤ ys.length) by simp]
      exact lex_le xs ys _ h'
    · rw [if_neg hc] at h
      rw [if_neg hc, h]
      rfl
theorem readsAll_get {h : Heap} : ∀ {vs : List Value} {ds : List Dt} {as : List Addr} {j : Nat} (hj : j < vs.length), ReadsAll h vs ds as → ∃ bs, Reads h vs[j] (ds.getD j .none) bs
  | _, _, _, 0, _, .cons r _ => ⟨_, r⟩
  | _, _, _, j + 1, hj, .cons _ r => readsAll_get (j := j) (by simpa using hj) r
theorem readsAll_len {h : Heap} : ∀ {vs : List Value} {ds : List Dt} {as : List Addr}, ReadsAll h vs ds as → vs.length = ds.length
  | _, _, _, .nil => rfl
  | _, _, _, .cons _ r => congrArg (· + 1) (readsAll_len r)
theorem lay_get : ∀ {ds : List Dt} {j : Nat}, PyData.canLayAll0 ds = true → (ds.getD j .none).canLay0 = true
  | [], _, _ => by simp [PyData.canLay0]
  | d :: ds, 0, h => by
    rw [PyData.canLayAll0, Bool.and_eq_true] at h
    exact h.1
  | d :: ds, j + 1, h => by
    rw [PyData.canLayAll0, Bool.and_eq_true] at h
    exact lay_get (ds := ds) (j := j) h.2
theorem depth_get : ∀ {ds : List Dt} {j : Nat}, (ds.getD j .none).depth ≤ PyData.depthAll ds
  | [], _ => by simp [PyData.depth]
  | d :: ds, 0 => by
    rw [PyData.depthAll]
    exact Nat.le_max_left _ _
  | d :: ds, j + 1 => by
    rw [PyData.depthAll]
    exact Nat.le_trans (depth_get (ds := ds) (j := j)) (Nat.le_max_right _ _)
theorem ltA_at : ∀ {xs ys : List Dt} {k : Bool}, ltA xs ys = some k → ∀ j, j < xs.length → j < ys.length → eqAtL xs ys j = false → ltD (xs.getD j .none) (ys.getD j .none) = some (opAtL ltD xs ys j)
  | [], _, _, _, _, h1, _, _ => by simp at h1
  | _ :: _, [], _, _, _, _, h2, _ => by simp at h2
  | x :: xs, y :: ys, k, h, 0, _, _, he => by
    rw [ltA] at h
    obtain ⟨k', h', h⟩ := Option.bind_eq_some_iff.mp h
    have e0 : eqAtL (x :: xs) (y :: ys) 0 = PyData.eqv x y := rfl
    rw [e0] at he
    rw [he, if_neg Bool.false_ne_true] at h
    show ltD x y = some ((ltD x y).getD false)
    rw [h]
    rfl
  | x :: xs, y :: ys, k, h, j + 1, h1, h2, he => by
    rw [ltA] at h
    obtain ⟨k', h', h⟩ := Option.bind_eq_some_iff.mp h
    exact ltA_at h' j (by simpa using h1) (by simpa using h2) he
theorem leA_at : ∀ {xs ys : List Dt} {k : Bool}, leA xs ys = some k → ∀ j, j < xs.length → j < ys.length → eqAtL xs ys j = false → leD (xs.getD j .none) (ys.getD j .none) = some (opAtL leD xs ys j)
  | [], _, _, _, _, h1, _, _ => by simp at h1
  | _ :: _, [], _, _, _, _, h2, _ => by simp at h2
  | x :: xs, y :: ys, k, h, 0, _, _, he => by
    rw [leA] at h
    obtain ⟨k', h', h⟩ := Option.bind_eq_some_iff.mp h
    have e0 : eqAtL (x :: xs) (y :: ys) 0 = PyData.eqv x y := rfl
    rw [e0] at he
    rw [he, if_neg Bool.false_ne_true] at h
    show leD x y = some ((leD x y).getD false)
    rw [h]
    rfl
  | x :: xs, y :: ys, k, h, j + 1, h1, h2, he => by
    rw [leA] at h
    obtain ⟨k', h', h⟩ := Option.bind_eq_some_iff.mp h
    exact leA_at h' j (by simpa using h1) (by simpa using h2) he

theorem rc_lt : ∀ (n : Nat) (da db : Dt) (A : Around) (s : Shared) (a b : Value) (as bs : List Addr) (k : Bool), da.depth < n → Reads s.heap a da as → Reads s.heap b db bs → da.canLay0 = true → db.canLay0 = true → A.units + da.depth < cLine → ltD da db = some k → Ob.RcOp .Lt A s a b k
  | 0, _, _, _, _, _, _, _, _, _, hn, _, _, _, _, _, _ => absurd hn (Nat.not_lt_zero _)
  | n + 1, da, db, A, s, a, b, as, bs, k, hn, ra, rb, la, lb, hu, h => by
    cases da with
    | int x =>
      cases db with
      | int y =>
        cases ra
        cases rb
        rw [ltD] at h
        cases h
        exact Ob.RcOp.lt_int _ _ _ _
      | _ => simp [ltD] at h
    | str x =>
      cases db with
      | str y =>
        cases ra
        cases rb
        rw [ltD] at h
        cases h
        exact fun _ _ _ _ q => PySem.P.lt_str q
      | _ => simp [ltD] at h
    | tuple xs =>
      cases db with
      | tuple ys =>
        rw [ltD] at h
        rw [PyData.canLay0] at la lb
        rw [PyData.depth] at hu hn
        cases ra with
        | tuple h1 h2 h3 h4 =>
          cases rb with
          | tuple k1 k2 k3 k4 =>
            rename_i l o vs n1 l' o' vs' n'
            have e1 : vs.size = xs.length := by
              rw [← readsAll_len h4]
              simp
            have e2 : vs'.size = ys.length := by
              rw [← readsAll_len k4]
              simp
            have hg := lex_lt xs ys k h
            rw [← hg, ← e1, ← e2]
            refine Ob.RcOp.tuples_lt ⟨o, h1, h2, n1, h3⟩ ⟨o', k1, k2, n', k3⟩ (by omega) (fun j z1 z2 => ?_) (fun j z1 z2 he => ?_)
            · obtain ⟨as', r1⟩ := readsAll_get (j := j) (by simpa using z1) h4
              obtain ⟨bs', r2⟩ := readsAll_get (j := j) (by simpa using z2) k4
              have d1 := depth_get (ds := xs) (j := j)
              exact SeqAt.eqAt_reads _ _ _ _ _ _ _ _ (by simpa using r1) (by simpa using r2) (lay_get la) (lay_get lb) (by
                show A.units + 1 + _ < _
                omega)
            · obtain ⟨as', r1⟩ := readsAll_get (j := j) (by simpa using z1) h4
              obtain ⟨bs', r2⟩ := readsAll_get (j := j) (by simpa using z2) k4
              have d1 := depth_get (ds := xs) (j := j)
              exact rc_lt n _ _ _ _ _ _ _ _ _ (by omega) (by simpa using r1) (by simpa using r2) (lay_get la) (lay_get lb) (by
                show A.units + 1 + _ < _
                omega) (ltA_at h j (by omega) (by omega) he)
      | _ => simp [ltD] at h
    | _ => simp [ltD] at h
theorem rc_le : ∀ (n : Nat) (da db : Dt) (A : Around) (s : Shared) (a b : Value) (as bs : List Addr) (k : Bool), da.depth < n → Reads s.heap a da as → Reads s.heap b db bs → da.canLay0 = true → db.canLay0 = true → A.units + da.depth < cLine → leD da db = some k → Ob.RcOp .LtE A s a b k
  | 0, _, _, _, _, _, _, _, _, _, hn, _, _, _, _, _, _ => absurd hn (Nat.not_lt_zero _)
  | n + 1, da, db, A, s, a, b, as, bs, k, hn, ra, rb, la, lb, hu, h => by
    cases da with
    | int x =>
      cases db with
      | int y =>
        cases ra
        cases rb
        rw [leD] at h
        cases h
        exact Ob.RcOp.le_int _ _ _ _
      | _ => simp [leD] at h
    | str x =>
      cases db with
      | str y =>
        cases ra
        cases rb
        rw [leD] at h
        cases h
        exact fun _ _ _ _ q => PySem.P.le_str q
      | _ => simp [leD] at h
    | tuple xs =>
      cases db with
      | tuple ys =>
        rw [leD] at h
        rw [PyData.canLay0] at la lb
        rw [PyData.depth] at hu hn
        cases ra with
        | tuple h1 h2 h3 h4 =>
          cases rb with
          | tuple k1 k2 k3 k4 =>
            rename_i l o vs n1 l' o' vs' n'
            have e1 : vs.size = xs.length := by
              rw [← readsAll_len h4]
              simp
            have e2 : vs'.size = ys.length := by
              rw [← readsAll_len k4]
              simp
            have hg := lex_le xs ys k h
            rw [← hg, ← e1, ← e2]
            refine Ob.RcOp.tuples_le ⟨o, h1, h2, n1, h3⟩ ⟨o', k1, k2, n', k3⟩ (by omega) (fun j z1 z2 => ?_) (fun j z1 z2 he => ?_)
            · obtain ⟨as', r1⟩ := readsAll_get (j := j) (by simpa using z1) h4
              obtain ⟨bs', r2⟩ := readsAll_get (j := j) (by simpa using z2) k4
              have d1 := depth_get (ds := xs) (j := j)
              exact SeqAt.eqAt_reads _ _ _ _ _ _ _ _ (by simpa using r1) (by simpa using r2) (lay_get la) (lay_get lb) (by
                show A.units + 1 + _ < _
                omega)
            · obtain ⟨as', r1⟩ := readsAll_get (j := j) (by simpa using z1) h4
              obtain ⟨bs', r2⟩ := readsAll_get (j := j) (by simpa using z2) k4
              have d1 := depth_get (ds := xs) (j := j)
              exact rc_le n _ _ _ _ _ _ _ _ _ (by omega) (by simpa using r1) (by simpa using r2) (lay_get la) (lay_get lb) (by
                show A.units + 1 + _ < _
                omega) (leA_at h j (by omega) (by omega) he)
      | _ => simp [leD] at h
    | _ => simp [leD] at h

@[simp] def gLt (x y : Dt) : Option Dt := if okD x = true ∧ okD y = true then (ltD x y).map .bool else none
@[simp] def gLe (x y : Dt) : Option Dt := if okD x = true ∧ okD y = true then (leD x y).map .bool else none
section
variable {X : Cx} {m : Option Addr}
theorem ok_lt (hu : X.A.units + 64 < cLine) : OpR X (compareOp .Lt) (roD X.K m gLt) := by
  intro pins s σ H x y v u Q I rx ry ⟨F, k, dx, dy, d, e, c, r1, r2, hg, q⟩
  unfold gLt at hg
  split at hg
  · rename_i h
    cases hl : ltD dx dy with
    | none =>
      rw [hl] at hg
      cases hg
    | some b =>
      rw [hl] at hg
      cases hg
      obtain ⟨as, q1⟩ := Dp.reads I dx x v ((r1.whole e).dp (SeqAt.canLay_of_shaped h.1)) rx
      obtain ⟨bs, q2⟩ := Dp.reads I dy y u ((r2.whole e).dp (SeqAt.canLay_of_shaped h.2)) ry
      have hdp := SeqAt.depth_of_shaped h.1
      exact rc_lt _ _ _ X.A _ _ _ _ _ _ (Nat.lt_succ_self _) q1 q2 (SeqAt.canLay_of_shaped h.1) (SeqAt.canLay_of_shaped h.2) (by omega) hl X.prog X.w X.xe (EP X pins σ Q) ⟨.bl b, H, I, rfl, ro_bl e c rfl q⟩
  · cases hg
theorem ok_le (hu : X.A.units + 64 < cLine) : OpR X (compareOp .LtE) (roD X.K m gLe) := by
  intro pins s σ H x y v u Q I rx ry ⟨F, k, dx, dy, d, e, c, r1, r2, hg, q⟩
  unfold gLe at hg
  split at hg
  · rename_i h
    cases hl : leD dx dy with
    | none =>
      rw [hl] at hg
      cases hg
    | some b =>
      rw [hl] at hg
      cases hg
      obtain ⟨as, q1⟩ := Dp.reads I dx x v ((r1.whole e).dp (SeqAt.canLay_of_shaped h.1)) rx
      obtain ⟨bs, q2⟩ := Dp.reads I dy y u ((r2.whole e).dp (SeqAt.canLay_of_shaped h.2)) ry
      have hdp := SeqAt.depth_of_shaped h.1
      exact rc_le _ _ _ X.A _ _ _ _ _ _ (Nat.lt_succ_self _) q1 q2 (SeqAt.canLay_of_shaped h.1) (SeqAt.canLay_of_shaped h.2) (by omega) hl X.prog X.w X.xe (EP X pins σ Q) ⟨.bl b, H, I, rfl, ro_bl e c rfl q⟩
  · cases hg
end
end Dn

set_option Elab.async false
set_option linter.all false
set_option maxRecDepth 100000
set_option maxHeartbeats 1000000
namespace Dn
open PySem PySem.Spec PyProof.Rows L2 Evl

theorem ro_int {K : Fr} {m : Option Addr} {F H : Hp} {k : Int} {Q : VK} {b : Int} {d : Dt} (e : Ex F H) (c : Ctr m F H k) (hd : d = .int b) (q : ∀ v F' H', Grow m F H F' H' → Ctr m F' H' k → Rp K m F' v d → Q v H') : Q (.int b) H := by
  subst hd
  exact q _ F H (.refl e) c (.int b)
theorem ro_str {K : Fr} {m : Option Addr} {F H : Hp} {k : Int} {Q : VK} {b : Str} {d : Dt} (e : Ex F H) (c : Ctr m F H k) (hd : d = .str b) (q : ∀ v F' H', Grow m F H F' H' → Ctr m F' H' k → Rp K m F' v d → Q v H') : Q (.str b) H := by
  subst hd
  exact q _ F H (.refl e) c (.str b)
theorem ro_tup {K : Fr} {m : Option Addr} {F H : Hp} {k : Int} {Q : VK} {vs : List V} {ds : List Dt} {d : Dt} (e : Ex F H) (c : Ctr m F H k) (r : RpA K m F vs ds) (hd : d = .tuple ds) (q : ∀ v F' H', Grow m F H F' H' → Ctr m F' H' k → Rp K m F' v d → Q v H') {p : Addr} (hp : H p = none) : Q (.ref p) (upd H p (.tup vs)) := by
  subst hd
  obtain ⟨z1, z2, z3⟩ := new_tup e c r hp
  exact q _ _ _ z1 z2 z3

@[simp] def gAdd : Dt → Dt → Option Dt
  | .int a, .int b => some (.int (a + b))
  | .str a, .str b => if a.length + b.length ≤ 1000000 then some (.str (a ++ b)) else none
  | .tuple xs, .tuple ys => if xs.length + ys.length ≤ 1000000 then some (.tuple (xs ++ ys)) else none
  | _, _ => none
@[simp] def gCat : Dt → Dt → Option (List Dt)
  | .list xs, .list ys => if xs.length + ys.length ≤ 1000000 then some (xs ++ ys) else none
  | _, _ => none
@[simp] def gSub : Dt → Dt → Option Dt
  | .int a, .int b => some (.int (a - b))
  | _, _ => none
def repStr (x : Str) (n : Nat) : Str := ⟨(List.replicate n x.cps).foldl (· ++ ·) #[]⟩
@[simp] def gMul : Dt → Dt → Option Dt
  | .int a, .int b => if (-(2 ^ 64) < a ∧ a < 2 ^ 64) ∨ (-(2 ^ 64) < b ∧ b < 2 ^ 64) then some (.int (a * b)) else none
  | .str x, .int n => if 0 ≤ n ∧ n ≤ 1000 ∧ x.length ≤ 1000 then some (.str (repStr x n.toNat)) else none
  | _, _ => none
@[simp] def gRep : Dt → Dt → Option (List Dt)
  | .list xs, .int n => if 0 ≤ n ∧ n ≤ 1000 ∧ xs.length ≤ 1000 then some (List.replicate n.toNat xs).flatten else none
  | _, _ => none
@[simp] def gMod : Dt → Dt → Option Dt
  | .int a, .int b => if 0 < b then some (.int (a % b)) else none
  | _, _ => none
@[simp] def gFdiv : Dt → Dt → Option Dt
  | .int a, .int b => if 0 < b ∧ b < 1073741824 then some (.int (a / b)) else none
  | _, _ => none
@[simp] def gNeg : Dt → Option Dt
  | .int a => some (.int (-a))
  | _ => none
section
variable {X : Cx} {m : Option Addr}
theorem ok_add : OpR X (binaryOp .Add) (roD X.K m gAdd) := by
  intro pins s σ H x y v u Q I rx ry ⟨F, k, dx, dy, d, e, c, r1, r2, hg, q⟩
  unfold gAdd at hg
  split at hg
  · cases hg
    exact op_add pins s σ H x y v u Q I rx ry ⟨_, _, r1.int, r2.int, ro_int e c rfl q⟩
  · split at hg
    · cases hg
      exact op_add_str pins s σ H x y v u Q I rx ry ⟨_, _, r1.str, r2.str, small_line ‹_›, ro_str e c rfl q⟩
    · cases hg
  · split at hg
    · rename_i hl
      cases hg
      obtain ⟨a, xs, rfl, h1, q1⟩ := r1.tup
      obtain ⟨b, ys, rfl, h2, q2⟩ := r2.tup
      refine op_catA pins s σ H _ _ v u Q I rx ry ⟨a, b, xs, ys, rfl, rfl, ex_t e h1, ex_t e h2, by rw [q1.length, q2.length]; exact small_line hl, fun z => ?_, fun _ z => ?_, fun _ _ p hp => ?_⟩
      · subst z
        cases q1
        exact q _ F H (.refl e) c (.tup h2 q2)
      · subst z
        cases q2
        rw [List.append_nil] at q
        exact q _ F H (.refl e) c (.tup h1 q1)
      · exact ro_tup e c (q1.append q2) rfl q hp
    · cases hg
  · cases hg
theorem ok_sub : OpR X (binaryOp .Sub) (roD X.K m gSub) := by
  intro pins s σ H x y v u Q I rx ry ⟨F, k, dx, dy, d, e, c, r1, r2, hg, q⟩
  unfold gSub at hg
  split at hg
  · cases hg
    exact op_sub pins s σ H x y v u Q I rx ry ⟨_, _, r1.int, r2.int, ro_int e c rfl q⟩
  · cases hg
theorem foldl_arr (a : Array Nat) : ∀ (n : Nat) (acc : Array Nat), acc.size + a.size * n = ((List.replicate n a).foldl (· ++ ·) acc).size
  | 0, acc => by simp
  | n + 1, acc => by
    rw [List.replicate_succ, List.foldl_cons, ← foldl_arr a n (acc ++ a), Array.size_append, Nat.mul_succ]
    omega
theorem ok_mul : OpR X (binaryOp .Mult) (roD X.K m gMul) := by
  intro pins s σ H x y v u Q I rx ry ⟨F, k, dx, dy, d, e, c, r1, r2, hg, q⟩
  unfold gMul at hg
  split at hg
  · split at hg
    · cases hg
      exact op_mul pins s σ H x y v u Q I rx ry ⟨_, _, r1.int, r2.int, ‹_›, ro_int e c rfl q⟩
    · cases hg
  · rename_i z n
    split at hg
    · rename_i hb
      cases hg
      have ex := r1.str
      have ey := r2.int
      subst ex ey
      obtain ⟨t, rfl⟩ := rx
      obtain ⟨t', rfl⟩ := ry
      have hq : ∀ (w : Str) (tk : Tok) (s' : Shared), w = ⟨(List.replicate n.toNat z.cps).foldl (· ++ ·) #[]⟩ → Inv X pins σ H s' → EP X pins σ Q (.str w tk) s' := fun w tk s' ew I' => by
        subst ew
        exact ⟨.str _, H, I', ⟨_, rfl⟩, ro_str e c rfl q⟩
      refine PySem.P.mul_str ?_ (fun h1 _ => ?_) (fun h1 _ => ?_) ?_
      · rw [decide_eq_false (by omega), decide_eq_false (by omega)]
        rfl
      · have h5 : z.length * n.toNat ≤ 1000 * 1000 := Nat.mul_le_mul hb.2.2 (by omega)
        have h7 : (z.length : Int) * n = ((z.length * n.toNat : Nat) : Int) := by
          rw [Int.natCast_mul, Int.toNat_of_nonneg hb.1]
        have h8 : (z.length : Int) ≤ (2 ^ 63 - 1) / n := Int.le_ediv_of_mul_le (by omega) (by
          rw [h7]
          omega)
        omega
      · have h5 : z.length * n.toNat ≤ 1000 * 1000 := Nat.mul_le_mul hb.2.2 (by omega)
        have h6 : z.length * n.toNat ≤ sizeLine := small_line h5
        unfold PySem.Builtin.Str.tooLong
        simpa using h6
      · by_cases h1 : n < 1
        · rw [if_pos h1]
          have hn : n.toNat = 0 := by omega
          refine ⟨by decide, hq _ _ _ ?_ (I.tok _)⟩
          rw [hn]
          rfl
        · rw [if_neg h1]
          by_cases h2 : (n == 1 || z.length == 0) = true
          · rw [if_pos h2]
            refine hq _ _ _ ?_ I
            rw [Bool.or_eq_true, beq_iff_eq, beq_iff_eq] at h2
            rcases h2 with h2 | h2
            · subst h2
              simp
            · have hz : z.cps = #[] := Array.eq_empty_of_size_eq_zero h2
              rw [hz]
              have : ((List.replicate n.toNat (#[] : Array Nat)).foldl (· ++ ·) #[]) = #[] := Array.eq_empty_of_size_eq_zero (by rw [← foldl_arr]; simp)
              rw [this]
              cases z
              simp at hz
              rw [hz]
          · rw [if_neg h2]
            refine ⟨?_, hq _ _ _ rfl (I.tok _)⟩
            have h5 : z.length * n.toNat ≤ 1000 * 1000 := Nat.mul_le_mul hb.2.2 (by omega)
            show ((List.replicate n.toNat z.cps).foldl (· ++ ·) #[]).size ≤ sizeLine
            rw [← foldl_arr]
            refine small_line (Nat.le_trans ?_ h5)
            simp [Str.length]
    · cases hg
  · cases hg
theorem ok_mod : OpR X (binaryOp .Mod) (roD X.K m gMod) := by
  intro pins s σ H x y v u Q I rx ry ⟨F, k, dx, dy, d, e, c, r1, r2, hg, q⟩
  unfold gMod at hg
  split at hg
  · split at hg
    · cases hg
      exact op_mod pins s σ H x y v u Q I rx ry ⟨_, _, r1.int, r2.int, ‹_›, ro_int e c rfl q⟩
    · cases hg
  · cases hg
theorem ok_fdiv : OpR X (binaryOp .FloorDiv) (roD X.K m gFdiv) := by
  intro pins s σ H x y v u Q I rx ry ⟨F, k, dx, dy, d, e, c, r1, r2, hg, q⟩
  unfold gFdiv at hg
  split at hg
  · split at hg
    · cases hg
      exact op_fdiv pins s σ H x y v u Q I rx ry ⟨_, _, r1.int, r2.int, ‹_›, ro_int e c rfl q⟩
    · cases hg
  · cases hg
theorem ok_neg : UnR X (unaryOp .USub) (ruD X.K m gNeg) := by
  intro pins s σ H x v Q I rx ⟨F, k, dx, d, e, c, r1, hg, q⟩
  unfold gNeg at hg
  split at hg
  · cases hg
    exact un_neg pins s σ H x v Q I rx ⟨_, r1.int, ro_int e c rfl q⟩
  · cases hg
/-- xs + ys, lists that are read -/
theorem ok_cat : OpR X (binaryOp .Add) (rlD X.K m gCat) := by
  intro pins s σ H x y v u Q I rx ry ⟨F, k, dx, dy, ds, e, c, r1, r2, hg, q⟩
  unfold gCat at hg
  split at hg
  · split at hg
    · rename_i hl
      cases hg
      obtain ⟨a, xs, rfl, h1, q1⟩ := r1.lst e
      obtain ⟨b, ys, rfl, h2, q2⟩ := r2.lst e
      cases rx
      cases ry
      obtain ⟨its, rv, ⟨⟨cls, dd, data, sl⟩, n, ho, hc, hd, hda⟩, hz⟩ := I.list h1
      obtain ⟨its2, rv2, ⟨⟨cls2, dd2, data2, sl2⟩, n2, ho2, hc2, hd2, hda2⟩, hz2⟩ := I.list h2
      simp only at hc hda hc2 hda2
      subst hc hda hc2 hda2
      have hsz : xs.length + ys.length ≤ 1000000 := by rw [q1.length, q2.length]; exact hl
      refine concat_meets ⟨_, ho, rfl⟩ ⟨_, ho2, rfl⟩ noFill_list_add seq_list_add PySem.F.slot_list_add PySem.F.entry_list_add (PySem.F.args_list_add_2 _ _) (PyProof.Rows.list_addW a b its.toArray its2.toArray n n2 dd dd2 sl sl2 (by rw [List.size_toArray, List.size_toArray, ← rv.length, ← rv2.length]; exact small_line hsz)) ⟨ho, ho2, ?_⟩
      have ea : its.toArray ++ its2.toArray = (its ++ its2).toArray := by simp
      rw [ea]
      exact ⟨.ref _, _, I.lnew (t' := s.toks) (rv.append rv2) (by rw [List.length_append]; exact small_line hsz), rfl, q _ _ _ I.fresh rfl (q1.append q2)⟩
    · cases hg
  · cases hg
end
end Dn

set_option Elab.async false
set_option linter.all false
set_option maxRecDepth 100000
set_option maxHeartbeats 1000000
namespace Dn
open PySem PySem.Spec PyProof.Rows L2 Evl

@[simp] def tyD : Dt → String
  | .none => "NoneType"
  | .bool _ => "bool"
  | .int _ => "int"
  | .str _ => "str"
  | .list _ => "list"
  | .tuple _ => "tuple"
  | .dict _ => "dict"
theorem tyD_nb (d : Dt) : (Value.type (tyD d) == Value.type "builtin_function_or_method") = false := beq_eq_false_iff_ne.mpr fun z => by
  injection z with z
  cases d <;> simp [tyD] at z
theorem tyX_of {K : Fr} {m : Option Addr} {F H : Hp} {v : V} {d : Dt} (e : Ex F H) (r : Ro K m F H v d) (hc : isCtr d = false) : TyX K H v (.type (tyD d)) := by
  have w := r.whole e
  cases w with
  | non => exact .base .non
  | bl b => exact .base (.bl b)
  | int i => exact .base (.int i)
  | str x => exact .base (.str x)
  | lst h _ =>
    rcases h with (h | ⟨o, h⟩) | ⟨o, its, n, h1, h2, _⟩
    · exact .base (.lst h)
    · exact .base (.frz h)
    · exact .kList h1 h2
  | tup h _ =>
    rcases h with (h | ⟨o, h⟩) | ⟨o, its, n, h1, h2, _⟩
    · exact .base (.tup h)
    · exact .fTuple h
    · exact .kTuple h1 h2
  | dK h _ => exact .base (.dK h)
  | dT h _ => exact .base (.dT h)
  | ctr h => cases hc
@[simp] def gIsi (T : String) (d : Dt) : Option Dt := if isCtr d = true then none else (kitB (tyD d) T).map .bool
@[simp] def gTyEq (T : String) (d : Dt) : Option Dt := if isCtr d = true then none else some (.bool (tyD d == T))
@[simp] def gTyNe (T : String) (d : Dt) : Option Dt := if isCtr d = true then none else some (.bool (!(tyD d == T)))
section
variable {X : Cx} {m : Option Addr} {a b c e : Expr} {es : List Expr} {pos : Pos}
theorem e_isi {T : String} {x : Str} {p1 p2 : Pos} {f : DE} (h : PE X e (tO X.K m f)) (hm : X.mg "isinstance" = none) (hm2 : X.mg x = none) (hv2 : bootBuiltins x = some (.type T)) (hg : Gl X "isinstance" := by rfl) (hg2 : Gl X x := by rfl)
    (hn2 : x ≠ "__name__" := by decide) (hd2 : (x == ("__debug__" : Str)) = false := by decide) (hv : bootBuiltins "isinstance" = some (.builtin "isinstance") := by decide +kernel)
    (hs1 : starEach [.Name x p2] X.env = (false, eval (.Name x p2) X.env) :: starEach [] X.env := by rfl) (hs : starEach [e, .Name x p2] X.env = (false, eval e X.env) :: starEach [.Name x p2] X.env := by rfl) (hpl : (backTo pos (starEach [.Name x p2] X.env)).any (·.1) = false := by rfl) :
    PE X (.Call (.Name "isinstance" p1) [e, .Name x p2] [] pos) (tE X.K m (dU (gIsi T) f)) := impPE (pe_callB call_isi hg hm hv (pa_cons h (pa_cons (pe_bltn (v := .ty T) hg2 hm2 hv2 rfl hn2 hd2) pa_nil hs1) hs) (by decide) (by decide) hs hpl) fun σ H Q ⟨F, ρ, k, d, k', R, hf, q⟩ => by
  unfold dU at hf
  obtain ⟨⟨x, k1⟩, h1, hf⟩ := Option.bind_eq_some_iff.mp hf
  obtain ⟨z, h3, hf⟩ := Option.bind_eq_some_iff.mp hf
  cases hf
  unfold gIsi at h3
  split at h3
  · cases h3
  · rename_i hc
    cases hk : kitB (tyD x) T with
    | none =>
      rw [hk] at h3
      cases h3
    | some b =>
      rw [hk] at h3
      cases h3
      exact ⟨F, ρ, k, x, k1, R, h1, fun v F' H' g c r => ⟨v, .ty T, .type (tyD x), .type T, b, rfl, .ty T, tyX_of g.fh r (by simpa using hc), kit_ty hk, q _ F' H' g c (.bl b)⟩⟩
/-- type(x), of data -/
theorem type_of {K : Fr} {pins : List (Addr × Obj)} {σ : L2.St} {H F : Hp} {s : Shared} {v : V} {u : Value} {d : Dt} (I : Inv X pins σ H s) (rx : RelV v u) (e : Ex F H) (r : Ro X.K m F H v d) (hc : isCtr d = false) : s.TypeIs u (tyD d) ∧ (Value.type (tyD d) == Value.type "builtin_function_or_method") = false := by
  have w := r.whole e
  cases w with
  | non =>
    cases rx
    exact ⟨rfl, tyD_nb _⟩
  | bl b =>
    cases rx
    exact ⟨rfl, tyD_nb _⟩
  | int i =>
    obtain ⟨k, rfl⟩ := rx
    exact ⟨typeIs_int s i k, tyD_nb _⟩
  | str x =>
    obtain ⟨k, rfl⟩ := rx
    exact ⟨typeIs_str s x k, tyD_nb _⟩
  | lst h _ =>
    cases rx
    obtain ⟨its, rv, p, _⟩ := I.list h
    exact ⟨p.isList.typeIs, tyD_nb _⟩
  | tup h _ =>
    cases rx
    obtain ⟨its, rv, p, _⟩ := I.tuple h
    exact ⟨p.typeIs, tyD_nb _⟩
  | @dK a kvs ds ea h =>
    cases (show u = Value.ref a from rx)
    obtain ⟨_, _, vs, _, o, es, ep, h1, h2, _⟩ := (show ObjOk X.prog X.w H s.heap a (.dK kvs) from I.hok a _ ea)
    exact ⟨⟨o, h1, h2.1⟩, tyD_nb _⟩
  | @dT a kvs ds ea h =>
    cases (show u = Value.ref a from rx)
    obtain ⟨_, _, xs, _, o, es, ep, h1, h2, _⟩ := (show ObjOk X.prog X.w H s.heap a (.dT kvs) from I.hok a _ ea)
    exact ⟨⟨o, h1, h2.1⟩, tyD_nb _⟩
  | ctr h => cases hc
def tyNames : List String := ["int", "str", "bool", "NoneType", "list", "tuple", "dict"]
theorem meta_of {T : String} (h : T ∈ tyNames) : ∀ s' : Shared, s'.TypeIs (.type T) "type" := by
  intro s'
  simp only [tyNames, List.mem_cons, List.not_mem_nil, or_false] at h
  rcases h with rfl | rfl | rfl | rfl | rfl | rfl | rfl
  · exact TypeEq.meta_int s'
  · exact TypeEq.meta_str s'
  · exact TypeEq.meta_bool s'
  · exact TypeEq.meta_NoneType s'
  · exact TypeEq.meta_list s'
  · exact TypeEq.meta_tuple s'
  · exact TypeEq.meta_dict s'
theorem tyD_mem (d : Dt) : tyD d ∈ tyNames := by cases d <;> simp [tyD, tyNames]
theorem tybeq {a b : String} : (Value.type a == Value.type b) = (a == b) := by
  by_cases h : a = b
  · subst h
    rw [beq_self_eq_true, beq_self_eq_true]
  · have h1 : (a == b) = false := beq_eq_false_iff_ne.mpr h
    have h2 : (Value.type a == Value.type b) = false := beq_eq_false_iff_ne.mpr fun z => h (by injection z)
    rw [h1, h2]
/-- the type of a value, as a value -/
def rTyp (K : Fr) (m : Option Addr) : List V → Hp → VK → Prop := fun xs H Q => ∃ F x d, xs = [x] ∧ Ex F H ∧ Ro K m F H x d ∧ isCtr d = false ∧ Q (.ty (tyD d)) H
theorem call_typ : CallR X (.type "type") (rTyp X.K m) := by
  intro pins s σ H xs us Q I r ⟨F, x, d, ex, e, rx, hc, q⟩
  subst ex
  obtain ⟨u, rfl, ru⟩ := vals1 r
  obtain ⟨h1, h2⟩ := type_of (K := X.K) I ru e rx hc
  exact call_type_of h1 h2 ⟨.ty (tyD d), H, I, rfl, q⟩
def rTyC (neg : Bool) : R2 := fun x y H Q => ∃ S T, x = .ty S ∧ y = .ty T ∧ S ∈ tyNames ∧ T ∈ tyNames ∧ Q (.bl (if neg = true then !(S == T) else S == T)) H
theorem op_tyEq : OpR X (compareOp .Eq) (rTyC false) := by
  intro pins s σ H x y v u Q I rx ry ⟨S, T, ex, ey, hS, hT, q⟩
  subst ex ey
  cases rx
  cases ry
  exact eq_types (meta_of hS) (meta_of hT) ⟨.bl (S == T), H, I, by rw [tybeq]; rfl, q⟩
theorem op_tyNe : OpR X (compareOp .NotEq) (rTyC true) := by
  intro pins s σ H x y v u Q I rx ry ⟨S, T, ex, ey, hS, hT, q⟩
  subst ex ey
  cases rx
  cases ry
  exact ne_types (meta_of hS) (meta_of hT) ⟨.bl (!(S == T)), H, I, by rw [tybeq]; rfl, q⟩
theorem tyc_in {K : Fr} {neg : Bool} {T : String} (hT : T ∈ tyNames) {f : DE} {σ : L2.St} {H : Hp} {Q : VK} (w : tE K m (dU (if neg = true then gTyNe T else gTyEq T) f) σ H Q) : tOp (rTyC neg) (tCB (rTyp K m) (tCons (tO K m f) tNil)) (tC (.ty T)) σ H Q := by
  obtain ⟨F, ρ, k, d, k', R, hf, q⟩ := w
  unfold dU at hf
  obtain ⟨⟨x, k1⟩, h1, hf⟩ := Option.bind_eq_some_iff.mp hf
  obtain ⟨z, h3, hf⟩ := Option.bind_eq_some_iff.mp hf
  cases hf
  refine ⟨F, ρ, k, x, k1, R, h1, fun v F' H' g c r => ?_⟩
  cases neg with
  | true =>
    replace h3 : gTyNe T x = some d := h3
    unfold gTyNe at h3
    split at h3
    · cases h3
    · rename_i hc
      cases h3
      exact ⟨F', v, x, rfl, g.fh, r, by simpa using hc, tyD x, T, rfl, rfl, tyD_mem x, hT, q _ F' H' g c (.bl _)⟩
  | false =>
    replace h3 : gTyEq T x = some d := h3
    unfold gTyEq at h3
    split at h3
    · cases h3
    · rename_i hc
      cases h3
      exact ⟨F', v, x, rfl, g.fh, r, by simpa using hc, tyD x, T, rfl, rfl, tyD_mem x, hT, q _ F' H' g c (.bl _)⟩
theorem test_in {K : Fr} {f : DE} {t : TE} {σ : L2.St} {H : Hp} {Q : Bool → Hp → Prop} (h : ∀ Q', tE K m f σ H Q' → t σ H Q') (w : tT K m (tV f) σ H Q) : tTest t σ H Q := by
  obtain ⟨F, ρ, k, b, k', R, hf, q⟩ := w
  unfold tV at hf
  obtain ⟨⟨x, k1⟩, h1, hf⟩ := Option.bind_eq_some_iff.mp hf
  obtain ⟨z, h3, hf⟩ := Option.bind_eq_some_iff.mp hf
  cases hf
  cases asB_some h3
  exact h _ ⟨F, ρ, k, _, k1, R, h1, fun v F' H' g c r => by
    cases r
    exact ⟨_, rfl, q F' H' g c⟩⟩
theorem e_tyEq {T : String} {x : Str} {p1 p2 p3 : Pos} {f : DE} (h : PE X e (tO X.K m f)) (hm : X.mg "type" = none) (hm2 : X.mg x = none) (hv2 : bootBuiltins x = some (.type T)) (hT : T ∈ tyNames) (hg : Gl X "type" := by rfl) (hg2 : Gl X x := by rfl)
    (hn2 : x ≠ "__name__" := by decide) (hd2 : (x == ("__debug__" : Str)) = false := by decide) (hv : bootBuiltins "type" = some (.type "type") := by decide +kernel)
    (hs : starEach [e] X.env = (false, eval e X.env) :: starEach [] X.env := by rfl) (hpl : (backTo p3 (starEach [] X.env)).any (·.1) = false := by rfl) :
    PE X (.Compare (.Call (.Name "type" p1) [e] [] p3) [.Eq] [.Name x p2] pos) (tE X.K m (dU (gTyEq T) f)) := impPE (pe_cmpR op_tyEq (pe_callTy (call_typ (m := m)) hg hm hv (pa_cons h pa_nil hs) (by decide) (by decide) hs hpl) (pe_bltn (v := .ty T) hg2 hm2 hv2 rfl hn2 hd2) (nomark _)) fun σ H Q w => tyc_in (neg := false) hT w
theorem t_tyEq {T : String} {x : Str} {p1 p2 p3 : Pos} {f : DE} (h : PE X e (tO X.K m f)) (hm : X.mg "type" = none) (hm2 : X.mg x = none) (hv2 : bootBuiltins x = some (.type T)) (hT : T ∈ tyNames) (hg : Gl X "type" := by rfl) (hg2 : Gl X x := by rfl)
    (hn2 : x ≠ "__name__" := by decide) (hd2 : (x == ("__debug__" : Str)) = false := by decide) (hv : bootBuiltins "type" = some (.type "type") := by decide +kernel)
    (hs : starEach [e] X.env = (false, eval e X.env) :: starEach [] X.env := by rfl) (hpl : (backTo p3 (starEach [] X.env)).any (·.1) = false := by rfl) :
    PT X (.Compare (.Call (.Name "type" p1) [e] [] p3) [.Eq] [.Name x p2] pos) (tT X.K m (tV (dU (gTyEq T) f))) := impPT (pt_cmpR op_tyEq (pe_callTy (call_typ (m := m)) hg hm hv (pa_cons h pa_nil hs) (by decide) (by decide) hs hpl) (pe_bltn (v := .ty T) hg2 hm2 hv2 rfl hn2 hd2) (nomark _)) fun σ H Q w => test_in (fun Q' w' => tyc_in (neg := false) hT w') w
theorem e_tyNe {T : String} {x : Str} {p1 p2 p3 : Pos} {f : DE} (h : PE X e (tO X.K m f)) (hm : X.mg "type" = none) (hm2 : X.mg x = none) (hv2 : bootBuiltins x = some (.type T)) (hT : T ∈ tyNames) (hg : Gl X "type" := by rfl) (hg2 : Gl X x := by rfl)
    (hn2 : x ≠ "__name__" := by decide) (hd2 : (x == ("__debug__" : Str)) = false := by decide) (hv : bootBuiltins "type" = some (.type "type") := by decide +kernel)
    (hs : starEach [e] X.env = (false, eval e X.env) :: starEach [] X.env := by rfl) (hpl : (backTo p3 (starEach [] X.env)).any (·.1) = false := by rfl) :
    PE X (.Compare (.Call (.Name "type" p1) [e] [] p3) [.NotEq] [.Name x p2] pos) (tE X.K m (dU (gTyNe T) f)) := impPE (pe_cmpR op_tyNe (pe_callTy (call_typ (m := m)) hg hm hv (pa_cons h pa_nil hs) (by decide) (by decide) hs hpl) (pe_bltn (v := .ty T) hg2 hm2 hv2 rfl hn2 hd2) (nomark _)) fun σ H Q w => tyc_in (neg := true) hT w
theorem t_tyNe {T : String} {x : Str} {p1 p2 p3 : Pos} {f : DE} (h : PE X e (tO X.K m f)) (hm : X.mg "type" = none) (hm2 : X.mg x = none) (hv2 : bootBuiltins x = some (.type T)) (hT : T ∈ tyNames) (hg : Gl X "type" := by rfl) (hg2 : Gl X x := by rfl)
    (hn2 : x ≠ "__name__" := by decide) (hd2 : (x == ("__debug__" : Str)) = false := by decide) (hv : bootBuiltins "type" = some (.type "type") := by decide +kernel)
    (hs : starEach [e] X.env = (false, eval e X.env) :: starEach [] X.env := by rfl) (hpl : (backTo p3 (starEach [] X.env)).any (·.1) = false := by rfl) :
    PT X (.Compare (.Call (.Name "type" p1) [e] [] p3) [.NotEq] [.Name x p2] pos) (tT X.K m (tV (dU (gTyNe T) f))) := impPT (pt_cmpR op_tyNe (pe_callTy (call_typ (m := m)) hg hm hv (pa_cons h pa_nil hs) (by decide) (by decide) hs hpl) (pe_bltn (v := .ty T) hg2 hm2 hv2 rfl hn2 hd2) (nomark _)) fun σ H Q w => test_in (fun Q' w' => tyc_in (neg := true) hT w') w

/-! ### calls -/
@[simp] def gLen : List Dt → Option Dt
  | [.list ds] => if ds.length ≤ 1000000 then some (.int ds.length) else none
  | [.tuple ds] => if ds.length ≤ 1000000 then some (.int ds.length) else none
  | [.str x] => if x.length ≤ 1000000 then some (.int x.length) else none
  | _ => none
theorem RoA.one {K : Fr} {F H : Hp} {vs : List V} {d : Dt} (r : RoA K m F H vs [d]) : ∃ v, vs = [v] ∧ Ro K m F H v d := by
  cases r with
  | cons h r =>
    cases r
    exact ⟨_, rfl, h⟩
theorem RoA.two {K : Fr} {F H : Hp} {vs : List V} {d d' : Dt} (r : RoA K m F H vs [d, d']) : ∃ v v', vs = [v, v'] ∧ Ro K m F H v d ∧ Ro K m F H v' d' := by
  cases r with
  | cons h r =>
    cases r with
    | cons h' r =>
      cases r
      exact ⟨_, _, rfl, h, h'⟩
theorem ok_len : CallR X (.builtin "len") (rcD X.K m gLen) := by
  intro pins s σ H xs us Q I r ⟨F, k, ds, d, e, c, rs, hg, q⟩
  unfold gLen at hg
  split at hg
  · split at hg
    · rename_i hl
      cases hg
      obtain ⟨v, rfl, rv⟩ := rs.one
      obtain ⟨a, ys, rfl, h1, q1⟩ := rv.lst e
      exact call_len_seq pins s σ H _ us Q I r ⟨a, ys, rfl, .inl h1, by rw [q1.length]; exact ro_int e c rfl q⟩
    · cases hg
  · split at hg
    · rename_i hl
      cases hg
      obtain ⟨v, rfl, rv⟩ := rs.one
      obtain ⟨a, ys, rfl, h1, q1⟩ := rv.tup
      exact call_len_seq pins s σ H _ us Q I r ⟨a, ys, rfl, .inr (ex_t e h1), by rw [q1.length]; exact ro_int e c rfl q⟩
    · cases hg
  · split at hg
    · rename_i hl
      cases hg
      obtain ⟨v, rfl, rv⟩ := rs.one
      cases rv.str
      exact call_len_str pins s σ H _ us Q I r ⟨_, rfl, small_line hl, ro_int e c rfl q⟩
    · cases hg
  · cases hg
@[simp] def gInt : List Dt → Option Dt
  | [.int i] => some (.int i)
  | [.bool b] => some (.int (if b then 1 else 0))
  | _ => none
theorem ok_int : CallR X (.type "int") (rcD X.K m gInt) := by
  intro pins s σ H xs us Q I r ⟨F, k, ds, d, e, c, rs, hg, q⟩
  unfold gInt at hg
  split at hg
  · cases hg
    obtain ⟨v, rfl, rv⟩ := rs.one
    cases rv.int
    exact call_int1 pins s σ H _ us Q I r (.inl ⟨_, rfl, ro_int e c rfl q⟩)
  · cases hg
    obtain ⟨v, rfl, rv⟩ := rs.one
    cases rv.bl
    exact call_int1 pins s σ H _ us Q I r (.inr ⟨_, rfl, ro_int e c rfl q⟩)
  · cases hg
@[simp] def asBs : List Dt → Option (List Bool)
  | [] => some []
  | .bool b :: ds => (asBs ds).map (b :: ·)
  | _ :: _ => none
theorem asBs_eq : ∀ {ds : List Dt} {bs : List Bool}, asBs ds = some bs → ds = bs.map .bool
  | [], bs, h => by
    cases h
    rfl
  | .bool b :: ds, bs, h => by
    unfold asBs at h
    cases h1 : asBs ds with
    | none =>
      rw [h1] at h
      cases h
    | some cs =>
      rw [h1] at h
      cases h
      rw [asBs_eq h1]
      rfl
  | .none :: _, _, h => by cases h
  | .int _ :: _, _, h => by cases h
  | .str _ :: _, _, h => by cases h
  | .list _ :: _, _, h => by cases h
  | .tuple _ :: _, _, h => by cases h
  | .dict _ :: _, _, h => by cases h
theorem RpA.ofBls {K : Fr} {F : Hp} : ∀ {bs : List Bool} {vs : List V}, RpA K m F vs (bs.map .bool) → vs = bs.map V.bl
  | [], _, .nil => rfl
  | b :: bs, _, .cons h r => by
    cases h
    rw [RpA.ofBls r]
    rfl
@[simp] def gAll : List Dt → Option Dt
  | [.list ds] => (asBs ds).map fun bs => .bool (bs.all id)
  | _ => none
theorem ok_all (hc : X.calm = true) : CallR X (.builtin "all") (rcD X.K m gAll) := by
  intro pins s σ H xs us Q I r ⟨F, k, ds, d, e, c, rs, hg, q⟩
  unfold gAll at hg
  split at hg
  · rename_i ds
    cases h1 : asBs ds with
    | none =>
      rw [h1] at hg
      cases hg
    | some bs =>
      rw [h1] at hg
      cases hg
      cases asBs_eq h1
      obtain ⟨v, rfl, rv⟩ := rs.one
      obtain ⟨a, ys, rfl, h2, q1⟩ := rv.lst e
      cases q1.ofBls
      exact cr_all hc pins s σ H _ us Q I r ⟨a, bs, rfl, h2, ro_bl e c rfl q⟩
  · cases hg
end
end Dn

set_option Elab.async false
set_option linter.all false
set_option maxRecDepth 100000
set_option maxHeartbeats 1000000
namespace Dn
open PySem PySem.Spec PyProof.Rows L2 Evl

section
variable {X : Cx} {m : Option Addr} {a b c e : Expr} {es : List Expr} {pos : Pos}
@[simp] def gTuple : List Dt → Option Dt
  | [.list ds] => some (.tuple ds)
  | [.tuple ds] => some (.tuple ds)
  | _ => none
theorem ok_tuple : CallR X (.type "tuple") (rcD X.K m gTuple) := by
  intro pins s σ H xs us Q I r ⟨F, k, ds, d, e, c, rs, hg, q⟩
  unfold gTuple at hg
  split at hg
  · cases hg
    obtain ⟨v, rfl, rv⟩ := rs.one
    obtain ⟨a, ys, rfl, h1, q1⟩ := rv.lst e
    exact call_tuple_of pins s σ H _ us Q I r ⟨a, ys, rfl, .inl ⟨h1, fun l hl => ro_tup e c q1 rfl q hl⟩⟩
  · cases hg
    obtain ⟨v, rfl, rv⟩ := rs.one
    obtain ⟨a, ys, rfl, h1, q1⟩ := rv.tup
    exact call_tuple_of pins s σ H _ us Q I r ⟨a, ys, rfl, .inr ⟨ex_t e h1, q _ F H (.refl e) c (.tup h1 q1)⟩⟩
  · cases hg
@[simp] def gList : List Dt → Option (List Dt)
  | [.list ds] => some ds
  | [.tuple ds] => some ds
  | _ => none
theorem ok_list : CallR X (.type "list") (rclD X.K m gList) := by
  intro pins s σ H xs us Q I r ⟨F, k, ds, d, e, c, rs, hg, q⟩
  unfold gList at hg
  split at hg
  · cases hg
    obtain ⟨v, rfl, rv⟩ := rs.one
    obtain ⟨a, ys, rfl, h1, q1⟩ := rv.lst e
    exact call_list_of pins s σ H _ us Q I r ⟨a, ys, rfl, .inl h1, fun l hl => q l _ _ hl rfl q1⟩
  · cases hg
    obtain ⟨v, rfl, rv⟩ := rs.one
    obtain ⟨a, ys, rfl, h1, q1⟩ := rv.tup
    exact call_list_of pins s σ H _ us Q I r ⟨a, ys, rfl, .inr (ex_t e h1), fun l hl => q l _ _ hl rfl q1⟩
  · cases hg
@[simp] def gMaxI : List Dt → Option Dt
  | [.int i, .int j] => some (.int (if j > i then j else i))
  | _ => none
@[simp] def gMinI : List Dt → Option Dt
  | [.int i, .int j] => some (.int (if j < i then j else i))
  | _ => none
theorem ok_maxI (hc : X.calm = true) : CallR X (.builtin "max") (rcD X.K m gMaxI) := by
  intro pins s σ H xs us Q I r ⟨F, k, ds, d, e, c, rs, hg, q⟩
  unfold gMaxI at hg
  split at hg
  · cases hg
    obtain ⟨v, v', rfl, rv, rv'⟩ := rs.two
    cases rv.int
    cases rv'.int
    exact call_max2 hc pins s σ H _ us Q I r ⟨_, _, rfl, ro_int e c rfl q⟩
  · cases hg
theorem ok_minI (hc : X.calm = true) : CallR X (.builtin "min") (rcD X.K m gMinI) := by
  intro pins s σ H xs us Q I r ⟨F, k, ds, d, e, c, rs, hg, q⟩
  unfold gMinI at hg
  split at hg
  · cases hg
    obtain ⟨v, v', rfl, rv, rv'⟩ := rs.two
    cases rv.int
    cases rv'.int
    exact call_min2 hc pins s σ H _ us Q I r ⟨_, _, rfl, ro_int e c rfl q⟩
  · cases hg

/-! methods of a value -/
def rmD (K : Fr) (m : Option Addr) (g : Dt → List Dt → Option Dt) : V → List V → Hp → VK → Prop := fun x xs H Q => ∃ F k dx ds d, Ex F H ∧ Ctr m F H k ∧ Ro K m F H x dx ∧ RoA K m F H xs ds ∧ g dx ds = some d ∧ ∀ v F' H', Grow m F H F' H' → Ctr m F' H' k → Rp K m F' v d → Q v H'
@[simp] def isStr : Dt → Bool
  | .str _ => true
  | _ => false
@[simp] def dM (g : Dt → List Dt → Option Dt) (f : DE) (h : DL) : DE := fun ρ k => (f ρ k).bind fun p => if isStr p.1 = true then (h ρ p.2).bind fun q => (g p.1 q.1).bind fun d => some (d, q.2) else none
theorem isStr_eq {d : Dt} (h : isStr d = true) : ∃ x, d = .str x := by
  cases d <;> simp [isStr] at h
  exact ⟨_, rfl⟩
theorem e_m1 {id : String} {name : Str} {pa : Pos} {g : Dt → List Dt → Option Dt} {fo fa : DE} {o : Expr} (slot : Slot "str" name id) (hty : typeOf (.builtin id) = pure (.type "method_descriptor")) (hm : MtR X id (rmD X.K m g)) (ho : PE X o (tO X.K m fo)) (ha : PE X e (tO X.K m fa))
    (hs : starEach [e] X.env = [(false, eval e X.env)] := by rfl) (hbase : attributeBase o name X.env (eval o X.env) = eval o X.env := by rfl) (hline : (pa.endLine == pos.line) = true := by rfl) :
    PE X (.Call (.Attribute o name pa) [e] [] pos) (tE X.K m (dM g fo (aCons fa aNil))) := impPE (pe_m1 slot hty hm ho ha hs hbase hline) fun σ H Q ⟨F, ρ, k, d, k', R, hf, q⟩ => by
  unfold dM at hf
  obtain ⟨⟨x, k1⟩, h1, hf⟩ := Option.bind_eq_some_iff.mp hf
  simp only at hf
  split at hf
  · rename_i hx
    obtain ⟨z, rfl⟩ := isStr_eq hx
    obtain ⟨⟨ys, k2⟩, h2, hf⟩ := Option.bind_eq_some_iff.mp hf
    obtain ⟨w, h3, hf⟩ := Option.bind_eq_some_iff.mp hf
    cases hf
    unfold aCons at h2
    obtain ⟨⟨y, k3⟩, h4, h2⟩ := Option.bind_eq_some_iff.mp h2
    cases h2
    refine ⟨F, ρ, k, _, k1, R, h1, fun v1 F1 H1 g1 c1 r1 => ?_⟩
    cases r1.str
    exact ⟨⟨z, rfl⟩, F1, ρ, k1, y, k3, R.grow g1 c1, h4, fun v2 F2 H2 g2 c2 r2 => ⟨F2, k3, .str z, [y], d, g2.fh, c2, .inl (.str z), .cons r2 .nil, h3, fun v F' H' g' c' r => q v F' H' ((g1.trans c1 g2).trans c2 g') c' r⟩⟩
  · cases hf
theorem e_m0 {id : String} {name : Str} {pa : Pos} {g : Dt → List Dt → Option Dt} {fo : DE} {o : Expr} (slot : Slot "str" name id) (hty : typeOf (.builtin id) = pure (.type "method_descriptor")) (hm : MtR X id (rmD X.K m g)) (ho : PE X o (tO X.K m fo))
    (hbase : attributeBase o name X.env (eval o X.env) = eval o X.env := by rfl) (hline : (pa.endLine == pos.line) = true := by rfl) :
    PE X (.Call (.Attribute o name pa) [] [] pos) (tE X.K m (dM g fo aNil)) := impPE (pe_m0 slot hty hm ho hbase hline) fun σ H Q ⟨F, ρ, k, d, k', R, hf, q⟩ => by
  unfold dM at hf
  obtain ⟨⟨x, k1⟩, h1, hf⟩ := Option.bind_eq_some_iff.mp hf
  simp only at hf
  split at hf
  · rename_i hx
    obtain ⟨z, rfl⟩ := isStr_eq hx
    obtain ⟨⟨ys, k2⟩, h2, hf⟩ := Option.bind_eq_some_iff.mp hf
    obtain ⟨w, h3, hf⟩ := Option.bind_eq_some_iff.mp hf
    cases hf
    cases h2
    refine ⟨F, ρ, k, _, k1, R, h1, fun v1 F1 H1 g1 c1 r1 => ?_⟩
    cases r1.str
    exact ⟨⟨z, rfl⟩, F1, k1, .str z, [], d, g1.fh, c1, .inl (.str z), .nil, h3, fun v F' H' g' c' r => q v F' H' (g1.trans c1 g') c' r⟩
  · cases hf
@[simp] def asSs : List Dt → Option (List Str)
  | [] => some []
  | .str b :: ds => (asSs ds).map (b :: ·)
  | _ :: _ => none
theorem asSs_eq : ∀ {ds : List Dt} {bs : List Str}, asSs ds = some bs → ds = bs.map .str
  | [], bs, h => by
    cases h
    rfl
  | .str b :: ds, bs, h => by
    unfold asSs at h
    cases h1 : asSs ds with
    | none =>
      rw [h1] at h
      cases h
    | some cs =>
      rw [h1] at h
      cases h
      rw [asSs_eq h1]
      rfl
  | .none :: _, _, h => by cases h
  | .int _ :: _, _, h => by cases h
  | .bool _ :: _, _, h => by cases h
  | .list _ :: _, _, h => by cases h
  | .tuple _ :: _, _, h => by cases h
  | .dict _ :: _, _, h => by cases h
theorem RpA.ofSs {K : Fr} {F : Hp} : ∀ {bs : List Str} {vs : List V}, RpA K m F vs (bs.map .str) → vs = bs.map V.str
  | [], _, .nil => rfl
  | b :: bs, _, .cons h r => by
    cases h
    rw [RpA.ofSs r]
    rfl
@[simp] def gJoin : Dt → List Dt → Option Dt
  | .str a, [.list ds] => (asSs ds).bind fun ys => if (ys.map (·.length)).sum + ys.length * a.length ≤ 16777216 then some (.str (Txt.join a ys)) else none
  | _, _ => none
theorem ok_join : MtR X "str.join" (rmD X.K m gJoin) := by
  intro pins s σ H x xs v us Q I rx r ⟨F, k, dx, ds, d, e, c, ro, rs, hg, q⟩
  unfold gJoin at hg
  split at hg
  · obtain ⟨ys, h1, hg⟩ := Option.bind_eq_some_iff.mp hg
    split at hg
    · rename_i hl
      cases hg
      cases asSs_eq h1
      cases ro.str
      obtain ⟨w, rfl, rww⟩ := rs.one
      obtain ⟨p, zs, rfl, h2, q1⟩ := rww.lst e
      cases q1.ofSs
      exact mt_join pins s σ H _ _ v us Q I rx r ⟨_, p, ys, rfl, rfl, .inl h2, hl, ro_str e c rfl q⟩
    · cases hg
  · cases hg
@[simp] def gUpper : Dt → List Dt → Option Dt
  | .str a, [] => if a.length ≤ 1000000 then some (.str (Txt.upper a)) else none
  | _, _ => none
theorem ok_upper : MtR X "str.upper" (rmD X.K m gUpper) := by
  intro pins s σ H x xs v us Q I rx r ⟨F, k, dx, ds, d, e, c, ro, rs, hg, q⟩
  unfold gUpper at hg
  split at hg
  · split at hg
    · rename_i hl
      cases hg
      cases ro.str
      cases rs
      exact mt_upper pins s σ H _ _ v us Q I rx r ⟨_, rfl, rfl, by omega, ro_str e c rfl q⟩
    · cases hg
  · cases hg
theorem e_join {pa : Pos} {o : Expr} {fo fa : DE} (ho : PE X o (tO X.K m fo)) (ha : PE X e (tO X.K m fa)) (hs : starEach [e] X.env = [(false, eval e X.env)] := by rfl) (hbase : attributeBase o "join" X.env (eval o X.env) = eval o X.env := by rfl) (hline : (pa.endLine == pos.line) = true := by rfl) :
    PE X (.Call (.Attribute o "join" pa) [e] [] pos) (tE X.K m (dM gJoin fo (aCons fa aNil))) := e_m1 PySem.F.slot_str_join PySem.F.type_str_join ok_join ho ha hs hbase hline
theorem e_upper {pa : Pos} {o : Expr} {fo : DE} (ho : PE X o (tO X.K m fo)) (hbase : attributeBase o "upper" X.env (eval o X.env) = eval o X.env := by rfl) (hline : (pa.endLine == pos.line) = true := by rfl) :
    PE X (.Call (.Attribute o "upper" pa) [] [] pos) (tE X.K m (dM gUpper fo aNil)) := e_m0 PySem.F.slot_str_upper PySem.F.type_str_upper ok_upper ho hbase hline

/-! subscripts -/
@[simp] def gIx : Dt → Dt → Option Dt
  | .list ds, .int i => atI ds i
  | .tuple ds, .int i => atI ds i
  | .str x, .int i => if x.length ≤ 1000000 then (atI x.cps.toList i).map signD else none
  | _, _ => none
theorem RpA.atI {K : Fr} {F : Hp} {vs : List V} {ds : List Dt} {i : Int} {d : Dt} (r : RpA K m F vs ds) (h : L2.atI ds i = some d) : ∃ v, L2.atI vs i = some v ∧ Rp K m F v d := by
  unfold L2.atI at h ⊢
  rw [r.length]
  cases hx : L2.ixN ds.length i with
  | none =>
    rw [hx] at h
    cases h
  | some j =>
    rw [hx] at h
    obtain ⟨v, hv, rv⟩ := r.get h
    exact ⟨v, hv, rv⟩
theorem ok_ix : IxR X (roD X.K m gIx) := by
  intro value slice pins s σ H x y v u Q I rx ry ⟨F, k, dx, dy, d, e, c, r1, r2, hg, q⟩ hs
  unfold gIx at hg
  split at hg
  · obtain ⟨a, xs, rfl, h1, q1⟩ := r1.lst e
    obtain ⟨w, hw, rww⟩ := q1.atI hg
    exact ix_list value slice pins s σ H _ y v u Q I rx ry ⟨a, xs, _, w, rfl, r2.int, h1, hw, q _ F H (.refl e) c rww⟩ hs
  · obtain ⟨a, xs, rfl, h1, q1⟩ := r1.tup
    obtain ⟨w, hw, rww⟩ := q1.atI hg
    exact ix_tup value slice pins s σ H _ y v u Q I rx ry ⟨a, xs, _, w, rfl, r2.int, ex_t e h1, hw, q _ F H (.refl e) c rww⟩ hs
  · split at hg
    · rename_i z i hl
      cases hc : L2.atI z.cps.toList i with
      | none =>
        rw [hc] at hg
        cases hg
      | some w =>
        rw [hc] at hg
        cases hg
        exact ix_str value slice pins s σ H x y v u Q I rx ry ⟨z, i, w, r1.str, r2.int, small_line hl, hc, ro_str e c rfl q⟩ hs
    · cases hg
  · cases hg
def cutD (ds : List Dt) (lo hi : Option Int) : List Dt := (ds.drop (HT.sIx ds.length 0 lo)).take (HT.sIx ds.length ds.length hi - HT.sIx ds.length 0 lo)
theorem RpA.cut {K : Fr} {F : Hp} {vs : List V} {ds : List Dt} (r : RpA K m F vs ds) (lo hi : Option Int) : RpA K m F (cutV vs lo hi) (cutD ds lo hi) := by
  unfold cutV cutD
  rw [r.length]
  exact (r.drop _).take _
@[simp] def gSlE : Dt → Option Int → Option Int → Option Dt
  | .str x, lo, hi => if x.length ≤ 1000000 then some (.str (cutS x lo hi)) else none
  | .tuple ds, lo, hi => some (.tuple (cutD ds lo hi))
  | _, _, _ => none
theorem ok_slE : SlR X (rsD X.K m gSlE) := by
  intro pins s σ H x v vl vu lo hi sl Q I rx hs pl pu ⟨F, k, dx, d, e, c, r1, hg, q⟩
  cases dx with
  | str z =>
    replace hg : (if z.length ≤ 1000000 then some (PyData.str (cutS z lo hi)) else none) = some d := hg
    split at hg
    · rename_i hl
      cases hg
      exact sl_str pins s σ H x v vl vu lo hi sl Q I rx hs pl pu ⟨_, r1.str, small_line hl, ro_str e c rfl q⟩
    · cases hg
  | tuple ds =>
    replace hg : some (PyData.tuple (cutD ds lo hi)) = some d := hg
    cases hg
    obtain ⟨a, xs, rfl, h1, q1⟩ := r1.tup
    refine sl_tupA pins s σ H _ v vl vu lo hi sl Q I rx hs pl pu ⟨a, xs, rfl, ex_t e h1, fun z => ?_, fun z p hp => ro_tup e c (q1.cut _ _) rfl q hp⟩
    have ez : cutV xs lo hi = xs := by
      unfold cutV
      rw [z.1, z.2]
      simp
    have q2 := q1.cut lo hi
    rw [ez] at q2
    exact q _ F H (.refl e) c (.tup h1 q2)
  | _ => cases hg
@[simp] def gSlL : Dt → Option Int → Option Int → Option (List Dt)
  | .list ds, lo, hi => some (cutD ds lo hi)
  | _, _, _ => none
theorem ok_slL : SlR X (rslD X.K m gSlL) := by
  intro pins s σ H x v vl vu lo hi sl Q I rx hs pl pu ⟨F, k, dx, d, e, c, r1, hg, q⟩
  unfold gSlL at hg
  split at hg
  · cases hg
    obtain ⟨a, xs, rfl, h1, q1⟩ := r1.lst e
    exact sl_list pins s σ H _ v vl vu _ _ sl Q I rx hs pl pu ⟨a, xs, rfl, h1, fun p hp => q p _ _ hp rfl (q1.cut _ _)⟩
  · cases hg

/-! in, not in -/
@[simp] def gIn (x : Dt) : Dt → Option Dt
  | .list ds => if okD x = true ∧ okD (.list ds) = true then some (.bool (ds.any fun z => PyData.eqv z x)) else none
  | .tuple ds => if okD x = true ∧ okD (.tuple ds) = true then some (.bool (ds.any fun z => PyData.eqv z x)) else none
  | _ => none
@[simp] def gNotIn (x : Dt) : Dt → Option Dt
  | .list ds => if okD x = true ∧ okD (.list ds) = true then some (.bool (!ds.any fun z => PyData.eqv z x)) else none
  | .tuple ds => if okD x = true ∧ okD (.tuple ds) = true then some (.bool (!ds.any fun z => PyData.eqv z x)) else none
  | _ => none
theorem ok_in (hu : X.A.units + 65 < cLine) : OpR X (compareOp .In) (roD X.K m gIn) := by
  intro pins s σ H x y v u Q I rx ry ⟨F, k, dx, dy, d, e, c, r1, r2, hg, q⟩
  unfold gIn at hg
  split at hg
  · split at hg
    · rename_i h
      cases hg
      exact op_inD hu pins s σ H x y v u Q I rx ry ⟨dx, _, (r1.whole e).dp (SeqAt.canLay_of_shaped h.1), (r2.whole e).dp (SeqAt.canLay_of_shaped h.2), h.1, h.2, ro_bl e c rfl q⟩
    · cases hg
  · split at hg
    · rename_i h
      cases hg
      obtain ⟨as, q1⟩ := Dp.reads I dx x v ((r1.whole e).dp (SeqAt.canLay_of_shaped h.1)) rx
      obtain ⟨bs, q2⟩ := Dp.reads I _ y u ((r2.whole e).dp (SeqAt.canLay_of_shaped h.2)) ry
      exact SeqAt.in_tuple_reads q2 q1 (SeqAt.canLay_of_shaped h.2) (SeqAt.canLay_of_shaped h.1) (PyProof.Rows.room_in_shaped h.1 hu) ⟨.bl _, H, I, rfl, ro_bl e c rfl q⟩
    · cases hg
  · cases hg
theorem ok_notIn (hu : X.A.units + 65 < cLine) : OpR X (compareOp .NotIn) (roD X.K m gNotIn) := by
  intro pins s σ H x y v u Q I rx ry ⟨F, k, dx, dy, d, e, c, r1, r2, hg, q⟩
  unfold gNotIn at hg
  split at hg
  · split at hg
    · rename_i h
      cases hg
      exact op_notInD hu pins s σ H x y v u Q I rx ry ⟨dx, _, (r1.whole e).dp (SeqAt.canLay_of_shaped h.1), (r2.whole e).dp (SeqAt.canLay_of_shaped h.2), h.1, h.2, ro_bl e c rfl q⟩
    · cases hg
  · split at hg
    · rename_i h
      cases hg
      obtain ⟨as, q1⟩ := Dp.reads I dx x v ((r1.whole e).dp (SeqAt.canLay_of_shaped h.1)) rx
      obtain ⟨bs, q2⟩ := Dp.reads I _ y u ((r2.whole e).dp (SeqAt.canLay_of_shaped h.2)) ry
      exact SeqAt.notIn_tuple_reads q2 q1 (SeqAt.canLay_of_shaped h.2) (SeqAt.canLay_of_shaped h.1) (PyProof.Rows.room_in_shaped h.1 hu) ⟨.bl _, H, I, rfl, ro_bl e c rfl q⟩
    · cases hg
  · cases hg
/-! is None -/
@[simp] def gIsN : Dt → Option Dt
  | .none => some (.bool true)
  | _ => some (.bool false)
@[simp] def gNotN : Dt → Option Dt
  | .none => some (.bool false)
  | _ => some (.bool true)
theorem ro_isN {K : Fr} {F H : Hp} {v : V} {dx d : Dt} (e : Ex F H) (r : Ro K m F H v dx) (h : gIsN dx = some d) : d = .bool (decide (v = .non)) := by
  have w := r.whole e
  cases w <;> simp [gIsN, ctrD] at h <;> simp [← h]
theorem ro_notN {K : Fr} {F H : Hp} {v : V} {dx d : Dt} (e : Ex F H) (r : Ro K m F H v dx) (h : gNotN dx = some d) : d = .bool (!decide (v = .non)) := by
  have w := r.whole e
  cases w <;> simp [gNotN, ctrD] at h <;> simp [← h]
theorem isn_in {K : Fr} {f : DE} {σ : L2.St} {H : Hp} {Q : VK} (w : tE K m (dU gIsN f) σ H Q) : tIsN (tO K m f) σ H Q := by
  obtain ⟨F, ρ, k, d, k', R, hf, q⟩ := w
  unfold dU at hf
  obtain ⟨⟨x, k1⟩, h1, hf⟩ := Option.bind_eq_some_iff.mp hf
  obtain ⟨z, h3, hf⟩ := Option.bind_eq_some_iff.mp hf
  cases hf
  exact ⟨F, ρ, k, x, k1, R, h1, fun v F' H' g c r => by
    cases ro_isN g.fh r h3
    exact q _ F' H' g c (.bl _)⟩
theorem notn_in {K : Fr} {f : DE} {σ : L2.St} {H : Hp} {Q : VK} (w : tE K m (dU gNotN f) σ H Q) : tNotN (tO K m f) σ H Q := by
  obtain ⟨F, ρ, k, d, k', R, hf, q⟩ := w
  unfold dU at hf
  obtain ⟨⟨x, k1⟩, h1, hf⟩ := Option.bind_eq_some_iff.mp hf
  obtain ⟨z, h3, hf⟩ := Option.bind_eq_some_iff.mp hf
  cases hf
  exact ⟨F, ρ, k, x, k1, R, h1, fun v F' H' g c r => by
    cases ro_notN g.fh r h3
    exact q _ F' H' g c (.bl _)⟩
theorem e_isN {f : DE} {j p2} (h : PE X a (tO X.K m f)) : PE X (.Compare a [.Is] [.Constant .none j p2] pos) (tE X.K m (dU gIsN f)) := impPE (pe_cmp (pc_isN h) rfl) fun _ _ _ w => isn_in w
theorem e_notN {f : DE} {j p2} (h : PE X a (tO X.K m f)) : PE X (.Compare a [.IsNot] [.Constant .none j p2] pos) (tE X.K m (dU gNotN f)) := impPE (pe_cmp (pc_notN h) rfl) fun _ _ _ w => notn_in w
theorem t_isN {f : DE} {j p2} (h : PE X a (tO X.K m f)) : PT X (.Compare a [.Is] [.Constant .none j p2] pos) (tT X.K m (tV (dU gIsN f))) := impPT (pt_cmp (pc_isN h) rfl) fun _ _ _ w => test_in (fun _ w' => isn_in w') w
theorem t_notN {f : DE} {j p2} (h : PE X a (tO X.K m f)) : PT X (.Compare a [.IsNot] [.Constant .none j p2] pos) (tT X.K m (tV (dU gNotN f))) := impPT (pt_cmp (pc_notN h) rfl) fun _ _ _ w => test_in (fun _ w' => notn_in w') w
/-! a new list times an int -/
@[simp] def lRep (fa : DL) (fb : DE) : DL := fun ρ k => (fa ρ k).bind fun p => (fb ρ p.2).bind fun q => (gRep (.list p.1) q.1).bind fun d => some (d, q.2)
theorem RpA.rep {K : Fr} {F : Hp} {vs : List V} {ds : List Dt} (r : RpA K m F vs ds) : ∀ n : Nat, RpA K m F (List.replicate n vs).flatten (List.replicate n ds).flatten
  | 0 => .nil
  | n + 1 => by
    rw [List.replicate_succ, List.replicate_succ, List.flatten_cons, List.flatten_cons]
    exact r.append (RpA.rep r n)
theorem l_rep {fa : DL} {fb : DE} (ha : PE X a (tL X.K m fa)) (hb : PE X b (tO X.K m fb)) : PE X (.BinOp a .Mult b pos) (tL X.K m (lRep fa fb)) :=
  impPE (pe_op op_rep ha hb) fun σ H Q ⟨F, ρ, k, d, k', R, hf, q⟩ => by
    unfold lRep at hf
    obtain ⟨⟨x, k1⟩, h1, hf⟩ := Option.bind_eq_some_iff.mp hf
    obtain ⟨⟨y, k2⟩, h2, hf⟩ := Option.bind_eq_some_iff.mp hf
    obtain ⟨z, h3, hf⟩ := Option.bind_eq_some_iff.mp hf
    cases hf
    unfold gRep at h3
    split at h3
    · split at h3
      · rename_i hb
        rename_i xs n ex ey
        cases h3
        cases ex
        simp only at ey
        subst ey
        refine ⟨F, ρ, k, _, k1, R, h1, fun p vs F1 H1 g1 c1 hp fp ho r1 => ⟨F1, ρ, k1, _, k2, R.grow g1 c1, h2, fun v2 F2 H2 g2 c2 r2 => ?_⟩⟩
        have hmp : m ≠ some p := R.ctr.ne hp
        have ho2 := g2.hh p _ hmp ho
        refine ⟨p, n, vs, rfl, r2.int, ho2, by omega, by omega, ?_, fun p2 hp2 => ?_⟩
        · rw [r1.length]
          have h5 : x.length * n.toNat ≤ 1000 * 1000 := Nat.mul_le_mul hb.2.2 (by omega)
          exact small_line h5
        · have g12 := g1.trans c1 g2
          exact q p2 _ F2 _ (g12.trans c2 (Grow.laid g2.fh hp2)) (c2.laid hp2) (g12.back c2 hp2) (ex_none g2.fh hp2) upd_same ((r1.mono g2.ff).rep _)
      · cases h3
    · cases h3
/-! [..][::step], step 1 or -1 -/
@[simp] def lStep (fa fb : DE) : DL := fun ρ k => (fa ρ k).bind fun p => (fb ρ p.2).bind fun q => match p.1, q.1 with
  | .list ds, .int i => if i = 1 then some (ds, q.2) else if i = -1 then some (ds.reverse, q.2) else none
  | _, _ => none
theorem l_step {p3 : Pos} {st : Expr} {fa fb : DE} (ha : PE X a (tO X.K m fa)) (hb : PE X st (tO X.K m fb)) (hsub : ∀ o i, subscripted (.Slice none none (some st) p3) false o i = operate [o, i] (getItem o i) := by intro _ _; rfl)
    : PE X (.Subscript a (.Slice none none (some st) p3) pos) (tL X.K m (lStep fa fb)) := by
  refine ⟨fun pins s σ H Q I ⟨F, ρ, k, d, k', R, hf, q⟩ => ?_⟩
  unfold lStep at hf
  obtain ⟨⟨x, k1⟩, h1, hf⟩ := Option.bind_eq_some_iff.mp hf
  obtain ⟨⟨y, k2⟩, h2, hf⟩ := Option.bind_eq_some_iff.mp hf
  cases x with
  | list ds =>
    cases y with
    | int i =>
      replace hf : (if i = 1 then some (ds, k2) else if i = -1 then some (ds.reverse, k2) else none) = some (d, k') := hf
      refine Subscript_ (thn (ha.run pins s σ H (fun v H1 => ∃ F1, Grow m F H F1 H1 ∧ Ctr m F1 H1 k1 ∧ Ro X.K m F1 H1 v (.list ds)) I ⟨F, ρ, k, _, k1, R, h1, fun v F1 H1 g c r => ⟨F1, g, c, r⟩⟩) fun v s1 ⟨x, H1, I1, r1, F1, g1, c1, q1⟩ => ?_)
      obtain ⟨a0, xs, ex, hx, qa⟩ := q1.lst g1.fh
      subst ex
      cases r1
      refine wpAny_Slice (thn (po_none.run pins s1 σ H1 (fun o H2 => o = none ∧ H2 = H1) I1 ⟨rfl, rfl⟩) fun vl s2 ⟨l, H2, I2, pl, el, e2⟩ => ?_)
      subst el e2
      refine thn (po_none.run pins s2 σ H2 (fun o H3 => o = none ∧ H3 = H2) I2 ⟨rfl, rfl⟩) fun vu s3 ⟨u, H3, I3, pu, eu, e3⟩ => ?_
      subst eu e3
      refine thn ((po_some hb).run pins s3 σ H3 (fun o H4 => o = some i ∧ ∃ F4, Grow m F1 H3 F4 H4 ∧ Ctr m F4 H4 k2) I3 ⟨F1, ρ, k1, _, k2, R.grow g1 c1, h2, fun v F4 H4 g4 c4 r4 => ⟨i, r4.int, rfl, F4, g4, c4⟩⟩) fun vs s4 ⟨o, H4, I4, ps, eo, F4, g4, c4⟩ => ?_
      subst eo
      have I5 : Inv X pins σ H4 { s4 with heap := s4.heap.push { cls := .type "slice", data := .fields #[vl, vu, vs] } } := I4.kept (t' := s4.toks) fun b ob q => Heap.get?_push_of_some _ q
      have q4 := q1.grow g4
      obtain ⟨a1, xs', ex', hx', qa'⟩ := q4.lst g4.fh
      cases ex'
      obtain ⟨its, r, ht, hz⟩ := I5.list hx'
      have hlen := r.length
      show wpAny (model X.prog X.w) X.A (subscriptTail a (.Slice none none (some st) p3) (.ref a0) (.ref s4.heap.objs.size)) (EP X pins σ Q) X.xe { s4 with heap := s4.heap.push { cls := .type "slice", data := .fields #[vl, vu, vs] } }
      refine tail_any (ops := [.ref a0, .ref s4.heap.objs.size]) ht.isList.typeIs (PySem.slot_list_getitem.lookup) ?_ (hsub _ _)
      have h0 : some i ≠ some (0 : Int) := fun z => by
        cases z
        simp at hf
      refine wpAny_getItem_list_slice ht.isList (Heap.IsSliceOf.new _ vl vu vs) pl pu ps h0 ?_ (by rw [List.size_toArray]; omega)
      have g14 := g1.trans c1 g4
      by_cases hi : i = 1
      · subst hi
        rw [if_pos rfl] at hf
        cases hf
        have e1 : slicePick its.toArray none none (some 1) = its.toArray := by
          show slicePick its.toArray none none none = its.toArray
          rw [slicePick_cut, HT.sIx_none, HT.sIx_none]
          simp
        rw [e1]
        have hn := I5.hok.fresh (Nat.le_refl _)
        refine ⟨.ref _, _, I5.laid (t' := s4.toks) (o := .lst xs') (fun b ob q => Heap.get?_push_of_some _ q) (Nat.le_refl _) ⟨hz, _, 0, r, Heap.get?_push_size _ rfl⟩, rfl, ?_⟩
        exact q _ _ F4 _ (g14.trans c4 (Grow.laid g4.fh hn)) (c4.laid hn) (g14.back c4 hn) (ex_none g4.fh hn) upd_same qa'
      · rw [if_neg hi] at hf
        by_cases hi2 : i = -1
        · subst hi2
          rw [if_pos rfl] at hf
          cases hf
          rw [PySem.W.krv_pick]
          have hn := I5.hok.fresh (Nat.le_refl _)
          refine ⟨.ref _, _, I5.laid (t' := s4.toks) (o := .lst xs'.reverse) (fun b ob q => Heap.get?_push_of_some _ q) (Nat.le_refl _) ⟨by rw [List.length_reverse]; exact hz, _, 0, r.reverse, Heap.get?_push_size _ rfl⟩, rfl, ?_⟩
          exact q _ _ F4 _ (g14.trans c4 (Grow.laid g4.fh hn)) (c4.laid hn) (g14.back c4 hn) (ex_none g4.fh hn) upd_same qa'.reverse
        · rw [if_neg hi2] at hf
          cases hf
    | _ => cases hf
  | _ => cases hf
end
end Dn

set_option Elab.async false
set_option linter.all false
set_option maxRecDepth 100000
set_option maxHeartbeats 1000000
namespace Dn
open PySem PySem.Spec PyProof.Rows L2 Evl
section
variable {X : Cx} {m : Option Addr} {a b c e : Expr} {es : List Expr} {pos : Pos}
theorem e_dnew : PE X (.Dict [] [] pos) (tE X.K m (dC (.dict []))) := impPE pe_dnewK fun σ H Q ⟨F, ρ, k, d, k', R, hf, q⟩ => by
  cases hf
  intro p hp
  have g : Grow m F H (upd F p (.dK [])) (upd H p (.dK [])) := (Grow.laid R.sub hp).freeze hp upd_same
  exact q _ _ _ g ((R.ctr.laid hp).freeze (R.ctr.ne hp)) (.dK (kvs := []) upd_same .nil)
@[simp] def asK : Dt → Option Key
  | .int i => some (.inl i)
  | .str x => some (.inr x)
  | _ => none
theorem asK_eq {d : Dt} {k : Key} (h : asK d = some k) : d = keyD k := by
  cases d <;> simp [asK] at h <;> subst h <;> rfl
theorem Rp.key {K : Fr} {F : Hp} {v : V} {k : Key} (r : Rp K m F v (keyD k)) : v = kV k := by
  rcases k with i | x
  · cases r
    rfl
  · cases r
    rfl
@[simp] def dD1 (fk fv : DE) : DE := fun ρ k => (fk ρ k).bind fun p => (fv ρ p.2).bind fun q => (asK p.1).bind fun _ => some (.dict [(p.1, q.1)], q.2)
theorem e_d1 {fk fv : DE} (hk : PE X a (tE X.K m fk)) (hv : PE X b (tE X.K m fv)) : PE X (.Dict [some a] [b] pos) (tE X.K m (dD1 fk fv)) :=
  impPE (pe_disp (pps_cons hk hv pps_nil) rfl rfl (fun z => by cases z) (by simp)) fun σ H Q ⟨F, ρ, k, d, k', R, hf, q⟩ => by
    unfold dD1 at hf
    obtain ⟨⟨x, k1⟩, h1, hf⟩ := Option.bind_eq_some_iff.mp hf
    obtain ⟨⟨y, k2⟩, h2, hf⟩ := Option.bind_eq_some_iff.mp hf
    obtain ⟨kk, h3, hf⟩ := Option.bind_eq_some_iff.mp hf
    cases hf
    intro p hp
    have g0 : Grow m F H F (upd H p (.dK [])) := Grow.laid R.sub hp
    have c0 := R.ctr.laid (o := .dK []) hp
    have hmp : m ≠ some p := R.ctr.ne hp
    refine ⟨F, ρ, k, x, k1, R.grow g0 c0, h1, fun v1 F1 H1 g1 c1 r1 => ⟨F1, ρ, k1, y, k2, (R.grow g0 c0).grow g1 c1, h2, fun v2 F2 H2 g2 c2 r2 => ?_⟩⟩
    have g02 := (g0.trans c0 g1).trans c1 g2
    have f0 : F p = none := ex_none R.sub hp
    have e2 : H2 p = some (.dK []) := g2.hh p _ hmp (g1.hh p _ hmp upd_same)
    have f1 : F1 p = none := g1.f_none f0 upd_same
    have f2 : F2 p = none := g2.f_none f1 (g1.hh p _ hmp upd_same)
    have ex := asK_eq h3
    subst ex
    have ev := (r1.mono g2.ff).key
    subst ev
    refine ⟨e2, [(kk, v2)], rfl, by simp, ?_⟩
    have em : mergeK [] [(kk, v2)] = [(kk, v2)] := rfl
    rw [em]
    have g3 : Grow m F H F2 (upd H2 p (.dK [(kk, v2)])) := g02.mut hp f2
    have c3 : Ctr m F2 (upd H2 p (.dK [(kk, v2)])) k2 := c2.mut hmp
    exact q _ _ _ (g3.freeze hp upd_same) (c3.freeze hmp) (.dK (kvs := [(kk, v2)]) (ds := [y]) upd_same (.cons (r2.mono (ex_freeze f2)) .nil))

theorem blkD {N : List Str} {sc scope : Scope} {own : List (Str × Nat)} (h : blkC N sc scope own = true) : blkC N sc scope own = true := h
theorem e_globX {x : Str} {i : Int} {pos : Pos} (hm : ∃ t, X.mg x = some (.int i t)) (hg : Gl X x := by rfl) (hd : (x == ("__debug__" : Str)) = false := by decide) : PE X (.Name x pos) (tE X.K m (dC (.int i))) := by
  obtain ⟨t, h⟩ := hm
  exact e_globI h hg hd
/-! more comparisons -/
@[simp] def gGt : Dt → Dt → Option Dt
  | .int a, .int b => some (.bool (decide (b < a)))
  | .str a, .str b => some (.bool (decide (b.cps.toList < a.cps.toList)))
  | _, _ => none
theorem ok_gt : OpR X (compareOp .Gt) (roD X.K m gGt) := by
  intro pins s σ H x y v u Q I rx ry ⟨F, k, dx, dy, d, e, c, r1, r2, hg, q⟩
  unfold gGt at hg
  split at hg
  · cases hg
    exact op_gt pins s σ H x y v u Q I rx ry ⟨_, _, r1.int, r2.int, ro_bl e c rfl q⟩
  · cases hg
    exact op_gt_str pins s σ H x y v u Q I rx ry ⟨_, _, r1.str, r2.str, ro_bl e c rfl q⟩
  · cases hg
theorem hu64 {j : Nat} {A : Around} (hr : Room j A) : A.units + 64 < cLine := hr.units
theorem hu65 {j : Nat} {A : Around} (hr : Room j A) : A.units + 65 < cLine := by
  have := hr.un
  omega
/-! a list comprehension given to a name -/
variable {F0 H0 : Hp} {W : WE}
theorem s_setLc (i : Nat) {y : Str} {py : Pos} {elt tg it : Expr} {ifs : List Expr} {scope : Scope} {own : List (Str × Nat)} {spos : Pos} {src : DL} {tch : List Nat} {g : DG} {t : DT} {f : DE} (hc : X.calm = true) (hN : X.N.Nodup) (hyl : X.env.scope.names.lookup y = some .local)
    (hsw : swapsWith (.ListComp elt [⟨tg, it, ifs, 0⟩] scope pos) (some (.Name y py)) spos.line X.env = pure true) (ok : blkC X.N X.env.scope scope own = true) (ht0 : ∀ j, j ∈ tch → j ∈ own.map (·.2)) (hi : PI X tg it (tIS X.K m src))
    (hg : ∀ (s : Shared) (H : Hp) (C : Addr) (cl : List (Str × Addr)) (fp : List Addr), PG (X.blk s H scope (compEnvC scope cl C X.env) fp) tg (tGd X.K m tch g)) (ht : ∀ (s : Shared) (H : Hp) (C : Addr) (cl : List (Str × Addr)) (fp : List Addr), PTs (X.blk s H scope (compEnvC scope cl C X.env) fp) ifs (tT X.K m t))
    (he : ∀ (s : Shared) (H : Hp) (C : Addr) (cl : List (Str × Addr)) (fp : List Addr), PE (X.blk s H scope (compEnvC scope cl C X.env) fp) elt (tE X.K m f)) (hy : X.N[i]? = some y := by rfl) (hs : ∀ x, foldedSetIterable it X.env x = pure x := by intro _; rfl) :
    PS X (.Assign [.Name y py] (.ListComp elt [⟨tg, it, ifs, 0⟩] scope pos) spos) (tS X.K m F0 H0 W (sSetL i (dLc src (own.map (·.2)) g t f))) := impPS (ps_setLc hc hN hy hyl hsw hi (blkOk_by ok) hg ht he hs) fun D σ H ⟨F, ρ, k, out, R, hf, q⟩ => by
  unfold sSetL at hf
  obtain ⟨⟨d, k1⟩, h1, hf⟩ := Option.bind_eq_some_iff.mp hf
  cases hf
  refine lc_in (m := m) ht0 ⟨F, ρ, k, d, k1, R.rl, h1, fun p vs F' H' g c hp fp ho r => q _ F' H' g.ff ⟨(R.rl.grow g c).set_ow rfl fp (R.rl.ctr.ne hp) ho ⟨vs, rfl, r⟩ fun j hj => hj.known R.rl hp, R.gr.trans R.rl.ctr g, fun j q' h => ?_⟩⟩
  rcases own_set_ow h with ⟨_, e⟩ | ⟨_, h⟩
  · cases e
    exact R.fresh hp
  · exact R.own j q' h
end
end Dn

set_option Elab.async false
set_option linter.all false
set_option maxRecDepth 100000
set_option maxHeartbeats 1000000
namespace Dn
open PySem PySem.Spec PyProof.Rows L2 Evl
/-! ### the law itself: its first row makes the counter -/
def tSm (K : Fr) (W : WE) (f : DS) : TS := fun D σ H => ∃ m F0 H0, tS K m F0 H0 W f D σ H
theorem ss_any {X : Cx} {W : WE} {f : DS} {sts : List Stmt} (h : ∀ m F0 H0, PSs X sts (tS X.K m F0 H0 W f)) : PSs X sts (tSm X.K W f) := ⟨fun pins s σ H D I ⟨m, F0, H0, w⟩ => (h m F0 H0).run pins s σ H D I w⟩
@[simp] def lawEnv (sl i : Nat) (ns : List Int) : Ev := (startE sl [.list (ns.map .int)]).set i (.sh ctrD)
@[simp] def lawRun (sl i : Nat) (body : DS) (ns : List Int) : Option Dt := (body (lawEnv sl i ns) 0).bind fun o => match o with
  | .ret d _ => some d
  | _ => none
def spLaw (K : Fr) : Sp := fun vs H Q _ => ∃ (a : Addr) (ns : List Int), vs = [.ref a] ∧ SqL K H a (ns.map V.int) ∧ ns.length ≤ 63 ∧ ∀ H', Q (.bl true) H'
theorem RpA.ints {K : Fr} {m : Option Addr} {F : Hp} : ∀ {ns : List Int}, RpA K m F (ns.map V.int) (ns.map .int)
  | [] => .nil
  | n :: ns => .cons (.int n) RpA.ints
section
variable {P : Program} {w : World} {K : Fr} {mg : Str → Option Value} {base : Heap}
theorem fn_law {x qual : Str} {st st1 : Stmt} {sts : List Stmt} {f : Addr} {fd : FuncData} {N : List Str} {p0 : Str} {j i : Nat} (G : Fun K x qual st f fd) (S : FnScope N [p0] (defScope st)) (body : DS) (eb : defBody st = st1 :: sts) (hi : 0 < i ∧ i < N.length)
    (h1 : ∀ (cdv : Value) (A : Around) (outer : List PySem.Env) (s : Shared) (H : Hp) (E : XK), PS (cxOf CX0 P w K mg base N qual (defScope st) f cdv A outer s H E).nox st1 (tAsg (tLst (tCons (tC (.int 0)) tNil)) (gName i)))
    (hb : ∀ (cdv : Value) (A : Around) (outer : List PySem.Env) (s : Shared) (H : Hp) (E : XK) (m : Option Addr) (F0 H0 : Hp), Room j (A.deeper (envOfC qual (defScope st) s.heap.objs.size f cdv)) →
      PSs (cxOf CX0 P w K mg base N qual (defScope st) f cdv A outer s H E).nox sts (tS K m F0 H0 (fun _ _ => False) body))
    (hl : ∀ ns : List Int, ns.length ≤ 63 → lawRun N.length i body ns = some (.bool true)) : FnOk P w K mg base CX0 (j + 1) f fd [p0] (spLaw K) := by
  refine G.ok S (fun vs H Q E h => ?_) (fun cdv A outer s H vs Q E hr h => ?_)
  · obtain ⟨a, ns, rfl, _⟩ := h
    rfl
  · obtain ⟨a, ns, rfl, hS, hlen, q⟩ := h
    rw [eb]
    refine ⟨_, pss_cons (h1 cdv A outer s H E) (ss_any (X := (cxOf CX0 P w K mg base N qual (defScope st) f cdv A outer s H E).nox) (W := fun _ _ => False) (f := body) fun m F0 H0 => hb cdv A outer s H E m F0 H0 hr), ?_⟩
    refine ⟨by decide, fun p hp => ?_⟩
    have hrun := hl ns hlen
    unfold lawRun at hrun
    obtain ⟨o, ho, hrun⟩ := Option.bind_eq_some_iff.mp hrun
    have e0 : Ex H H := Ex.refl H
    have c0 : Ctr none H H 0 := fun a e => nomatch e
    have r0 : RpA K (some p) H [.ref a] [.list (ns.map .int)] := .cons (.lst hS RpA.ints) .nil
    have eH : Ex H (upd H p (.lst [.int 0])) := Ex.new hp
    have c1 : Ctr (some p) H (upd H p (.lst [.int 0])) 0 := fun b eb => by
      cases eb
      exact ⟨upd_same, hp⟩
    have R1 : Rl K (some p) H (startE N.length [.list (ns.map .int)]) 0 (L2.start N [.ref a]) (upd H p (.lst [.int 0])) := rl_start eH c1 r0
    have R2 := R1.set_sh (i := i) (d := ctrD) (v := .ref p) (.ctr rfl)
    refine ⟨some p, H, upd H p (.lst [.int 0]), H, _, 0, o, ⟨R2, .refl eH, fun j q h => ?_⟩, ho, ?_⟩
    · obtain ⟨⟨c, h1, h2, _⟩, _⟩ := own_set_sh h
      exact (startE_ow h1 h2).elim
    · cases o with
      | ret d k =>
        cases hrun
        exact fun v F H' _ _ r => by
          cases r
          exact q H'
      | _ => cases hrun
end
end Dn

set_option Elab.async false
set_option linter.all false
set_option maxRecDepth 100000
set_option maxHeartbeats 1000000
namespace Dn
open PySem PySem.Spec PyProof.Rows L2 Evl

@[simp] theorem lcLoop_nil (ρ : Ev) (g : DG) (t : DT) (e : DE) (k : Int) : lcLoop ρ g t e [] k = some ([], k) := rfl
@[simp] theorem forLoop_nil (g : DG) (b : DS) (ρ : Ev) (k : Int) : forLoop g b [] ρ k = some (.next ρ k) := rfl
theorem lc_pure {ρ : Ev} {g : DG} {t : DT} {e : DE} {k : Int} (b : Dt → Bool) (v : Dt → Dt) : ∀ {ds : List Dt}, (∀ d ∈ ds, ∃ ρ', g ρ d = some ρ' ∧ t ρ' k = some (b d, k) ∧ (b d = true → e ρ' k = some (v d, k))) → lcLoop ρ g t e ds k = some ((ds.filter b).map v, k)
  | [], _ => rfl
  | d :: ds, h => by
    obtain ⟨ρ', h1, h2, h3⟩ := h d List.mem_cons_self
    have ih := lc_pure b v (ds := ds) fun d hd => h d (List.mem_cons_of_mem _ hd)
    cases hb : b d with
    | true => simp [lcLoop, h1, h2, hb, h3 hb, ih, List.filter_cons]
    | false => simp [lcLoop, h1, h2, hb, ih, List.filter_cons]
theorem lc_map {ρ : Ev} {g : DG} {e : DE} {k : Int} (v : Dt → Dt) {ds : List Dt} (h : ∀ d ∈ ds, ∃ ρ', g ρ d = some ρ' ∧ e ρ' k = some (v d, k)) : lcLoop ρ g tAll e ds k = some (ds.map v, k) := by
  have := lc_pure (ρ := ρ) (g := g) (t := tAll) (e := e) (k := k) (fun _ => true) v (ds := ds) fun d hd => by
    obtain ⟨ρ', h1, h2⟩ := h d hd
    exact ⟨ρ', h1, rfl, fun _ => h2⟩
  rw [this, List.filter_eq_self.mpr (fun _ _ => rfl)]
@[simp] theorem asBs_map : ∀ bs : List Bool, asBs (bs.map .bool) = some bs
  | [] => rfl
  | b :: bs => by simp [asBs_map bs]
@[simp] theorem asSs_map : ∀ bs : List Str, asSs (bs.map .str) = some bs
  | [] => rfl
  | b :: bs => by simp [asSs_map bs]
@[simp] theorem asBs_map' {α : Type} (f : α → Bool) (xs : List α) : asBs (xs.map (PyData.bool ∘ f)) = some (xs.map f) := by
  rw [← asBs_map, List.map_map]
@[simp] theorem isCtr_none : isCtr .none = false := rfl
@[simp] theorem isCtr_bool (b : Bool) : isCtr (.bool b) = false := rfl
@[simp] theorem isCtr_int (b : Int) : isCtr (.int b) = false := rfl
@[simp] theorem isCtr_str (b : Str) : isCtr (.str b) = false := rfl
@[simp] theorem isCtr_list (b : List Dt) : isCtr (.list b) = false := rfl
@[simp] theorem isCtr_tuple (b : List Dt) : isCtr (.tuple b) = false := rfl
@[simp] theorem isCtr_ctr : isCtr ctrD = true := rfl
@[simp] theorem leD_int (a b : Int) : leD (.int a) (.int b) = some (decide (a ≤ b)) := by rw [leD]
@[simp] theorem leD_str (a b : Str) : leD (.str a) (.str b) = some (!decide (b.cps.toList < a.cps.toList)) := by rw [leD]
@[simp] theorem leD_tuple (a b : List Dt) : leD (.tuple a) (.tuple b) = leA a b := by rw [leD]
@[simp] theorem ltD_int (a b : Int) : ltD (.int a) (.int b) = some (decide (a < b)) := by rw [ltD]
@[simp] theorem ltD_str (a b : Str) : ltD (.str a) (.str b) = some (decide (a.cps.toList < b.cps.toList)) := by rw [ltD]
@[simp] theorem ltD_tuple (a b : List Dt) : ltD (.tuple a) (.tuple b) = ltA a b := by rw [ltD]
@[simp] theorem leA_nil (ys : List Dt) : leA [] ys = some true := by rw [leA]
@[simp] theorem leA_cons_nil (x : Dt) (xs : List Dt) : leA (x :: xs) [] = some false := by rw [leA]
@[simp] theorem leA_cons (x y : Dt) (xs ys : List Dt) : leA (x :: xs) (y :: ys) = (leA xs ys).bind fun r => if PyData.eqv x y = true then some r else leD x y := by rw [leA]
@[simp] theorem ltA_nil_nil : ltA [] [] = some false := by rw [ltA]
@[simp] theorem ltA_nil_cons (y : Dt) (ys : List Dt) : ltA [] (y :: ys) = some true := by rw [ltA]
@[simp] theorem ltA_cons_nil (x : Dt) (xs : List Dt) : ltA (x :: xs) [] = some false := by rw [ltA]
@[simp] theorem ltA_cons (x y : Dt) (xs ys : List Dt) : ltA (x :: xs) (y :: ys) = (ltA xs ys).bind fun r => if PyData.eqv x y = true then some r else ltD x y := by rw [ltA]
@[simp] theorem eqv_none_none   : PyData.eqv .none .none = true := by rw [PyData.eqv]
@[simp] theorem eqv_none_bool  (b : Bool) : PyData.eqv .none (.bool b) = false := by rw [PyData.eqv]
@[simp] theorem eqv_none_int  (b : Int) : PyData.eqv .none (.int b) = false := by rw [PyData.eqv]
@[simp] theorem eqv_none_str  (b : Str) : PyData.eqv .none (.str b) = false := by rw [PyData.eqv]
@[simp] theorem eqv_none_list  (b : List Dt) : PyData.eqv .none (.list b) = false := by rw [PyData.eqv]
@[simp] theorem eqv_none_tuple  (b : List Dt) : PyData.eqv .none (.tuple b) = false := by rw [PyData.eqv]
@[simp] theorem eqv_none_dict  (b : List (Dt × Dt)) : PyData.eqv .none (.dict b) = false := by rw [PyData.eqv]
@[simp] theorem eqv_bool_none (a : Bool)  : PyData.eqv (.bool a) .none = false := by rw [PyData.eqv]
@[simp] theorem eqv_bool_bool (a : Bool) (b : Bool) : PyData.eqv (.bool a) (.bool b) = (a == b) := by rw [PyData.eqv]
@[simp] theorem eqv_bool_int (a : Bool) (b : Int) : PyData.eqv (.bool a) (.int b) = ((if a then 1 else 0) == b) := by rw [PyData.eqv]
@[simp] theorem eqv_bool_str (a : Bool) (b : Str) : PyData.eqv (.bool a) (.str b) = false := by rw [PyData.eqv]
@[simp] theorem eqv_bool_list (a : Bool) (b : List Dt) : PyData.eqv (.bool a) (.list b) = false := by rw [PyData.eqv]
@[simp] theorem eqv_bool_tuple (a : Bool) (b : List Dt) : PyData.eqv (.bool a) (.tuple b) = false := by rw [PyData.eqv]
@[simp] theorem eqv_bool_dict (a : Bool) (b : List (Dt × Dt)) : PyData.eqv (.bool a) (.dict b) = false := by rw [PyData.eqv]
@[simp] theorem eqv_int_none (a : Int)  : PyData.eqv (.int a) .none = false := by rw [PyData.eqv]
@[simp] theorem eqv_int_bool (a : Int) (b : Bool) : PyData.eqv (.int a) (.bool b) = (a == (if b then 1 else 0)) := by rw [PyData.eqv]
@[simp] theorem eqv_int_int (a : Int) (b : Int) : PyData.eqv (.int a) (.int b) = (a == b) := by rw [PyData.eqv]
@[simp] theorem eqv_int_str (a : Int) (b : Str) : PyData.eqv (.int a) (.str b) = false := by rw [PyData.eqv]
@[simp] theorem eqv_int_list (a : Int) (b : List Dt) : PyData.eqv (.int a) (.list b) = false := by rw [PyData.eqv]
@[simp] theorem eqv_int_tuple (a : Int) (b : List Dt) : PyData.eqv (.int a) (.tuple b) = false := by rw [PyData.eqv]
@[simp] theorem eqv_int_dict (a : Int) (b : List (Dt × Dt)) : PyData.eqv (.int a) (.dict b) = false := by rw [PyData.eqv]
@[simp] theorem eqv_str_none (a : Str)  : PyData.eqv (.str a) .none = false := by rw [PyData.eqv]
@[simp] theorem eqv_str_bool (a : Str) (b : Bool) : PyData.eqv (.str a) (.bool b) = false := by rw [PyData.eqv]
@[simp] theorem eqv_str_int (a : Str) (b : Int) : PyData.eqv (.str a) (.int b) = false := by rw [PyData.eqv]
@[simp] theorem eqv_str_str (a : Str) (b : Str) : PyData.eqv (.str a) (.str b) = (a == b) := by rw [PyData.eqv]
@[simp] theorem eqv_str_list (a : Str) (b : List Dt) : PyData.eqv (.str a) (.list b) = false := by rw [PyData.eqv]
@[simp] theorem eqv_str_tuple (a : Str) (b : List Dt) : PyData.eqv (.str a) (.tuple b) = false := by rw [PyData.eqv]
@[simp] theorem eqv_str_dict (a : Str) (b : List (Dt × Dt)) : PyData.eqv (.str a) (.dict b) = false := by rw [PyData.eqv]
@[simp] theorem eqv_list_none (a : List Dt)  : PyData.eqv (.list a) .none = false := by rw [PyData.eqv]
@[simp] theorem eqv_list_bool (a : List Dt) (b : Bool) : PyData.eqv (.list a) (.bool b) = false := by rw [PyData.eqv]
@[simp] theorem eqv_list_int (a : List Dt) (b : Int) : PyData.eqv (.list a) (.int b) = false := by rw [PyData.eqv]
@[simp] theorem eqv_list_str (a : List Dt) (b : Str) : PyData.eqv (.list a) (.str b) = false := by rw [PyData.eqv]
@[simp] theorem eqv_list_list (a : List Dt) (b : List Dt) : PyData.eqv (.list a) (.list b) = PyData.eqvAll a b := by rw [PyData.eqv]
@[simp] theorem eqv_list_tuple (a : List Dt) (b : List Dt) : PyData.eqv (.list a) (.tuple b) = false := by rw [PyData.eqv]
@[simp] theorem eqv_list_dict (a : List Dt) (b : List (Dt × Dt)) : PyData.eqv (.list a) (.dict b) = false := by rw [PyData.eqv]
@[simp] theorem eqv_tuple_none (a : List Dt)  : PyData.eqv (.tuple a) .none = false := by rw [PyData.eqv]
@[simp] theorem eqv_tuple_bool (a : List Dt) (b : Bool) : PyData.eqv (.tuple a) (.bool b) = false := by rw [PyData.eqv]
@[simp] theorem eqv_tuple_int (a : List Dt) (b : Int) : PyData.eqv (.tuple a) (.int b) = false := by rw [PyData.eqv]
@[simp] theorem eqv_tuple_str (a : List Dt) (b : Str) : PyData.eqv (.tuple a) (.str b) = false := by rw [PyData.eqv]
@[simp] theorem eqv_tuple_list (a : List Dt) (b : List Dt) : PyData.eqv (.tuple a) (.list b) = false := by rw [PyData.eqv]
@[simp] theorem eqv_tuple_tuple (a : List Dt) (b : List Dt) : PyData.eqv (.tuple a) (.tuple b) = PyData.eqvAll a b := by rw [PyData.eqv]
@[simp] theorem eqv_tuple_dict (a : List Dt) (b : List (Dt × Dt)) : PyData.eqv (.tuple a) (.dict b) = false := by rw [PyData.eqv]
@[simp] theorem eqv_dict_none (a : List (Dt × Dt))  : PyData.eqv (.dict a) .none = false := by rw [PyData.eqv]
@[simp] theorem eqv_dict_bool (a : List (Dt × Dt)) (b : Bool) : PyData.eqv (.dict a) (.bool b) = false := by rw [PyData.eqv]
@[simp] theorem eqv_dict_int (a : List (Dt × Dt)) (b : Int) : PyData.eqv (.dict a) (.int b) = false := by rw [PyData.eqv]
@[simp] theorem eqv_dict_str (a : List (Dt × Dt)) (b : Str) : PyData.eqv (.dict a) (.str b) = false := by rw [PyData.eqv]
@[simp] theorem eqv_dict_list (a : List (Dt × Dt)) (b : List Dt) : PyData.eqv (.dict a) (.list b) = false := by rw [PyData.eqv]
@[simp] theorem eqv_dict_tuple (a : List (Dt × Dt)) (b : List Dt) : PyData.eqv (.dict a) (.tuple b) = false := by rw [PyData.eqv]
@[simp] theorem eqv_dict_dict (a : List (Dt × Dt)) (b : List (Dt × Dt)) : PyData.eqv (.dict a) (.dict b) = false := by rw [PyData.eqv]
@[simp] theorem eqvAll_nil : PyData.eqvAll [] [] = true := by rw [PyData.eqvAll]
@[simp] theorem eqvAll_nil_cons (y : Dt) (ys : List Dt) : PyData.eqvAll [] (y :: ys) = false := by rw [PyData.eqvAll]
@[simp] theorem eqvAll_cons_nil (y : Dt) (ys : List Dt) : PyData.eqvAll (y :: ys) [] = false := by rw [PyData.eqvAll]
@[simp] theorem eqvAll_cons (x y : Dt) (xs ys : List Dt) : PyData.eqvAll (x :: xs) (y :: ys) = (PyData.eqv x y && PyData.eqvAll xs ys) := by rw [PyData.eqvAll]
@[simp] theorem lay_none  : PyData.none.canLay0 = true := by rw [PyData.canLay0]
@[simp] theorem depth_none  : PyData.none.depth = 0 := by rw [PyData.depth]
@[simp] theorem lay_bool (a : Bool) : (PyData.bool a).canLay0 = true := by rw [PyData.canLay0]
@[simp] theorem depth_bool (a : Bool) : (PyData.bool a).depth = 0 := by rw [PyData.depth]
@[simp] theorem lay_int (a : Int) : (PyData.int a).canLay0 = true := by rw [PyData.canLay0]
@[simp] theorem depth_int (a : Int) : (PyData.int a).depth = 0 := by rw [PyData.depth]
@[simp] theorem lay_str (a : Str) : (PyData.str a).canLay0 = PyData.strOk a := by rw [PyData.canLay0]
@[simp] theorem depth_str (a : Str) : (PyData.str a).depth = 0 := by rw [PyData.depth]
@[simp] theorem lay_list (a : List Dt) : (PyData.list a).canLay0 = PyData.canLayAll0 a := by rw [PyData.canLay0]
@[simp] theorem depth_list (a : List Dt) : (PyData.list a).depth = PyData.depthAll a + 1 := by rw [PyData.depth]
@[simp] theorem lay_tuple (a : List Dt) : (PyData.tuple a).canLay0 = PyData.canLayAll0 a := by rw [PyData.canLay0]
@[simp] theorem depth_tuple (a : List Dt) : (PyData.tuple a).depth = PyData.depthAll a + 1 := by rw [PyData.depth]
@[simp] theorem lay_dict (a : List (Dt × Dt)) : (PyData.dict a).canLay0 = false := by rw [PyData.canLay0]
@[simp] theorem depth_dict (a : List (Dt × Dt)) : (PyData.dict a).depth = PyData.depthKv a + 1 := by rw [PyData.depth]
@[simp] theorem layAll_nil : PyData.canLayAll0 [] = true := by rw [PyData.canLayAll0]
@[simp] theorem layAll_cons (x : Dt) (xs : List Dt) : PyData.canLayAll0 (x :: xs) = (x.canLay0 && PyData.canLayAll0 xs) := by rw [PyData.canLayAll0]
@[simp] theorem depthAll_nil : PyData.depthAll [] = 0 := by rw [PyData.depthAll]
@[simp] theorem depthAll_cons (x : Dt) (xs : List Dt) : PyData.depthAll (x :: xs) = max x.depth (PyData.depthAll xs) := by rw [PyData.depthAll]
theorem okD_eq (d : Dt) : okD d = (d.canLay0 && decide (d.depth ≤ 64)) := rfl
theorem okAll {n : Nat} : ∀ {ds : List Dt}, (∀ d ∈ ds, d.canLay0 = true ∧ d.depth ≤ n) → PyData.canLayAll0 ds = true ∧ PyData.depthAll ds ≤ n
  | [], _ => by simp
  | d :: ds, h => by
    obtain ⟨h1, h2⟩ := h d List.mem_cons_self
    obtain ⟨h3, h4⟩ := okAll (ds := ds) fun e he => h e (List.mem_cons_of_mem _ he)
    simp [h1, h3, h2, h4]
    omega
theorem okL {ds : List Dt} (h : ∀ d ∈ ds, d.canLay0 = true ∧ d.depth ≤ 63) : okD (.list ds) = true := by
  obtain ⟨h1, h2⟩ := okAll h
  simp [okD_eq, h1]
  omega
theorem okT {ds : List Dt} (h : ∀ d ∈ ds, d.canLay0 = true ∧ d.depth ≤ 63) : okD (.tuple ds) = true := by
  obtain ⟨h1, h2⟩ := okAll h
  simp [okD_eq, h1]
  omega
@[simp] theorem eqvAll_empty (xs : List Dt) : PyData.eqvAll xs [] = xs.isEmpty := by cases xs <;> simp
@[simp] theorem atI_0 {α : Type} (a : α) (l : List α) : L2.atI (a :: l) 0 = some a := by
  have := L2.atI_nat (xs := a :: l) (j := 0) (v := a) rfl
  exact this
@[simp] theorem atI_1 {α : Type} (a b : α) (l : List α) : L2.atI (a :: b :: l) 1 = some b := by
  have := L2.atI_nat (xs := a :: b :: l) (j := 1) (v := b) rfl
  exact this
@[simp] theorem okD_nil : okD (.list []) = true := by simp [okD_eq]
@[simp] theorem okD_int (i : Int) : okD (.int i) = true := by simp [okD_eq]
@[simp] theorem okD_bool (i : Bool) : okD (.bool i) = true := by simp [okD_eq]
@[simp] theorem okD_none : okD .none = true := by simp [okD_eq]
end Dn

set_option Elab.async false
set_option linter.all false
set_option maxRecDepth 100000
set_option maxHeartbeats 2000000
namespace K01
open PySem PySem.Spec PyProof.Rows L2 Evl Dn
def topS (i : Nat) : Stmt := PySem.Challenge.pw_cutjoin_k01_pieces_and_ends.main.body.getD i (.Pass ⟨0, 0, 0, 0⟩)
structure Dfn (K : Fr) (mg : Str → Option Value) (x : Str) (st : Stmt) (ps : List Str) (f : Addr) (fd : FuncData) : Prop where
  F : Fun K x x st f fd
  g : mg x = some (.ref f)
  b : Binds K fd ps []
theorem boot_all : bootBuiltins "all" = some (.builtin "all") := by decide +kernel
theorem boot_bool : bootBuiltins "bool" = some (.type "bool") := by decide +kernel
theorem boot_int : bootBuiltins "int" = some (.type "int") := by decide +kernel
theorem boot_isinstance : bootBuiltins "isinstance" = some (.builtin "isinstance") := by decide +kernel
theorem boot_len : bootBuiltins "len" = some (.builtin "len") := by decide +kernel
theorem boot_max : bootBuiltins "max" = some (.builtin "max") := by decide +kernel
theorem boot_str : bootBuiltins "str" = some (.type "str") := by decide +kernel
theorem boot_tuple : bootBuiltins "tuple" = some (.type "tuple") := by decide +kernel
theorem boot_type : bootBuiltins "type" = some (.type "type") := by decide +kernel
structure Txt (K : Fr) (mg : Str → Option Value) (ad : Nat → Addr) (fds : Nat → FuncData) : Prop where
  b_all : mg "all" = none
  b_bool : mg "bool" = none
  b_int : mg "int" = none
  b_isinstance : mg "isinstance" = none
  b_len : mg "len" = none
  b_max : mg "max" = none
  b_range : mg "range" = none
  b_str : mg "str" = none
  b_tuple : mg "tuple" = none
  b_type : mg "type" = none
  c_TAIL : ∃ t, mg "TAIL" = some (.int 0 t)
  c_HEAD : ∃ t, mg "HEAD" = some (.int 1 t)
  c_LONGEST_NAME : ∃ t, mg "LONGEST_NAME" = some (.int 8 t)
  f_is_name : Dfn K mg "is_name" (topS 4) ["thing"] (ad 4) (fds 4)
  f_is_piece : Dfn K mg "is_piece" (topS 5) ["thing"] (ad 5) (fds 5)
  f_is_end : Dfn K mg "is_end" (topS 6) ["thing"] (ad 6) (fds 6)
  f__is_name_with : Dfn K mg "_is_name_with" (topS 7) ["thing", "numbers"] (ad 7) (fds 7)
  f_begins : Dfn K mg "begins" (topS 8) ["piece"] (ad 8) (fds 8)
  f_ends : Dfn K mg "ends" (topS 9) ["piece"] (ad 9) (fds 9)
  f_other_end : Dfn K mg "other_end" (topS 10) ["end"] (ad 10) (fds 10)
  f_place_of : Dfn K mg "place_of" (topS 11) ["one", "other"] (ad 11) (fds 11)
  f__law_draw : Dfn K mg "_law_draw" (topS 13) ["_law_script", "_law_at", "_law_many"] (ad 13) (fds 13)
  f__law_name : Dfn K mg "_law_name" (topS 14) ["_law_script", "_law_at"] (ad 14) (fds 14)
  f__law_odd : Dfn K mg "_law_odd" (topS 15) ["_law_script", "_law_at", "_law_name_here"] (ad 15) (fds 15)
  f__law_is_name : Dfn K mg "_law_is_name" (topS 16) ["_law_thing"] (ad 16) (fds 16)
  f__law_is_pair : Dfn K mg "_law_is_pair" (topS 17) ["_law_thing", "_law_numbers"] (ad 17) (fds 17)
  f__law_told : Dfn K mg "_law_told" (topS 18) ["_law_thing"] (ad 18) (fds 18)
  f_law : Dfn K mg "law" (topS 19) ["_law_script"] (ad 19) (fds 19)
section
variable {P : Program} {w : World} {K : Fr} {mg : Str → Option Value} {base : Heap} {ad : Nat → Addr} {fds : Nat → FuncData}
/-! made by gen.py from the linked text's names alone -/
abbrev s_is_name : Stmt := topS 4
theorem sc_is_name : FnScope ["thing", "letter"] ["thing"] (defScope s_is_name) := ⟨rfl, rfl, rfl, by decide +kernel, rfl, by decide +kernel, by decide +kernel⟩
def e_is_name_1 : DE := (dChain gLe gLe (dC (.str ("a" : Str))) (dVarO 1) (dC (.str ("z" : Str))))
def b_is_name : DS := (sSeq (sIf (tOrD (tV (dU (gTyNe "str") (dVarO 0))) (tNotD (tV (dChain gLe gLe (dC (.int 1)) (dN gLen (aCons (dVarO 0) aNil)) (dC (.int 8)))))) (sRet (dC (.bool false))) sNext)
    (sRet (dN gAll (aCons (lD (dLc (dItems (dVar 0)) [1] (gSet 1) tAll e_is_name_1)) aNil))))
def d_is_name : Fn := dDef 1 2 b_is_name
theorem ok_is_name (T : Txt K mg ad fds) : FnOk P w K mg base CX0 1 (ad 4) (fds 4) ["thing"] (spD K d_is_name) :=
  fn_D T.f_is_name.F sc_is_name b_is_name fun cdv A outer s H E m F0 hr =>
    (ss_cons (s_if (t_w (w_or (t_tyNe (o_var 0) T.b_type T.b_str boot_str (by decide)) (w_or1 (t_not (t_chain (o_e e_int) (o_e (e_callB ok_len T.b_len boot_len (p_consO (o_var 0) p_nilO))) (o_e (e_globX T.c_LONGEST_NAME)) (ok_le (hu64 hr)) (ok_le (hu64 hr))))))) (ss_one (s_ret e_bl)) ss_nil)
      (ss_one (s_ret (e_callB (ok_all rfl) T.b_all boot_all (p_consO (o_l (l_lc rfl sc_is_name.nd (own := [(("letter" : Str), 1)]) (blkD (N := ["thing", "letter"]) (sc := defScope s_is_name) (by decide +kernel)) (by decide) (i_seq (e_var 0)) (fun _ _ _ _ _ => (g_name 1 sc_is_name.nd)) (fun _ _ _ _ _ => ts_nil) (fun _ _ _ _ _ => (e_chain (o_e e_str) (o_var 1) (o_e e_str) (ok_le (hu64 hr)) (ok_le (hu64 hr)))))) p_nilO)))))
abbrev s__is_name_with : Stmt := topS 7
theorem sc__is_name_with : FnScope ["thing", "numbers", "name", "number"] ["thing", "numbers"] (defScope s__is_name_with) := ⟨rfl, rfl, rfl, by decide +kernel, rfl, by decide +kernel, by decide +kernel⟩
def b__is_name_with : DS := (sSeq (sIf (tOrD (tV (dU (gTyNe "tuple") (dVarO 0))) (tV (dB gNe (dN gLen (aCons (dVarO 0) aNil)) (dC (.int 2))))) (sRet (dC (.bool false))) sNext)
    (sSeq (sAsg (dVar 0) (gTupG 2 (gConsD (gSet 2) (gConsD (gSet 3) gNilD))))
    (sRet (vAnd (dCall d_is_name (aCons (dVar 2) aNil)) (vAnd (dU (gTyEq "int") (dVarO 3)) (dB gIn (dVarO 3) (dVarO 1)))))))
def d__is_name_with : Fn := dDef 2 4 b__is_name_with
theorem ok__is_name_with (T : Txt K mg ad fds) : FnOk P w K mg base CX0 2 (ad 7) (fds 7) ["thing", "numbers"] (spD K d__is_name_with) :=
  fn_D T.f__is_name_with.F sc__is_name_with b__is_name_with fun cdv A outer s H E m F0 hr =>
    (ss_cons (s_if (t_w (w_or (t_tyNe (o_var 0) T.b_type T.b_tuple boot_tuple (by decide)) (w_or1 (t_cmp (o_e (e_callB ok_len T.b_len boot_len (p_consO (o_var 0) p_nilO))) (o_e e_int) (ok_ne (hu64 hr)) (nomark _))))) (ss_one (s_ret e_bl)) ss_nil)
      (ss_cons (s_asg (e_var 0) (g_tup rfl (gs_cons (g_name 2 sc__is_name_with.nd) (gs_cons (g_name 3 sc__is_name_with.nd) gs_nil))))
      (ss_one (s_ret (v_and (e_call (ok_is_name T) (hr.mono (by decide)) T.f_is_name.g T.f_is_name.F.kp T.f_is_name.b (p_cons (e_var 2) p_nil)) (v_and (e_tyEq (o_var 3) T.b_type T.b_int boot_int (by decide)) (v_one (e_cmp (o_var 3) (o_var 1) (ok_in (hu65 hr)) rfl))))))))
abbrev s_is_piece : Stmt := topS 5
theorem sc_is_piece : FnScope ["thing"] ["thing"] (defScope s_is_piece) := ⟨rfl, rfl, rfl, by decide +kernel, rfl, by decide +kernel, by decide +kernel⟩
def b_is_piece : DS := (sRet (dCall d__is_name_with (aCons (dVar 0) (aCons (dN gTupD (aCons (dC (.int 1)) (aCons (dU gNeg (dC (.int 1))) aNil))) aNil))))
def d_is_piece : Fn := dDef 1 1 b_is_piece
theorem ok_is_piece (T : Txt K mg ad fds) : FnOk P w K mg base CX0 3 (ad 5) (fds 5) ["thing"] (spD K d_is_piece) :=
  fn_D T.f_is_piece.F sc_is_piece b_is_piece fun cdv A outer s H E m F0 hr =>
    (ss_one (s_ret (e_call (ok__is_name_with T) (hr.mono (by decide)) T.f__is_name_with.g T.f__is_name_with.F.kp T.f__is_name_with.b (p_cons (e_var 0) (p_cons (e_tup (p_cons e_int (p_cons (e_un (o_e e_int) ok_neg) p_nil))) p_nil)))))
abbrev s_is_end : Stmt := topS 6
theorem sc_is_end : FnScope ["thing"] ["thing"] (defScope s_is_end) := ⟨rfl, rfl, rfl, by decide +kernel, rfl, by decide +kernel, by decide +kernel⟩
def b_is_end : DS := (sRet (dCall d__is_name_with (aCons (dVar 0) (aCons (dN gTupD (aCons (dC (.int 0)) (aCons (dC (.int 1)) aNil))) aNil))))
def d_is_end : Fn := dDef 1 1 b_is_end
theorem ok_is_end (T : Txt K mg ad fds) : FnOk P w K mg base CX0 3 (ad 6) (fds 6) ["thing"] (spD K d_is_end) :=
  fn_D T.f_is_end.F sc_is_end b_is_end fun cdv A outer s H E m F0 hr =>
    (ss_one (s_ret (e_call (ok__is_name_with T) (hr.mono (by decide)) T.f__is_name_with.g T.f__is_name_with.F.kp T.f__is_name_with.b (p_cons (e_var 0) (p_cons (e_tup (p_cons (e_globX T.c_TAIL) (p_cons (e_globX T.c_HEAD) p_nil))) p_nil)))))
abbrev s_begins : Stmt := topS 8
theorem sc_begins : FnScope ["piece", "name", "way"] ["piece"] (defScope s_begins) := ⟨rfl, rfl, rfl, by decide +kernel, rfl, by decide +kernel, by decide +kernel⟩
def b_begins : DS := (sSeq (sAsg (dVar 0) (gTupG 2 (gConsD (gSet 1) (gConsD (gSet 2) gNilD))))
    (sRet (dIf (tV (dB gEq (dVarO 2) (dC (.int 1)))) (dN gTupD (aCons (dVar 1) (aCons (dC (.int 0)) aNil))) (dN gTupD (aCons (dVar 1) (aCons (dC (.int 1)) aNil))))))
def d_begins : Fn := dDef 1 3 b_begins
theorem ok_begins (T : Txt K mg ad fds) : FnOk P w K mg base CX0 1 (ad 8) (fds 8) ["piece"] (spD K d_begins) :=
  fn_D T.f_begins.F sc_begins b_begins fun cdv A outer s H E m F0 hr =>
    (ss_cons (s_asg (e_var 0) (g_tup rfl (gs_cons (g_name 1 sc_begins.nd) (gs_cons (g_name 2 sc_begins.nd) gs_nil))))
      (ss_one (s_ret (e_if (t_cmp (o_var 2) (o_e e_int) (ok_eq (hu64 hr)) (nomark _)) (e_tup (p_cons (e_var 1) (p_cons (e_globX T.c_TAIL) p_nil))) (e_tup (p_cons (e_var 1) (p_cons (e_globX T.c_HEAD) p_nil)))))))
abbrev s_other_end : Stmt := topS 10
theorem sc_other_end : FnScope ["end", "name", "side"] ["end"] (defScope s_other_end) := ⟨rfl, rfl, rfl, by decide +kernel, rfl, by decide +kernel, by decide +kernel⟩
def b_other_end : DS := (sSeq (sAsg (dVar 0) (gTupG 2 (gConsD (gSet 1) (gConsD (gSet 2) gNilD))))
    (sRet (dN gTupD (aCons (dVar 1) (aCons (dB gSub (dC (.int 1)) (dVarO 2)) aNil)))))
def d_other_end : Fn := dDef 1 3 b_other_end
theorem ok_other_end (T : Txt K mg ad fds) : FnOk P w K mg base CX0 1 (ad 10) (fds 10) ["end"] (spD K d_other_end) :=
  fn_D T.f_other_end.F sc_other_end b_other_end fun cdv A outer s H E m F0 hr =>
    (ss_cons (s_asg (e_var 0) (g_tup rfl (gs_cons (g_name 1 sc_other_end.nd) (gs_cons (g_name 2 sc_other_end.nd) gs_nil))))
      (ss_one (s_ret (e_tup (p_cons (e_var 1) (p_cons (e_op (o_e e_int) (o_var 2) ok_sub) p_nil))))))
abbrev s_ends : Stmt := topS 9
theorem sc_ends : FnScope ["piece"] ["piece"] (defScope s_ends) := ⟨rfl, rfl, rfl, by decide +kernel, rfl, by decide +kernel, by decide +kernel⟩
def b_ends : DS := (sRet (dCall d_other_end (aCons (dCall d_begins (aCons (dVar 0) aNil)) aNil)))
def d_ends : Fn := dDef 1 1 b_ends
theorem ok_ends (T : Txt K mg ad fds) : FnOk P w K mg base CX0 2 (ad 9) (fds 9) ["piece"] (spD K d_ends) :=
  fn_D T.f_ends.F sc_ends b_ends fun cdv A outer s H E m F0 hr =>
    (ss_one (s_ret (e_call (ok_other_end T) (hr.mono (by decide)) T.f_other_end.g T.f_other_end.F.kp T.f_other_end.b (p_cons (e_call (ok_begins T) (hr.mono (by decide)) T.f_begins.g T.f_begins.F.kp T.f_begins.b (p_cons (e_var 0) p_nil)) p_nil))))
abbrev s_place_of : Stmt := topS 11
theorem sc_place_of : FnScope ["one", "other"] ["one", "other"] (defScope s_place_of) := ⟨rfl, rfl, rfl, by decide +kernel, rfl, by decide +kernel, by decide +kernel⟩
def b_place_of : DS := (sRet (dIf (tV (dB gLe (dVarO 0) (dVarO 1))) (dN gTupD (aCons (dVar 0) (aCons (dVar 1) aNil))) (dN gTupD (aCons (dVar 1) (aCons (dVar 0) aNil)))))
def d_place_of : Fn := dDef 2 2 b_place_of
theorem ok_place_of (T : Txt K mg ad fds) : FnOk P w K mg base CX0 1 (ad 11) (fds 11) ["one", "other"] (spD K d_place_of) :=
  fn_D T.f_place_of.F sc_place_of b_place_of fun cdv A outer s H E m F0 hr =>
    (ss_one (s_ret (e_if (t_cmp (o_var 0) (o_var 1) (ok_le (hu64 hr)) (nomark _)) (e_tup (p_cons (e_var 0) (p_cons (e_var 1) p_nil))) (e_tup (p_cons (e_var 1) (p_cons (e_var 0) p_nil))))))
abbrev s__law_draw : Stmt := topS 13
theorem sc__law_draw : FnScope ["_law_script", "_law_at", "_law_many", "_law_k", "_law_cells", "_law_number"] ["_law_script", "_law_at", "_law_many"] (defScope s__law_draw) := ⟨rfl, rfl, rfl, by decide +kernel, rfl, by decide +kernel, by decide +kernel⟩
def b__law_draw : DS := (sSeq (sAsg (dAt 1) (gSet 3))
    (sSeq (sAt 1 (dB gAdd (dVarO 3) (dC (.int 1))))
    (sSeq (sAsg (lD (dBL gCat (dVarO 0) (lD (lRep (dNL gLstD (aCons (dC (.int 0)) aNil)) (dN gInt (aCons (dB gEq (dVarO 0) (lD (dNL gLstD aNil))) aNil)))))) (gSet 4))
    (sSeq (sAsg (dB gMod (dB gMul (dB gAdd (dB gAdd (dB gMod (dB gIx (dVarO 4) (dB gMod (dVarO 3) (dN gLen (aCons (dVarO 4) aNil)))) (dC (.int 1000000007))) (dB gMul (dC (.int 31)) (dVarO 3))) (dC (.int 17))) (dC (.int 48271))) (dC (.int 2147483647))) (gSet 5))
    (sRet (dB gMod (dB gFdiv (dB gMod (dB gMul (dVarO 5) (dB gAdd (dB gMul (dVarO 3) (dVarO 3)) (dC (.int 16807)))) (dC (.int 2147483629))) (dC (.int 4096))) (dVarO 2)))))))
def d__law_draw : Fn := dDef 3 6 b__law_draw
theorem ok__law_draw (T : Txt K mg ad fds) : FnOk P w K mg base CX0 1 (ad 13) (fds 13) ["_law_script", "_law_at", "_law_many"] (spD K d__law_draw) :=
  fn_D T.f__law_draw.F sc__law_draw b__law_draw fun cdv A outer s H E m F0 hr =>
    (ss_cons (s_set 3 sc__law_draw.nd (e_at 1))
      (ss_cons (s_at 1 (e_op (o_var 3) (o_e e_int) ok_add))
      (ss_cons (s_set 4 sc__law_draw.nd (e_l (l_op (o_var 0) (o_l (l_rep (l_lst (p_cons e_int p_nil)) (o_e (e_callTy ok_int T.b_int boot_int (p_consO (o_e (e_cmp (o_var 0) (o_l (l_lst p_nil)) (ok_eq (hu64 hr)) (nomark _))) p_nilO))))) ok_cat)))
      (ss_cons (s_set 5 sc__law_draw.nd (e_op (o_e (e_op (o_e (e_op (o_e (e_op (o_e (e_op (o_e (e_ix (o_var 4) (o_e (e_op (o_var 3) (o_e (e_callB ok_len T.b_len boot_len (p_consO (o_var 4) p_nilO))) ok_mod)) ok_ix)) (o_e e_int) ok_mod)) (o_e (e_op (o_e e_int) (o_var 3) ok_mul)) ok_add)) (o_e e_int) ok_add)) (o_e e_int) ok_mul)) (o_e e_int) ok_mod))
      (ss_one (s_ret (e_op (o_e (e_op (o_e (e_op (o_e (e_op (o_var 5) (o_e (e_op (o_e (e_op (o_var 3) (o_var 3) ok_mul)) (o_e e_int) ok_add)) ok_mul)) (o_e e_int) ok_mod)) (o_e e_int) ok_fdiv)) (o_var 2) ok_mod)))))))
abbrev s__law_name : Stmt := topS 14
theorem sc__law_name : FnScope ["_law_script", "_law_at", "_law_letters", "_law_k"] ["_law_script", "_law_at"] (defScope s__law_name) := ⟨rfl, rfl, rfl, by decide +kernel, rfl, by decide +kernel, by decide +kernel⟩
def e__law_name_1 : DE := (dB gIx (dVarO 2) (dCall d__law_draw (aCons (dVar 0) (aCons (dVar 1) (aCons (dC (.int 26)) aNil)))))
def b__law_name : DS := (sSeq (sAsg (dC (.str ("abcdefghijklmnopqrstuvwxyz" : Str))) (gSet 2))
    (sRet (dM gJoin (dC (.str ("" : Str))) (aCons (lD (dLc (dNL gRange1 (aCons (dB gAdd (dC (.int 1)) (dCall d__law_draw (aCons (dVar 0) (aCons (dVar 1) (aCons (dC (.int 8)) aNil))))) aNil)) [3] (gSet 3) tAll e__law_name_1)) aNil))))
def d__law_name : Fn := dDef 2 4 b__law_name
theorem ok__law_name (T : Txt K mg ad fds) : FnOk P w K mg base CX0 2 (ad 14) (fds 14) ["_law_script", "_law_at"] (spD K d__law_name) :=
  fn_D T.f__law_name.F sc__law_name b__law_name fun cdv A outer s H E m F0 hr =>
    (ss_cons (s_set 2 sc__law_name.nd e_str)
      (ss_one (s_ret (e_join (o_e e_str) (o_l (l_lc rfl sc__law_name.nd (own := [(("_law_k" : Str), 3)]) (blkD (N := ["_law_script", "_law_at", "_law_letters", "_law_k"]) (sc := defScope s__law_name) (by decide +kernel)) (by decide) (i_range1 T.b_range (p_consO (o_e (e_op (o_e e_int) (o_e (e_call (ok__law_draw T) (hr.mono (by decide)) T.f__law_draw.g T.f__law_draw.F.kp T.f__law_draw.b (p_cons (e_var 0) (p_cons (e_var 1) (p_cons e_int p_nil))))) ok_add)) p_nilO)) (fun _ _ _ _ _ => (g_name 3 sc__law_name.nd)) (fun _ _ _ _ _ => ts_nil) (fun _ _ _ _ _ => (e_ix (o_var 2) (o_e (e_call (ok__law_draw T) (hr.mono (by decide)) T.f__law_draw.g T.f__law_draw.F.kp T.f__law_draw.b (p_cons (e_var 0) (p_cons (e_var 1) (p_cons e_int p_nil))))) ok_ix))))))))
abbrev s__law_odd : Stmt := topS 15
theorem sc__law_odd : FnScope ["_law_script", "_law_at", "_law_name_here", "_law_some"] ["_law_script", "_law_at", "_law_name_here"] (defScope s__law_odd) := ⟨rfl, rfl, rfl, by decide +kernel, rfl, by decide +kernel, by decide +kernel⟩
def b__law_odd : DS := (sSeq (sSetL 3 (dNL gLstD (aCons (dB gAdd (dVarO 2) (dC (.str ("abcdefgh" : Str)))) (aCons (dC (.str ("" : Str))) (aCons (dB gAdd (dSl gSlE (dVarO 2) pN (pS (dU gNeg (dC (.int 1))))) (dC (.str ("A" : Str)))) (aCons (dB gAdd (dSl gSlE (dVarO 2) pN (pS (dU gNeg (dC (.int 1))))) (dC (.str (" " : Str)))) (aCons (dB gAdd (dSl gSlE (dVarO 2) pN (pS (dU gNeg (dC (.int 1))))) (dC (.str ("1" : Str)))) (aCons (dC .none) (aCons (dC (.int 5)) (aCons (lD (dNL gLstD (aCons (dVar 2) aNil))) (aCons (dN gTupD (aCons (dVar 2) aNil)) (aCons (dN gTupD aNil) aNil))))))))))))
    (sSeq (sSetL 3 (dBL gCat (dVarO 3) (lD (dNL gLstD (aCons (dN gTupD (aCons (dVar 2) (aCons (dC (.int 2)) aNil))) (aCons (dN gTupD (aCons (dVar 2) (aCons (dU gNeg (dC (.int 1))) aNil))) (aCons (dN gTupD (aCons (dVar 2) (aCons (dC (.int 0)) aNil))) (aCons (dN gTupD (aCons (dVar 2) (aCons (dC (.int 1)) aNil))) (aCons (dN gTupD (aCons (dVar 2) (aCons (dC (.bool true)) aNil))) (aCons (dN gTupD (aCons (dVar 2) (aCons (dC (.bool false)) aNil))) (aCons (dN gTupD (aCons (dVar 2) (aCons (dU gNeg (dC (.int 2))) aNil))) (aCons (lD (dNL gLstD (aCons (dVar 2) (aCons (dC (.int 1)) aNil)))) aNil))))))))))))
    (sSeq (sSetL 3 (dBL gCat (dVarO 3) (lD (dNL gLstD (aCons (dN gTupD (aCons (dVar 2) (aCons (dC (.int 0)) (aCons (dC (.int 0)) aNil)))) (aCons (dN gTupD (aCons (dC (.str ("" : Str))) (aCons (dC (.int 1)) aNil))) (aCons (dN gTupD (aCons (dC (.str ("" : Str))) (aCons (dC (.int 0)) aNil))) (aCons (dN gTupD (aCons (dM gUpper (dVarO 2) aNil) (aCons (dC (.int 1)) aNil))) (aCons (dN gTupD (aCons (dM gUpper (dVarO 2) aNil) (aCons (dC (.int 0)) aNil))) (aCons (dN gTupD (aCons (dC (.int 5)) (aCons (dC (.int 1)) aNil))) (aCons (dN gTupD (aCons (dVar 2) (aCons (dC (.str ("1" : Str))) aNil))) aNil)))))))))))
    (sSeq (sMut 3 gAppend (aCons (dN gTupD (aCons (dVar 2) (aCons (dC .none) aNil))) aNil))
    (sSeq (sSetL 3 (dBL gCat (dVarO 3) (lD (dNL gLstD (aCons (dN gTupD (aCons (dC (.int 0)) (aCons (dVar 2) aNil))) (aCons (dD1 (dVar 2) (dC (.int 1))) (aCons (dN gTupD (aCons (dN gTupD (aCons (dVar 2) (aCons (dC (.int 1)) aNil))) (aCons (dC (.int 1)) aNil))) (aCons (dB gAdd (dVarO 2) (dC (.str ("\n" : Str)))) (aCons (dN gTupD (aCons (dB gAdd (dVarO 2) (dC (.str ("\n" : Str)))) (aCons (dC (.int 0)) aNil))) (aCons (dB gMul (dSl gSlE (dVarO 2) pN (pS (dC (.int 1)))) (dC (.int 8))) (aCons (dB gMul (dSl gSlE (dVarO 2) pN (pS (dC (.int 1)))) (dC (.int 9))) aNil)))))))))))
    (sRet (dB gIx (dVarO 3) (dCall d__law_draw (aCons (dVar 0) (aCons (dVar 1) (aCons (dN gLen (aCons (dVarO 3) aNil)) aNil)))))))))))
def d__law_odd : Fn := dDef 3 4 b__law_odd
theorem ok__law_odd (T : Txt K mg ad fds) : FnOk P w K mg base CX0 2 (ad 15) (fds 15) ["_law_script", "_law_at", "_law_name_here"] (spD K d__law_odd) :=
  fn_D T.f__law_odd.F sc__law_odd b__law_odd fun cdv A outer s H E m F0 hr =>
    (ss_cons (s_setL 3 sc__law_odd.nd (l_lst (p_cons (e_op (o_var 2) (o_e e_str) ok_add) (p_cons e_str (p_cons (e_op (o_e (e_slice ok_slE (o_var 2) o_none (o_some (o_e (e_un (o_e e_int) ok_neg))))) (o_e e_str) ok_add) (p_cons (e_op (o_e (e_slice ok_slE (o_var 2) o_none (o_some (o_e (e_un (o_e e_int) ok_neg))))) (o_e e_str) ok_add) (p_cons (e_op (o_e (e_slice ok_slE (o_var 2) o_none (o_some (o_e (e_un (o_e e_int) ok_neg))))) (o_e e_str) ok_add) (p_cons e_non (p_cons e_int (p_cons (e_l (l_lst (p_cons (e_var 2) p_nil))) (p_cons (e_tup (p_cons (e_var 2) p_nil)) (p_cons (e_tup p_nil) p_nil))))))))))))
      (ss_cons (s_setL 3 sc__law_odd.nd (l_op (o_var 3) (o_l (l_lst (p_cons (e_tup (p_cons (e_var 2) (p_cons e_int p_nil))) (p_cons (e_tup (p_cons (e_var 2) (p_cons (e_un (o_e e_int) ok_neg) p_nil))) (p_cons (e_tup (p_cons (e_var 2) (p_cons e_int p_nil))) (p_cons (e_tup (p_cons (e_var 2) (p_cons e_int p_nil))) (p_cons (e_tup (p_cons (e_var 2) (p_cons e_bl p_nil))) (p_cons (e_tup (p_cons (e_var 2) (p_cons e_bl p_nil))) (p_cons (e_tup (p_cons (e_var 2) (p_cons (e_un (o_e e_int) ok_neg) p_nil))) (p_cons (e_l (l_lst (p_cons (e_var 2) (p_cons e_int p_nil)))) p_nil)))))))))) ok_cat))
      (ss_cons (s_setL 3 sc__law_odd.nd (l_op (o_var 3) (o_l (l_lst (p_cons (e_tup (p_cons (e_var 2) (p_cons e_int (p_cons e_int p_nil)))) (p_cons (e_tup (p_cons e_str (p_cons e_int p_nil))) (p_cons (e_tup (p_cons e_str (p_cons e_int p_nil))) (p_cons (e_tup (p_cons (e_upper (o_var 2)) (p_cons e_int p_nil))) (p_cons (e_tup (p_cons (e_upper (o_var 2)) (p_cons e_int p_nil))) (p_cons (e_tup (p_cons e_int (p_cons e_int p_nil))) (p_cons (e_tup (p_cons (e_var 2) (p_cons e_str p_nil))) p_nil))))))))) ok_cat))
      (ss_cons (s_append 3 (e_tup (p_cons (e_var 2) (p_cons e_non p_nil))))
      (ss_cons (s_setL 3 sc__law_odd.nd (l_op (o_var 3) (o_l (l_lst (p_cons (e_tup (p_cons e_int (p_cons (e_var 2) p_nil))) (p_cons (e_d1 (e_var 2) e_int) (p_cons (e_tup (p_cons (e_tup (p_cons (e_var 2) (p_cons e_int p_nil))) (p_cons e_int p_nil))) (p_cons (e_op (o_var 2) (o_e e_str) ok_add) (p_cons (e_tup (p_cons (e_op (o_var 2) (o_e e_str) ok_add) (p_cons e_int p_nil))) (p_cons (e_op (o_e (e_slice ok_slE (o_var 2) o_none (o_some (o_e e_int)))) (o_e e_int) ok_mul) (p_cons (e_op (o_e (e_slice ok_slE (o_var 2) o_none (o_some (o_e e_int)))) (o_e e_int) ok_mul) p_nil))))))))) ok_cat))
      (ss_one (s_ret (e_ix (o_var 3) (o_e (e_call (ok__law_draw T) (hr.mono (by decide)) T.f__law_draw.g T.f__law_draw.F.kp T.f__law_draw.b (p_cons (e_var 0) (p_cons (e_var 1) (p_cons (e_callB ok_len T.b_len boot_len (p_consO (o_var 3) p_nilO)) p_nil))))) ok_ix))))))))
abbrev s__law_is_name : Stmt := topS 16
theorem sc__law_is_name : FnScope ["_law_thing", "_law_sign"] ["_law_thing"] (defScope s__law_is_name) := ⟨rfl, rfl, rfl, by decide +kernel, rfl, by decide +kernel, by decide +kernel⟩
def e__law_is_name_1 : DE := (dVar 1)
def t__law_is_name_2 : DT := (tOrD (tV (dB gLt (dVarO 1) (dC (.str ("a" : Str))))) (tV (dB gGt (dVarO 1) (dC (.str ("z" : Str))))))
def b__law_is_name : DS := (sSeq (sIf (tOrD (tNotD (tV (dU (gIsi "str") (dVarO 0)))) (tOrD (tV (dB gLt (dN gLen (aCons (dVarO 0) aNil)) (dC (.int 1)))) (tV (dB gGt (dN gLen (aCons (dVarO 0) aNil)) (dC (.int 8)))))) (sRet (dC (.bool false))) sNext)
    (sRet (dB gEq (lD (dLc (dItems (dVar 0)) [1] (gSet 1) t__law_is_name_2 e__law_is_name_1)) (lD (dNL gLstD aNil)))))
def d__law_is_name : Fn := dDef 1 2 b__law_is_name
theorem ok__law_is_name (T : Txt K mg ad fds) : FnOk P w K mg base CX0 1 (ad 16) (fds 16) ["_law_thing"] (spD K d__law_is_name) :=
  fn_D T.f__law_is_name.F sc__law_is_name b__law_is_name fun cdv A outer s H E m F0 hr =>
    (ss_cons (s_if (t_w (w_or (t_not (t_val (e_isi (o_var 0) T.b_isinstance T.b_str boot_str))) (w_or (t_cmp (o_e (e_callB ok_len T.b_len boot_len (p_consO (o_var 0) p_nilO))) (o_e e_int) (ok_lt (hu64 hr)) (nomark _)) (w_or1 (t_cmp (o_e (e_callB ok_len T.b_len boot_len (p_consO (o_var 0) p_nilO))) (o_e e_int) ok_gt (nomark _)))))) (ss_one (s_ret e_bl)) ss_nil)
      (ss_one (s_ret (e_cmp (o_l (l_lc rfl sc__law_is_name.nd (own := [(("_law_sign" : Str), 1)]) (blkD (N := ["_law_thing", "_law_sign"]) (sc := defScope s__law_is_name) (by decide +kernel)) (by decide) (i_seq (e_var 0)) (fun _ _ _ _ _ => (g_name 1 sc__law_is_name.nd)) (fun _ _ _ _ _ => (ts_one (t_w (w_or (t_cmp (o_var 1) (o_e e_str) (ok_lt (hu64 hr)) (nomark _)) (w_or1 (t_cmp (o_var 1) (o_e e_str) ok_gt (nomark _))))))) (fun _ _ _ _ _ => (e_var 1)))) (o_l (l_lst p_nil)) (ok_eq (hu64 hr)) (nomark _)))))
abbrev s__law_is_pair : Stmt := topS 17
theorem sc__law_is_pair : FnScope ["_law_thing", "_law_numbers"] ["_law_thing", "_law_numbers"] (defScope s__law_is_pair) := ⟨rfl, rfl, rfl, by decide +kernel, rfl, by decide +kernel, by decide +kernel⟩
def b__law_is_pair : DS := (sSeq (sIf (tOrD (tNotD (tV (dU (gIsi "tuple") (dVarO 0)))) (tOrD (tV (dB gNe (dN gLen (aCons (dVarO 0) aNil)) (dC (.int 2)))) (tNotD (tV (dCall d__law_is_name (aCons (dB gIx (dVarO 0) (dC (.int 0))) aNil)))))) (sRet (dC (.bool false))) sNext)
    (sRet (vAnd (dU (gIsi "int") (dB gIx (dVarO 0) (dC (.int 1)))) (vAnd (vNot (dU (gIsi "bool") (dB gIx (dVarO 0) (dC (.int 1))))) (dB gIn (dB gIx (dVarO 0) (dC (.int 1))) (dVarO 1))))))
def d__law_is_pair : Fn := dDef 2 2 b__law_is_pair
theorem ok__law_is_pair (T : Txt K mg ad fds) : FnOk P w K mg base CX0 2 (ad 17) (fds 17) ["_law_thing", "_law_numbers"] (spD K d__law_is_pair) :=
  fn_D T.f__law_is_pair.F sc__law_is_pair b__law_is_pair fun cdv A outer s H E m F0 hr =>
    (ss_cons (s_if (t_w (w_or (t_not (t_val (e_isi (o_var 0) T.b_isinstance T.b_tuple boot_tuple))) (w_or (t_cmp (o_e (e_callB ok_len T.b_len boot_len (p_consO (o_var 0) p_nilO))) (o_e e_int) (ok_ne (hu64 hr)) (nomark _)) (w_or1 (t_not (t_val (e_call (ok__law_is_name T) (hr.mono (by decide)) T.f__law_is_name.g T.f__law_is_name.F.kp T.f__law_is_name.b (p_cons (e_ix (o_var 0) (o_e e_int) ok_ix) p_nil)))))))) (ss_one (s_ret e_bl)) ss_nil)
      (ss_one (s_ret (v_and (e_isi (o_e (e_ix (o_var 0) (o_e e_int) ok_ix)) T.b_isinstance T.b_int boot_int) (v_and (v_not (e_isi (o_e (e_ix (o_var 0) (o_e e_int) ok_ix)) T.b_isinstance T.b_bool boot_bool)) (v_one (e_cmp (o_e (e_ix (o_var 0) (o_e e_int) ok_ix)) (o_var 1) (ok_in (hu65 hr)) rfl)))))))
abbrev s__law_told : Stmt := topS 18
theorem sc__law_told : FnScope ["_law_thing", "_law_found", "_law_one"] ["_law_thing"] (defScope s__law_told) := ⟨rfl, rfl, rfl, by decide +kernel, rfl, by decide +kernel, by decide +kernel⟩
def e__law_told_1 : DE := (dVar 2)
def t__law_told_2 : DT := (tNotD (tV (dU (gIsi "bool") (dVarO 2))))
def b__law_told : DS := (sSeq (sAsg (lD (dNL gLstD (aCons (dCall d_is_name (aCons (dVar 0) aNil)) (aCons (dCall d_is_piece (aCons (dVar 0) aNil)) (aCons (dCall d_is_end (aCons (dVar 0) aNil)) aNil))))) (gSet 1))
    (sSeq (sIf (tV (dB gNe (lD (dLc (dItems (dVar 1)) [2] (gSet 2) t__law_told_2 e__law_told_1)) (lD (dNL gLstD aNil)))) (sRet (dC (.bool false))) sNext)
    (sRet (dB gEq (dVarO 1) (lD (dNL gLstD (aCons (dCall d__law_is_name (aCons (dVar 0) aNil)) (aCons (dCall d__law_is_pair (aCons (dVar 0) (aCons (lD (dNL gLstD (aCons (dC (.int 1)) (aCons (dU gNeg (dC (.int 1))) aNil)))) aNil))) (aCons (dCall d__law_is_pair (aCons (dVar 0) (aCons (lD (dNL gLstD (aCons (dC (.int 0)) (aCons (dC (.int 1)) aNil)))) aNil))) aNil)))))))))
def d__law_told : Fn := dDef 1 3 b__law_told
theorem ok__law_told (T : Txt K mg ad fds) : FnOk P w K mg base CX0 4 (ad 18) (fds 18) ["_law_thing"] (spD K d__law_told) :=
  fn_D T.f__law_told.F sc__law_told b__law_told fun cdv A outer s H E m F0 hr =>
    (ss_cons (s_set 1 sc__law_told.nd (e_l (l_lst (p_cons (e_call (ok_is_name T) (hr.mono (by decide)) T.f_is_name.g T.f_is_name.F.kp T.f_is_name.b (p_cons (e_var 0) p_nil)) (p_cons (e_call (ok_is_piece T) (hr.mono (by decide)) T.f_is_piece.g T.f_is_piece.F.kp T.f_is_piece.b (p_cons (e_var 0) p_nil)) (p_cons (e_call (ok_is_end T) (hr.mono (by decide)) T.f_is_end.g T.f_is_end.F.kp T.f_is_end.b (p_cons (e_var 0) p_nil)) p_nil))))))
      (ss_cons (s_if (t_cmp (o_l (l_lc rfl sc__law_told.nd (own := [(("_law_one" : Str), 2)]) (blkD (N := ["_law_thing", "_law_found", "_law_one"]) (sc := defScope s__law_told) (by decide +kernel)) (by decide) (i_seq (e_var 1)) (fun _ _ _ _ _ => (g_name 2 sc__law_told.nd)) (fun _ _ _ _ _ => (ts_one (t_not (t_val (e_isi (o_var 2) T.b_isinstance T.b_bool boot_bool))))) (fun _ _ _ _ _ => (e_var 2)))) (o_l (l_lst p_nil)) (ok_ne (hu64 hr)) (nomark _)) (ss_one (s_ret e_bl)) ss_nil)
      (ss_one (s_ret (e_cmp (o_var 1) (o_l (l_lst (p_cons (e_call (ok__law_is_name T) (hr.mono (by decide)) T.f__law_is_name.g T.f__law_is_name.F.kp T.f__law_is_name.b (p_cons (e_var 0) p_nil)) (p_cons (e_call (ok__law_is_pair T) (hr.mono (by decide)) T.f__law_is_pair.g T.f__law_is_pair.F.kp T.f__law_is_pair.b (p_cons (e_var 0) (p_cons (e_l (l_lst (p_cons e_int (p_cons (e_un (o_e e_int) ok_neg) p_nil)))) p_nil))) (p_cons (e_call (ok__law_is_pair T) (hr.mono (by decide)) T.f__law_is_pair.g T.f__law_is_pair.F.kp T.f__law_is_pair.b (p_cons (e_var 0) (p_cons (e_l (l_lst (p_cons e_int (p_cons e_int p_nil)))) p_nil))) p_nil))))) (ok_eq (hu64 hr)) (nomark _))))))
abbrev s_law : Stmt := topS 19
theorem sc_law : FnScope ["_law_script", "_law_at", "_law_k", "_law_way", "_law_thing", "_law_both", "_law_far", "_law_due", "_law_name_here", "_law_other", "_law_tail", "_law_head"] ["_law_script"] (defScope s_law) := ⟨rfl, rfl, rfl, by decide +kernel, rfl, by decide +kernel, by decide +kernel⟩
def b_law_1 : DS := (sIf (tNotD (tV (dCall d__law_told (aCons (dVar 4) aNil)))) (sRet (dC (.bool false))) sNext)
def b_law_2 : DS := (sSeq (sPar 8 9 (aCons (dCall d__law_name (aCons (dVar 0) (aCons (dVar 1) aNil))) (aCons (dCall d__law_name (aCons (dVar 0) (aCons (dVar 1) aNil))) aNil)))
    (sSeq (sAsg (dB gSub (dC (.int 1)) (dB gMul (dC (.int 2)) (dCall d__law_draw (aCons (dVar 0) (aCons (dVar 1) (aCons (dC (.int 2)) aNil)))))) (gSet 3))
    (sSeq (sPar 10 11 (aCons (dN gTupD (aCons (dVar 8) (aCons (dC (.int 0)) aNil))) (aCons (dN gTupD (aCons (dVar 8) (aCons (dC (.int 1)) aNil))) aNil)))
    (sSeq (sFor (dItems (dN gTupD (aCons (dVar 8) (aCons (dN gTupD (aCons (dVar 8) (aCons (dVar 3) aNil))) (aCons (dVar 10) (aCons (dVar 11) (aCons (dCall d__law_odd (aCons (dVar 0) (aCons (dVar 1) (aCons (dVar 8) aNil)))) (aCons (dCall d__law_odd (aCons (dVar 0) (aCons (dVar 1) (aCons (dVar 9) aNil)))) aNil)))))))) (gSet 4) b_law_1)
    (sSeq (sAsg (lD (dNL gLstD (aCons (dCall d_begins (aCons (dN gTupD (aCons (dVar 8) (aCons (dVar 3) aNil))) aNil)) (aCons (dCall d_ends (aCons (dN gTupD (aCons (dVar 8) (aCons (dVar 3) aNil))) aNil)) aNil)))) (gSet 5))
    (sSeq (sIf (tOrD (tV (dB gNe (dVarO 5) (lD (lStep (lD (dNL gLstD (aCons (dVar 10) (aCons (dVar 11) aNil)))) (dVarO 3))))) (tOrD (tV (dB gNe (dCall d_other_end (aCons (dVar 10) aNil)) (dVarO 11))) (tV (dB gNe (dCall d_other_end (aCons (dVar 11) aNil)) (dVarO 10))))) (sRet (dC (.bool false))) sNext)
    (sSeq (sAsg (dN gTupD (aCons (dVar 9) (aCons (dCall d__law_draw (aCons (dVar 0) (aCons (dVar 1) (aCons (dC (.int 2)) aNil)))) aNil))) (gSet 6))
    (sSeq (sAsg (dIf (tV (dB gLt (dVarO 10) (dVarO 6))) (dN gTupD (aCons (dVar 10) (aCons (dVar 6) aNil))) (dN gTupD (aCons (dVar 6) (aCons (dVar 10) aNil)))) (gSet 7))
    (sSeq (sIf (tOrD (tV (dB gNe (dCall d_place_of (aCons (dVar 10) (aCons (dVar 6) aNil))) (dVarO 7))) (tV (dB gNe (dCall d_place_of (aCons (dVar 6) (aCons (dVar 10) aNil))) (dVarO 7)))) (sRet (dC (.bool false))) sNext)
    (sSeq (sIf (tOrD (tV (dB gNe (dCall d_place_of (aCons (dN gTupD aNil) (aCons (dVar 11) aNil))) (dN gTupD (aCons (dN gTupD aNil) (aCons (dVar 11) aNil))))) (tV (dB gNe (dCall d_place_of (aCons (dVar 11) (aCons (dN gTupD aNil) aNil))) (dN gTupD (aCons (dN gTupD aNil) (aCons (dVar 11) aNil)))))) (sRet (dC (.bool false))) sNext)
    (sIf (tOrD (tNotD (tV (dCall d__law_told (aCons (dB gIx (dVarO 5) (dC (.int 0))) aNil)))) (tNotD (tV (dCall d__law_is_pair (aCons (dB gIx (dVarO 5) (dC (.int 0))) (aCons (lD (dNL gLstD (aCons (dC (.int 0)) (aCons (dC (.int 1)) aNil)))) aNil)))))) (sRet (dC (.bool false))) sNext)))))))))))
def b_law : DS := (sSeq (sFor (dNL gRange1 (aCons (dN gMaxI (aCons (dC (.int 2)) (aCons (dN gLen (aCons (dVarO 0) aNil)) aNil))) aNil)) (gSet 2) b_law_2)
    (sRet (dC (.bool true))))
theorem ok_law (T : Txt K mg ad fds) (hl : ∀ ns : List Int, ns.length ≤ 63 → lawRun 12 1 b_law ns = some (.bool true)) : FnOk P w K mg base CX0 5 (ad 19) (fds 19) ["_law_script"] (spLaw K) :=
  fn_law (i := 1) T.f_law.F sc_law b_law rfl (by decide) (fun cdv A outer s H E => ps_set (i := 1) sc_law.nd rfl (.inl rfl) (pe_lst (pa_cons pe_int pa_nil))) (fun cdv A outer s H E m F0 H0 hr =>
    (ss_cons (s_for PassesOwn.never rfl (i_range1 T.b_range (p_consO (o_e (e_callB (ok_maxI rfl) T.b_max boot_max (p_consO (o_e e_int) (p_consO (o_e (e_callB ok_len T.b_len boot_len (p_consO (o_var 0) p_nilO))) p_nilO)))) p_nilO)) (g_name 2 sc_law.nd) (ss_cons (s_par rfl sc_law.nd (p_cons (e_call (ok__law_name T) (hr.mono (by decide)) T.f__law_name.g T.f__law_name.F.kp T.f__law_name.b (p_cons (e_var 0) (p_cons (e_var 1) p_nil))) (p_cons (e_call (ok__law_name T) (hr.mono (by decide)) T.f__law_name.g T.f__law_name.F.kp T.f__law_name.b (p_cons (e_var 0) (p_cons (e_var 1) p_nil))) p_nil)) rfl rfl (by decide) rfl rfl (by rfl))
      (ss_cons (s_set 3 sc_law.nd (e_op (o_e e_int) (o_e (e_op (o_e e_int) (o_e (e_call (ok__law_draw T) (hr.mono (by decide)) T.f__law_draw.g T.f__law_draw.F.kp T.f__law_draw.b (p_cons (e_var 0) (p_cons (e_var 1) (p_cons e_int p_nil))))) ok_mul)) ok_sub))
      (ss_cons (s_par rfl sc_law.nd (p_cons (e_tup (p_cons (e_var 8) (p_cons e_int p_nil))) (p_cons (e_tup (p_cons (e_var 8) (p_cons e_int p_nil))) p_nil)) rfl rfl (by decide) rfl rfl (by rfl))
      (ss_cons (s_for PassesOwn.never rfl (i_seq (e_tup (p_cons (e_var 8) (p_cons (e_tup (p_cons (e_var 8) (p_cons (e_var 3) p_nil))) (p_cons (e_var 10) (p_cons (e_var 11) (p_cons (e_call (ok__law_odd T) (hr.mono (by decide)) T.f__law_odd.g T.f__law_odd.F.kp T.f__law_odd.b (p_cons (e_var 0) (p_cons (e_var 1) (p_cons (e_var 8) p_nil)))) (p_cons (e_call (ok__law_odd T) (hr.mono (by decide)) T.f__law_odd.g T.f__law_odd.F.kp T.f__law_odd.b (p_cons (e_var 0) (p_cons (e_var 1) (p_cons (e_var 9) p_nil)))) p_nil)))))))) (g_name 4 sc_law.nd) (ss_one (s_if (t_not (t_val (e_call (ok__law_told T) (hr.mono (by decide)) T.f__law_told.g T.f__law_told.F.kp T.f__law_told.b (p_cons (e_var 4) p_nil)))) (ss_one (s_ret e_bl)) ss_nil)))
      (ss_cons (s_set 5 sc_law.nd (e_l (l_lst (p_cons (e_call (ok_begins T) (hr.mono (by decide)) T.f_begins.g T.f_begins.F.kp T.f_begins.b (p_cons (e_tup (p_cons (e_var 8) (p_cons (e_var 3) p_nil))) p_nil)) (p_cons (e_call (ok_ends T) (hr.mono (by decide)) T.f_ends.g T.f_ends.F.kp T.f_ends.b (p_cons (e_tup (p_cons (e_var 8) (p_cons (e_var 3) p_nil))) p_nil)) p_nil)))))
      (ss_cons (s_if (t_w (w_or (t_cmp (o_var 5) (o_l (l_step (o_l (l_lst (p_cons (e_var 10) (p_cons (e_var 11) p_nil)))) (o_var 3))) (ok_ne (hu64 hr)) (nomark _)) (w_or (t_cmp (o_e (e_call (ok_other_end T) (hr.mono (by decide)) T.f_other_end.g T.f_other_end.F.kp T.f_other_end.b (p_cons (e_var 10) p_nil))) (o_var 11) (ok_ne (hu64 hr)) (nomark _)) (w_or1 (t_cmp (o_e (e_call (ok_other_end T) (hr.mono (by decide)) T.f_other_end.g T.f_other_end.F.kp T.f_other_end.b (p_cons (e_var 11) p_nil))) (o_var 10) (ok_ne (hu64 hr)) (nomark _)))))) (ss_one (s_ret e_bl)) ss_nil)
      (ss_cons (s_set 6 sc_law.nd (e_tup (p_cons (e_var 9) (p_cons (e_call (ok__law_draw T) (hr.mono (by decide)) T.f__law_draw.g T.f__law_draw.F.kp T.f__law_draw.b (p_cons (e_var 0) (p_cons (e_var 1) (p_cons e_int p_nil)))) p_nil))))
      (ss_cons (s_set 7 sc_law.nd (e_if (t_cmp (o_var 10) (o_var 6) (ok_lt (hu64 hr)) (nomark _)) (e_tup (p_cons (e_var 10) (p_cons (e_var 6) p_nil))) (e_tup (p_cons (e_var 6) (p_cons (e_var 10) p_nil)))))
      (ss_cons (s_if (t_w (w_or (t_cmp (o_e (e_call (ok_place_of T) (hr.mono (by decide)) T.f_place_of.g T.f_place_of.F.kp T.f_place_of.b (p_cons (e_var 10) (p_cons (e_var 6) p_nil)))) (o_var 7) (ok_ne (hu64 hr)) (nomark _)) (w_or1 (t_cmp (o_e (e_call (ok_place_of T) (hr.mono (by decide)) T.f_place_of.g T.f_place_of.F.kp T.f_place_of.b (p_cons (e_var 6) (p_cons (e_var 10) p_nil)))) (o_var 7) (ok_ne (hu64 hr)) (nomark _))))) (ss_one (s_ret e_bl)) ss_nil)
      (ss_cons (s_if (t_w (w_or (t_cmp (o_e (e_call (ok_place_of T) (hr.mono (by decide)) T.f_place_of.g T.f_place_of.F.kp T.f_place_of.b (p_cons (e_tup p_nil) (p_cons (e_var 11) p_nil)))) (o_e (e_tup (p_cons (e_tup p_nil) (p_cons (e_var 11) p_nil)))) (ok_ne (hu64 hr)) (nomark _)) (w_or1 (t_cmp (o_e (e_call (ok_place_of T) (hr.mono (by decide)) T.f_place_of.g T.f_place_of.F.kp T.f_place_of.b (p_cons (e_var 11) (p_cons (e_tup p_nil) p_nil)))) (o_e (e_tup (p_cons (e_tup p_nil) (p_cons (e_var 11) p_nil)))) (ok_ne (hu64 hr)) (nomark _))))) (ss_one (s_ret e_bl)) ss_nil)
      (ss_one (s_if (t_w (w_or (t_not (t_val (e_call (ok__law_told T) (hr.mono (by decide)) T.f__law_told.g T.f__law_told.F.kp T.f__law_told.b (p_cons (e_ix (o_var 5) (o_e e_int) ok_ix) p_nil)))) (w_or1 (t_not (t_val (e_call (ok__law_is_pair T) (hr.mono (by decide)) T.f__law_is_pair.g T.f__law_is_pair.F.kp T.f__law_is_pair.b (p_cons (e_ix (o_var 5) (o_e e_int) ok_ix) (p_cons (e_l (l_lst (p_cons e_int (p_cons e_int p_nil)))) p_nil)))))))) (ss_one (s_ret e_bl)) ss_nil)))))))))))))
      (ss_one (s_ret e_bl)))) hl
end
end K01

set_option Elab.async false
set_option linter.all false
set_option maxRecDepth 100000
set_option maxHeartbeats 2000000
namespace K01
open PySem PySem.Spec PyProof.Rows L2 Evl Dn

def letter (c : Nat) : Bool := decide (97 ≤ c) && decide (c ≤ 122)
def isNameB : Dt → Bool
  | .str x => decide (1 ≤ x.length) && decide (x.length ≤ 8) && x.cps.toList.all letter
  | _ => false
def okS (x : Str) : Prop := x.length ≤ 1000000 ∧ PyData.strOk x = true
theorem okS_mem {x : Str} (h : okS x) {c : Nat} (hc : c ∈ x.cps.toList) : c < 0x110000 := by
  have := h.2
  simp only [PyData.strOk, Array.all_eq_true_iff_forall_mem] at this
  simpa using this c (by simpa using hc)
theorem lt_single (a c : Nat) : ([a] < [c]) ↔ a < c := by
  constructor
  · intro h
    cases h with
    | rel h => exact h
    | cons h => cases h
  · exact fun h => .rel h
theorem sign_ok {c : Nat} (h : c < 0x110000) : okD (signD c) = true := by
  simp [okD_eq, signD, PyData.strOk, h]
theorem a_ok : okD (.str (Str.ofString "a")) = true := by decide +kernel
theorem z_ok : okD (.str (Str.ofString "z")) = true := by decide +kernel
theorem a_cps : (Str.ofString "a").cps.toList = [97] := by decide +kernel
theorem z_cps : (Str.ofString "z").cps.toList = [122] := by decide +kernel
theorem z_arr (c : Nat) : ((Str.ofString "z").cps < #[c]) ↔ 122 < c := by
  have : (Str.ofString "z").cps = #[122] := by decide +kernel
  rw [this]
  exact lt_single 122 c
theorem is_name_str (x : Str) (k : Int) (h : okS x) : d_is_name [.str x] k = some (.bool (isNameB (.str x)), k) := by
  have hl := h.1
  have hc : lcLoop ([.sh (.str x), .un] : Ev) (gSet 1) tAll e_is_name_1 (x.cps.toList.map signD) k
      = some ((x.cps.toList.map signD).map (fun d => match d with | .str y => .bool (letter (y.cps.getD 0 0)) | _ => .none), k) := by
    refine lc_map _ fun d hd => ?_
    obtain ⟨c, hc, rfl⟩ := List.mem_map.mp hd
    refine ⟨[.sh (.str x), .sh (signD c)], rfl, ?_⟩
    have h2 : okD (.str ⟨#[c]⟩) = true := sign_ok (okS_mem h hc)
    by_cases h3 : c < 97
    · have h4 : ¬ 97 ≤ c := by omega
      simp [e_is_name_1, t__law_is_name_2, a_ok, z_ok, h2, signD, a_cps, z_cps, lt_single, h3, letter, h4]
    · have h4 : 97 ≤ c := by omega
      by_cases h5 : 122 < c
      · have h6 : ¬ c ≤ 122 := by omega
        simp [e_is_name_1, t__law_is_name_2, a_ok, z_ok, h2, signD, a_cps, z_cps, z_arr, lt_single, h3, letter, h4, h5, h6]
      · have h6 : c ≤ 122 := by omega
        simp [e_is_name_1, t__law_is_name_2, a_ok, z_ok, h2, signD, a_cps, z_cps, z_arr, lt_single, h3, letter, h4, h5, h6]
  have e0 : (x.cps.toList.map signD).map (fun d => match d with | .str y => PyData.bool (letter (y.cps.getD 0 0)) | _ => .none) = (x.cps.toList.map letter).map .bool := by
    rw [List.map_map, List.map_map]
    rfl
  rw [e0] at hc
  have hlen : x.cps.size ≤ 1000000 := hl
  by_cases h1 : 1 ≤ x.length
  · have h1' : (1 : Int) ≤ (x.length : Int) := by omega
    by_cases h8 : x.length ≤ 8
    · have h8' : (x.length : Int) ≤ 8 := by omega
      simp [d_is_name, b_is_name, hl, h1, h1', h8, h8', okD_eq, hc, hlen, isNameB, List.all_map]
    · have h8' : ¬ (x.length : Int) ≤ 8 := by omega
      simp [d_is_name, b_is_name, hl, h1, h1', h8, h8', okD_eq, isNameB]
  · have h1' : ¬ (1 : Int) ≤ (x.length : Int) := by omega
    simp [d_is_name, b_is_name, hl, h1, h1', okD_eq, isNameB]
theorem is_name_other (d : Dt) (k : Int) (h : ∀ x, d ≠ .str x) (hc : isCtr d = false) : d_is_name [d] k = some (.bool false, k) := by
  cases d with
  | str x => exact absurd rfl (h x)
  | dict kvs => simp [d_is_name, b_is_name, hc]
  | _ => simp [d_is_name, b_is_name]

def GoodA (a : Dt) : Prop := (∀ x, a = .str x → okS x) ∧ isCtr a = false
theorem isNameB_other {d : Dt} (h : ∀ x, d ≠ .str x) : isNameB d = false := by
  cases d with
  | str x => exact absurd rfl (h x)
  | _ => rfl
theorem is_name_D {a : Dt} (h : GoodA a) (k : Int) : d_is_name [a] k = some (.bool (isNameB a), k) := by
  by_cases hs : ∃ x, a = .str x
  · obtain ⟨x, rfl⟩ := hs
    exact is_name_str x k (h.1 x rfl)
  · have hs' : ∀ x, a ≠ .str x := fun x e => hs ⟨x, e⟩
    rw [isNameB_other hs']
    exact is_name_other a k hs' h.2
def pairB (p q : Int) : Dt → Bool
  | .tuple [a, .int i] => isNameB a && (decide (i = p) || decide (i = q))
  | _ => false
def Good : Dt → Prop
  | .tuple [a, b] => GoodA a ∧ isCtr b = false
  | .tuple ds => ds.length ≤ 1000000
  | .str x => okS x
  | .dict kvs => isCtr (.dict kvs) = false
  | _ => True
theorem with_pair (a b : Dt) (p q : Int) (h : GoodA a) (hb : isCtr b = false) (k : Int) : d__is_name_with [.tuple [a, b], .tuple [.int p, .int q]] k = some (.bool (pairB p q (.tuple [a, b])), k) := by
  have hn := is_name_D h k
  cases hb2 : isNameB a with
  | false =>
    rw [hb2] at hn
    have : pairB p q (.tuple [a, b]) = false := by
      cases b <;> simp [pairB, hb2]
    rw [this]
    simp [d__is_name_with, b__is_name_with, okD_eq, hn]
  | true =>
    rw [hb2] at hn
    cases b with
    | int i =>
      by_cases h1 : i = p
      · simp [d__is_name_with, b__is_name_with, okD_eq, hn, pairB, hb2, h1]
      · by_cases h2 : i = q
        · simp [d__is_name_with, b__is_name_with, okD_eq, hn, pairB, hb2, h1, h2]
        · have h1' : ¬ p = i := fun e => h1 e.symm
          have h2' : ¬ q = i := fun e => h2 e.symm
          simp [d__is_name_with, b__is_name_with, okD_eq, hn, pairB, hb2, h1, h2, h1', h2']
    | dict kvs => simp [d__is_name_with, b__is_name_with, okD_eq, hn, pairB, hb]
    | _ => simp [d__is_name_with, b__is_name_with, okD_eq, hn, pairB]
theorem with_other (d : Dt) (ns : Dt) (h : Good d) (h2 : ∀ a b, d ≠ .tuple [a, b]) (k : Int) : d__is_name_with [d, ns] k = some (.bool false, k) := by
  cases d with
  | tuple ds =>
    have hne : ¬ (ds.length : Int) = 2 := fun e => by
      match ds, e, h2 with
      | [a, b], _, h2 => exact h2 a b rfl
      | [], e, _ => simp at e
      | [_], e, _ => simp at e
      | _ :: _ :: _ :: _, e, _ =>
        simp at e
        omega
    have hl : ds.length ≤ 1000000 := by
      match ds, h, h2 with
      | [a, b], _, h2 => exact absurd rfl (h2 a b)
      | [], _, _ => simp
      | [_], _, _ => simp
      | _ :: _ :: _ :: _, h, _ => exact h
    simp [d__is_name_with, b__is_name_with, okD_eq, hl, hne]
  | dict kvs =>
    have hc : isCtr (.dict kvs) = false := h
    simp [d__is_name_with, b__is_name_with, hc]
  | _ => simp [d__is_name_with, b__is_name_with]
theorem pairB_other {p q : Int} {d : Dt} (h2 : ∀ a b, d ≠ .tuple [a, b]) : pairB p q d = false := by
  unfold pairB
  split
  · rename_i a i
    exact absurd rfl (h2 a (.int i))
  · rfl
theorem with_D {d : Dt} (p q : Int) (h : Good d) (k : Int) : d__is_name_with [d, .tuple [.int p, .int q]] k = some (.bool (pairB p q d), k) := by
  by_cases hs : ∃ a b, d = .tuple [a, b]
  · obtain ⟨a, b, rfl⟩ := hs
    exact with_pair a b p q h.1 h.2 k
  · have h2 : ∀ a b, d ≠ .tuple [a, b] := fun a b e => hs ⟨a, b, e⟩
    rw [pairB_other h2]
    exact with_other d _ h h2 k
theorem is_piece_D {d : Dt} (h : Good d) (k : Int) : d_is_piece [d] k = some (.bool (pairB 1 (-1) d), k) := by
  simp [d_is_piece, b_is_piece, with_D 1 (-1) h k]
theorem is_end_D {d : Dt} (h : Good d) (k : Int) : d_is_end [d] k = some (.bool (pairB 0 1 d), k) := by
  simp [d_is_end, b_is_end, with_D 0 1 h k]
theorem filt_empty (p : Dt → Bool) (f : Nat → Dt) : ∀ l : List Nat, ((l.map f).filter p).isEmpty = l.all fun c => !p (f c)
  | [] => rfl
  | c :: l => by
    rw [List.map_cons, List.filter_cons, List.all_cons, ← filt_empty p f l]
    cases p (f c) <;> rfl
theorem sign_low (x : Str) (c : Nat) (k : Int) (h2 : okD (.str ⟨#[c]⟩) = true) : t__law_is_name_2 [.sh (.str x), .sh (signD c)] k = some (!letter c, k) := by
  by_cases h3 : c < 97
  · have h4 : ¬ 97 ≤ c := by omega
    simp [e_is_name_1, t__law_is_name_2, a_ok, z_ok, h2, signD, a_cps, z_cps, lt_single, h3, letter, h4]
  · have h4 : 97 ≤ c := by omega
    by_cases h5 : 122 < c
    · have h6 : ¬ c ≤ 122 := by omega
      simp [e_is_name_1, t__law_is_name_2, a_ok, z_ok, h2, signD, a_cps, z_cps, z_arr, lt_single, h3, letter, h4, h5, h6]
    · have h6 : c ≤ 122 := by omega
      simp [e_is_name_1, t__law_is_name_2, a_ok, z_ok, h2, signD, a_cps, z_cps, z_arr, lt_single, h3, letter, h4, h5, h6]
def notLetter : Dt → Bool
  | .str y => !letter (y.cps.getD 0 0)
  | _ => false
theorem law_is_name_str (x : Str) (k : Int) (h : okS x) : d__law_is_name [.str x] k = some (.bool (isNameB (.str x)), k) := by
  have hl := h.1
  have k1 : kitB "str" "str" = some true := by decide +kernel
  have hc : lcLoop ([.sh (.str x), .un] : Ev) (gSet 1) t__law_is_name_2 e__law_is_name_1 (x.cps.toList.map signD) k
      = some (((x.cps.toList.map signD).filter notLetter).map id, k) := by
    refine lc_pure notLetter id fun d hd => ?_
    obtain ⟨c, hc, rfl⟩ := List.mem_map.mp hd
    exact ⟨[.sh (.str x), .sh (signD c)], rfl, sign_low x c k (sign_ok (okS_mem h hc)), fun _ => rfl⟩
  rw [List.map_id] at hc
  have ho : okD (.list ((x.cps.toList.map signD).filter notLetter)) = true := okL fun d hd => by
    obtain ⟨c, hc, rfl⟩ := List.mem_map.mp (List.mem_filter.mp hd).1
    have := sign_ok (okS_mem h hc)
    rw [okD_eq, Bool.and_eq_true] at this
    exact ⟨this.1, by simp [signD]⟩
  have he : ((x.cps.toList.map signD).filter notLetter).isEmpty = x.cps.toList.all letter := by
    rw [filt_empty]
    congr 1
    funext c
    simp [notLetter, signD]
  have hlen : x.cps.size ≤ 1000000 := hl
  by_cases h1 : 1 ≤ x.length
  · have h1' : ¬ (x.length : Int) < 1 := by omega
    by_cases h8 : x.length ≤ 8
    · have h8' : ¬ 8 < (x.length : Int) := by omega
      simp [d__law_is_name, b__law_is_name, k1, hl, h1, h1', h8, h8', hc, ho, he, hlen, isNameB]
    · have h8' : 8 < (x.length : Int) := by omega
      simp [d__law_is_name, b__law_is_name, k1, hl, h1, h1', h8, h8', isNameB]
  · have h1' : (x.length : Int) < 1 := by omega
    simp [d__law_is_name, b__law_is_name, k1, hl, h1, h1', isNameB]
theorem law_is_name_D {a : Dt} (h : GoodA a) (k : Int) : d__law_is_name [a] k = some (.bool (isNameB a), k) := by
  by_cases hs : ∃ x, a = .str x
  · obtain ⟨x, rfl⟩ := hs
    exact law_is_name_str x k (h.1 x rfl)
  · have hs' : ∀ x, a ≠ .str x := fun x e => hs ⟨x, e⟩
    rw [isNameB_other hs']
    have k1 : kitB "NoneType" "str" = some false := by decide +kernel
    have k2 : kitB "bool" "str" = some false := by decide +kernel
    have k3 : kitB "int" "str" = some false := by decide +kernel
    have k4 : kitB "list" "str" = some false := by decide +kernel
    have k5 : kitB "tuple" "str" = some false := by decide +kernel
    have k6 : kitB "dict" "str" = some false := by decide +kernel
    cases a with
    | str x => exact absurd rfl (hs' x)
    | dict kvs => simp [d__law_is_name, b__law_is_name, h.2, k6]
    | _ => simp [d__law_is_name, b__law_is_name, k1, k2, k3, k4, k5]
theorem law_pair_D {d : Dt} (p q : Int) (h : Good d) (k : Int) : d__law_is_pair [d, .list [.int p, .int q]] k = some (.bool (pairB p q d), k) := by
  have t1 : kitB "tuple" "tuple" = some true := by decide +kernel
  have t2 : kitB "NoneType" "tuple" = some false := by decide +kernel
  have t3 : kitB "bool" "tuple" = some false := by decide +kernel
  have t4 : kitB "int" "tuple" = some false := by decide +kernel
  have t5 : kitB "str" "tuple" = some false := by decide +kernel
  have t6 : kitB "list" "tuple" = some false := by decide +kernel
  have t7 : kitB "dict" "tuple" = some false := by decide +kernel
  cases d with
  | tuple ds =>
    match ds, h with
    | [a, b], h =>
      have hn := law_is_name_D h.1 k
      have hb := h.2
      have i1 : kitB "NoneType" "int" = some false := by decide +kernel
      have i2 : kitB "bool" "int" = some true := by decide +kernel
      have i3 : kitB "int" "int" = some true := by decide +kernel
      have i4 : kitB "str" "int" = some false := by decide +kernel
      have i5 : kitB "list" "int" = some false := by decide +kernel
      have i6 : kitB "tuple" "int" = some false := by decide +kernel
      have i7 : kitB "dict" "int" = some false := by decide +kernel
      have b2 : kitB "bool" "bool" = some true := by decide +kernel
      have b3 : kitB "int" "bool" = some false := by decide +kernel
      cases hb2 : isNameB a with
      | false =>
        rw [hb2] at hn
        have : pairB p q (.tuple [a, b]) = false := by cases b <;> simp [pairB, hb2]
        rw [this]
        simp [d__law_is_pair, b__law_is_pair, t1, hn]
      | true =>
        rw [hb2] at hn
        cases b with
        | int i =>
          by_cases h1 : i = p
          · simp [d__law_is_pair, b__law_is_pair, t1, hn, i3, b3, pairB, hb2, h1, okD_eq]
          · by_cases h2 : i = q
            · simp [d__law_is_pair, b__law_is_pair, t1, hn, i3, b3, pairB, hb2, h1, h2, okD_eq]
            · have h1' : ¬ p = i := fun e => h1 e.symm
              have h2' : ¬ q = i := fun e => h2 e.symm
              simp [d__law_is_pair, b__law_is_pair, t1, hn, i3, b3, pairB, hb2, h1, h2, h1', h2', okD_eq]
        | dict kvs => simp [d__law_is_pair, b__law_is_pair, t1, hn, i7, pairB, hb]
        | bool c => simp [d__law_is_pair, b__law_is_pair, t1, hn, i2, b2, pairB]
        | _ => simp [d__law_is_pair, b__law_is_pair, t1, hn, i1, i4, i5, i6, pairB]
    | [], _ => simp [d__law_is_pair, b__law_is_pair, t1, pairB]
    | [_], _ => simp [d__law_is_pair, b__law_is_pair, t1, pairB]
    | x :: y :: z :: r, h =>
      have hl : (x :: y :: z :: r).length ≤ 1000000 := h
      have hne : ¬ (r.length : Int) + 1 + 1 + 1 = 2 := by omega
      have hl2 : r.length + 1 + 1 + 1 ≤ 1000000 := hl
      simp [d__law_is_pair, b__law_is_pair, t1, pairB, hl2, hne]
  | dict kvs =>
    have hc : isCtr (.dict kvs) = false := h
    simp [d__law_is_pair, b__law_is_pair, t7, hc, pairB]
  | _ => simp [d__law_is_pair, b__law_is_pair, t2, t3, t4, t5, t6, pairB]
theorem Good.a {d : Dt} (h : Good d) : GoodA d := by
  cases d with
  | str x => exact ⟨fun y e => (by cases e; exact h), rfl⟩
  | dict kvs => exact ⟨fun y e => (by cases e), h⟩
  | _ => exact ⟨fun y e => (by cases e), rfl⟩
theorem told_D {d : Dt} (h : Good d) (k : Int) : d__law_told [d] k = some (.bool true, k) := by
  have h1 := is_name_D h.a k
  have h2 := is_piece_D h k
  have h3 := is_end_D h k
  have h4 := law_is_name_D h.a k
  have h5 := law_pair_D 1 (-1) h k
  have h6 := law_pair_D 0 1 h k
  have b2 : kitB "bool" "bool" = some true := by decide +kernel
  simp [lcLoop, d__law_told, b__law_told, e__law_told_1, t__law_told_2, h1, h2, h3, h4, h5, h6, b2, okD_eq]
end K01

set_option Elab.async false
set_option linter.all false
set_option maxRecDepth 100000
set_option maxHeartbeats 2000000
namespace K01
open PySem PySem.Spec PyProof.Rows L2 Evl Dn

/-! ### draws -/
def scr (ns : List Int) : Dt := .list (ns.map .int)
theorem scr_ok (ns : List Int) : okD (scr ns) = true := okL fun d hd => by
  obtain ⟨i, _, rfl⟩ := List.mem_map.mp hd
  simp
def cellsOf (ns : List Int) : List Int := if ns = [] then [0] else ns
def drawV (ns : List Int) (k many : Int) : Int :=
  let c := (cellsOf ns).getD (k % ((cellsOf ns).length : Int)).toNat 0
  let n := (c % 1000000007 + 31 * k + 17) * 48271 % 2147483647
  n * (k * k + 16807) % 2147483629 / 4096 % many
theorem getD_at (xs : List Int) (j : Nat) (h : j < xs.length) : xs[j]? = some (xs.getD j 0) := by
  rw [List.getD_eq_getElem?_getD, List.getElem?_eq_getElem h]
  rfl
theorem atI_map {xs : List Int} {i : Int} (h0 : 0 ≤ i) (h1 : i < (xs.length : Int)) : L2.atI (xs.map PyData.int) i = some (.int (xs.getD i.toNat 0)) := by
  have hi : i.toNat < xs.length := by omega
  have := L2.atI_nat (xs := xs.map PyData.int) (j := i.toNat) (v := .int (xs.getD i.toNat 0)) (by
    rw [List.getElem?_map, getD_at xs _ hi]
    rfl)
  rwa [Int.toNat_of_nonneg h0] at this
def catDraw : DL := dBL gCat (dVarO 0) (lD (lRep (dNL gLstD (aCons (dC (.int 0)) aNil)) (dN gInt (aCons (dB gEq (dVarO 0) (lD (dNL gLstD aNil))) aNil))))
theorem cat_eq (ns : List Int) (hl : ns.length ≤ 63) (ρ : Ev) (k : Int) (h : ρ[0]? = some (.sh (scr ns))) : catDraw ρ k = some ((cellsOf ns).map .int, k) := by
  have hso := scr_ok ns
  have hl2 : ns.length + 1 ≤ 1000000 := by omega
  have hl3 : ns.length ≤ 1000000 := by omega
  cases ns with
  | nil =>
    have e1 : scr [] = .list [] := rfl
    rw [e1] at h
    simp [catDraw, h, cellsOf]
  | cons n ns =>
    have e1 : scr (n :: ns) = .list (.int n :: ns.map .int) := rfl
    have hl4 : ns.length + 1 ≤ 1000000 := by simpa using hl3
    rw [e1] at h hso
    simp [catDraw, h, cellsOf, hso, hl4]
theorem draw_eq (ns : List Int) (hl : ns.length ≤ 63) (k many : Int) (h0 : 0 ≤ k) (h1 : k < 1000000) (hm : 0 < many) : d__law_draw [scr ns, ctrD, .int many] k = some (.int (drawV ns k many), k + 1) := by
  have hpos : 0 < (cellsOf ns).length := by
    unfold cellsOf
    split
    · simp
    · exact List.length_pos_iff.mpr ‹_›
  have hlen : (cellsOf ns).length ≤ 63 := by
    unfold cellsOf
    split
    · simp
    · exact hl
  have hi0 : 0 ≤ k % ((cellsOf ns).length : Int) := Int.emod_nonneg _ (by omega)
  have hi1 : k % ((cellsOf ns).length : Int) < ((cellsOf ns).length : Int) := Int.emod_lt_of_pos _ (by omega)
  have hat := atI_map (xs := cellsOf ns) hi0 hi1
  have hk1 : -18446744073709551616 < k := by omega
  have hk2 : k < 18446744073709551616 := by omega
  have hn : ∀ c : Int, -18446744073709551616 < (c % 1000000007 + 31 * k + 17) * 48271 % 2147483647 ∧ (c % 1000000007 + 31 * k + 17) * 48271 % 2147483647 < 18446744073709551616 := fun c => by
    have a1 := Int.emod_nonneg ((c % 1000000007 + 31 * k + 17) * 48271) (show (2147483647 : Int) ≠ 0 by decide)
    have a2 := Int.emod_lt_of_pos ((c % 1000000007 + 31 * k + 17) * 48271) (show (0 : Int) < 2147483647 by decide)
    omega
  have hc := cat_eq ns hl [.sh (scr ns), .sh ctrD, .sh (.int many), .sh (.int k), .un, .un] (k + 1) rfl
  have hl5 : (cellsOf ns).length ≤ 1000000 := by omega
  have hp5 : (0 : Int) < ((cellsOf ns).length : Int) := by omega
  unfold catDraw at hc
  unfold drawV
  generalize cellsOf ns = cs at *
  generalize cs.getD (k % (cs.length : Int)).toNat 0 = c at *
  have hn2 := hn c
  simp only [d__law_draw, b__law_draw, dDef, List.length_cons, List.length_nil, if_true, startE, List.map_cons, List.map_nil, List.cons_append, List.nil_append]
  simp only [sSeq, sAsg, dAt, sAt, isCtr_ctr, gSet]
  simp [-dBL, hc, hl5, hpos, hat, hm, hk1, hk2, hn2.1, hn2.2]

theorem drawV_bd (ns : List Int) (k many : Int) (hm : 0 < many) : 0 ≤ drawV ns k many ∧ drawV ns k many < many := by
  unfold drawV
  exact ⟨Int.emod_nonneg _ (by omega), Int.emod_lt_of_pos _ hm⟩
theorem lc_state {ρ : Ev} {g : DG} {e : DE} (P : Dt → Prop) (lo hi : Int) : ∀ {ds : List Dt}, (∀ d ∈ ds, ∀ k, lo ≤ k → k < hi → ∃ ρ' v, g ρ d = some ρ' ∧ e ρ' k = some (v, k + 1) ∧ P v) →
    ∀ k, lo ≤ k → k + (ds.length : Int) ≤ hi → ∃ vs, lcLoop ρ g tAll e ds k = some (vs, k + (ds.length : Int)) ∧ vs.length = ds.length ∧ ∀ v ∈ vs, P v
  | [], _, k, _, _ => ⟨[], by simp, rfl, by simp⟩
  | d :: ds, h, k, h1, h2 => by
    rw [List.length_cons] at h2
    obtain ⟨ρ', v, e1, e2, p⟩ := h d List.mem_cons_self k h1 (by omega)
    obtain ⟨vs, e3, e4, e5⟩ := lc_state P lo hi (ds := ds) (fun d' hd => h d' (List.mem_cons_of_mem _ hd)) (k + 1) (by omega) (by omega)
    refine ⟨v :: vs, ?_, by simp [e4], fun u hu => ?_⟩
    · simp [lcLoop, e1, e2, e3]
      omega
    · rcases List.mem_cons.mp hu with rfl | hu
      · exact p
      · exact e5 u hu
theorem signs_of : ∀ {vs : List Dt}, (∀ v ∈ vs, ∃ c, v = signD c ∧ letter c = true) → ∃ cs : List Nat, vs = cs.map signD ∧ cs.all letter = true
  | [], _ => ⟨[], rfl, rfl⟩
  | v :: vs, h => by
    obtain ⟨c, e, l⟩ := h v List.mem_cons_self
    obtain ⟨cs, e2, l2⟩ := signs_of (vs := vs) fun u hu => h u (List.mem_cons_of_mem _ hu)
    exact ⟨c :: cs, by rw [e, e2]; rfl, by simp [l, l2]⟩
def IsName (x : Str) : Prop := 1 ≤ x.length ∧ x.length ≤ 8 ∧ x.cps.toList.all letter = true
def abc : Str := "abcdefghijklmnopqrstuvwxyz"
theorem abc_len : abc.length = 26 := by decide +kernel
theorem abc_all : abc.cps.toList.all letter = true := by decide +kernel
theorem abc_at {i : Int} (h0 : 0 ≤ i) (h1 : i < 26) : ∃ c, L2.atI abc.cps.toList i = some c ∧ letter c = true := by
  have hl : abc.cps.toList.length = 26 := abc_len
  have hi : i.toNat < abc.cps.toList.length := by omega
  have h := L2.atI_nat (xs := abc.cps.toList) (j := i.toNat) (List.getElem?_eq_getElem hi)
  rw [Int.toNat_of_nonneg h0] at h
  exact ⟨_, h, List.all_eq_true.mp abc_all _ (List.getElem_mem hi)⟩
theorem signs_ss (cs : List Nat) : asSs (cs.map signD) = some (cs.map fun c => (⟨#[c]⟩ : Str)) := by
  rw [← asSs_map, List.map_map]
  rfl
theorem join_signs : ∀ cs : List Nat, (Str.join Str.empty (cs.map fun c => (⟨#[c]⟩ : Str))).cps.toList = cs
  | [] => rfl
  | [c] => rfl
  | c :: d :: cs => by
    show (⟨#[c]⟩ ++ Str.empty ++ Str.join Str.empty ((d :: cs).map fun c => (⟨#[c]⟩ : Str)) : Str).cps.toList = _
    have ih := join_signs (d :: cs)
    have ha : ∀ a b : Str, (a ++ b).cps.toList = a.cps.toList ++ b.cps.toList := fun a b => Array.toList_append
    rw [ha, ha, ih]
    rfl
theorem sum_ones (cs : List Nat) : ((cs.map fun c => (⟨#[c]⟩ : Str)).map (·.length)).sum = cs.length := by
  induction cs with
  | nil => rfl
  | cons c cs ih =>
    rw [List.map_cons, List.map_cons, List.sum_cons, ih, List.length_cons]
    show 1 + cs.length = cs.length + 1
    omega
theorem name_eq (ns : List Int) (hl : ns.length ≤ 63) (k : Int) (h0 : 0 ≤ k) (h1 : k < 900000) : ∃ x k', d__law_name [scr ns, ctrD] k = some (.str x, k') ∧ IsName x ∧ k ≤ k' ∧ k' ≤ k + 9 := by
  have hd := draw_eq ns hl k 8 h0 (by omega) (by decide)
  obtain ⟨b0, b1⟩ := drawV_bd ns k 8 (by decide)
  generalize drawV ns k 8 = r at *
  let ρ : Ev := [.sh (scr ns), .sh ctrD, .sh (.str abc), .un]
  obtain ⟨vs, e1, e2, e3⟩ := lc_state (ρ := ρ) (g := gSet 3) (e := e__law_name_1) (fun v => ∃ c, v = signD c ∧ letter c = true) 0 1000000 (ds := (List.range (1 + r).toNat).map fun (i : Nat) => PyData.int (i : Int))
    (fun d hd k1 a1 a2 => by
      have hd2 := draw_eq ns hl k1 26 a1 a2 (by decide)
      obtain ⟨c0, c1⟩ := drawV_bd ns k1 26 (by decide)
      obtain ⟨c, hc, lc⟩ := abc_at c0 c1
      have ha : abc.length ≤ 1000000 := by rw [abc_len]; decide
      refine ⟨[.sh (scr ns), .sh ctrD, .sh (.str abc), .sh d], signD c, rfl, ?_, c, rfl, lc⟩
      simp [e__law_name_1, hd2, ha, hc]) (k + 1) (by omega) (by simp; omega)
  obtain ⟨cs, rfl, hcs⟩ := signs_of e3
  rw [List.length_map, List.length_map, List.length_range] at e2
  refine ⟨Txt.join Str.empty (cs.map fun c => (⟨#[c]⟩ : Str)), k + 1 + ((1 + r).toNat : Int), ?_, ?_, by omega, by omega⟩
  · have hr0 : 0 ≤ 1 + r := by omega
    have hr1 : 1 + r ≤ 1000000 := by omega
    have hr2 : (1 + r).toNat ≤ 1000000 := by omega
    have hs := sum_ones cs
    rw [List.map_map] at hs
    have hs2 : cs.length ≤ 16777216 := by omega
    have he : (Str.empty).length = 0 := rfl
    have hss := signs_ss cs
    have hb : b__law_name = sSeq (sAsg (dC (.str abc)) (gSet 2)) (sRet (dM gJoin (dC (.str Str.empty)) (aCons (lD (dLc (dNL gRange1 (aCons (dB gAdd (dC (.int 1)) (dCall d__law_draw (aCons (dVar 0) (aCons (dVar 1) (aCons (dC (.int 8)) aNil))))) aNil)) [3] (gSet 3) tAll e__law_name_1)) aNil))) := rfl
    have e1' : lcLoop [.sh (scr ns), .sh ctrD, .sh (.str abc), .un] _ _ _ _ _ = _ := e1
    simp [d__law_name, hb, hd, hr0, hr1, hr2, e1', hss, hs, hs2, he]
  · have hj := join_signs cs
    rw [TL.join_eq]
    have hlen : (Str.join Str.empty (cs.map fun c => (⟨#[c]⟩ : Str))).length = cs.length := by
      show (Str.join Str.empty (cs.map fun c => (⟨#[c]⟩ : Str))).cps.size = _
      rw [← Array.length_toList, hj]
    refine ⟨?_, ?_, by rw [hj]; exact hcs⟩
    · rw [hlen]
      omega
    · rw [hlen]
      omega
end K01

set_option Elab.async false
set_option linter.all false
set_option maxRecDepth 100000
set_option maxHeartbeats 4000000
namespace K01
open PySem PySem.Spec PyProof.Rows L2 Evl Dn

/-! ### texts that are sound -/
def okC (x : Str) : Prop := ∀ c ∈ x.cps.toList, c < 0x110000
theorem strOk_of {x : Str} (h : okC x) : PyData.strOk x = true := by
  simp only [PyData.strOk, Array.all_eq_true_iff_forall_mem]
  intro c hc
  simpa using h c (by simpa using hc)
theorem okS_of {x : Str} (h : okC x) (hl : x.length ≤ 1000000) : okS x := ⟨hl, strOk_of h⟩
theorem letter_lt {c : Nat} (h : letter c = true) : c < 128 := by
  simp [letter] at h
  omega
theorem IsName.low {x : Str} (h : IsName x) : ∀ c ∈ x.cps.toList, c < 128 := fun c hc => letter_lt (List.all_eq_true.mp h.2.2 c hc)
theorem IsName.okC {x : Str} (h : IsName x) : okC x := fun c hc => Nat.lt_of_lt_of_le (h.low c hc) (by decide)
theorem IsName.len {x : Str} (h : IsName x) : x.length ≤ 8 := h.2.1
theorem okC_app {x y : Str} (h : okC x) (h2 : okC y) : okC (x ++ y) := fun c hc => by
  have e : (x ++ y).cps.toList = x.cps.toList ++ y.cps.toList := Array.toList_append
  rw [e] at hc
  rcases List.mem_append.mp hc with hc | hc
  · exact h c hc
  · exact h2 c hc
theorem len_app (x y : Str) : (x ++ y).length = x.length + y.length := Array.size_append
theorem okC_cut {x : Str} (h : okC x) (lo hi : Option Int) : okC (cutS x lo hi) := fun c hc => by
  refine h c ?_
  have : c ∈ (x.cps.toList.drop (HT.sIx x.length 0 lo)).take (HT.sIx x.length x.length hi - HT.sIx x.length 0 lo) := by simpa [cutS] using hc
  exact List.mem_of_mem_drop (List.mem_of_mem_take this)
theorem rep_mem {a : Array Nat} {c : Nat} : ∀ {n : Nat} {acc : Array Nat}, c ∈ ((List.replicate n a).foldl (· ++ ·) acc).toList → c ∈ acc.toList ∨ c ∈ a.toList
  | 0, acc, h => .inl h
  | n + 1, acc, h => by
    rw [List.replicate_succ, List.foldl_cons] at h
    rcases rep_mem h with h | h
    · rw [Array.toList_append] at h
      exact List.mem_append.mp h
    · exact .inr h
abbrev repS := repStr
theorem okC_rep {x : Str} (h : okC x) (n : Nat) : okC (repS x n) := fun c hc => by
  rcases rep_mem (acc := #[]) hc with hc | hc
  · simp at hc
  · exact h c hc
theorem len_rep (x : Str) (n : Nat) : (repS x n).length = x.length * n := by
  show ((List.replicate n x.cps).foldl (· ++ ·) #[]).size = _
  rw [← foldl_arr]
  simp [Str.length]
theorem upper_ok {x : Str} (h : IsName x) : okC (Txt.upper x) ∧ (Txt.upper x).length = x.length := by
  rw [upper_ascii h.low]
  refine ⟨fun c hc => ?_, ?_⟩
  · simp only [Array.toList_map, List.mem_map] at hc
    obtain ⟨c', hc', rfl⟩ := hc
    have := h.low c' hc'
    unfold up1
    split <;> omega
  · exact Array.size_map
theorem okC_lit {x : Str} (h : x.cps.toList.all (fun c => decide (c < 0x110000)) = true) : okC x := fun c hc => by
  simpa using List.all_eq_true.mp h c hc
/-! ### odd things -/
def cut1 (x : Str) : Str := cutS x none (some (-1))
def oddL (x : Str) : List Dt := [.str (x ++ "abcdefgh"), .str "", .str (cut1 x ++ "A"), .str (cut1 x ++ " "), .str (cut1 x ++ "1"), .none, .int 5, .list [.str x], .tuple [.str x], .tuple [],
  .tuple [.str x, .int 2], .tuple [.str x, .int (-1)], .tuple [.str x, .int 0], .tuple [.str x, .int 1], .tuple [.str x, .bool true], .tuple [.str x, .bool false], .tuple [.str x, .int (-2)], .list [.str x, .int 1],
  .tuple [.str x, .int 0, .int 0], .tuple [.str "", .int 1], .tuple [.str "", .int 0], .tuple [.str (Txt.upper x), .int 1], .tuple [.str (Txt.upper x), .int 0], .tuple [.int 5, .int 1], .tuple [.str x, .str "1"],
  .tuple [.str x, .none],
  .tuple [.int 0, .str x], .dict [(.str x, .int 1)], .tuple [.tuple [.str x, .int 1], .int 1], .str (x ++ "\n"), .tuple [.str (x ++ "\n"), .int 0], .str (repS (cutS x none (some 1)) 8), .str (repS (cutS x none (some 1)) 9)]
theorem goodA_str {x : Str} (h : okC x) (hl : x.length ≤ 1000000) : GoodA (.str x) := ⟨fun y e => by cases e; exact okS_of h hl, rfl⟩
theorem goodA_other {d : Dt} (h : ∀ x, d ≠ .str x) (hc : isCtr d = false) : GoodA d := ⟨fun x e => absurd e (h x), hc⟩
theorem odd_good {x : Str} (h : IsName x) : ∀ d ∈ oddL x, Good d := by
  have hx := h.okC
  have hl := h.len
  have l1 : (Str.ofString "abcdefgh").length = 8 := by decide +kernel
  have l2 : (Str.ofString "A").length = 1 := by decide +kernel
  have l3 : (Str.ofString " ").length = 1 := by decide +kernel
  have l4 : (Str.ofString "1").length = 1 := by decide +kernel
  have l5 : (Str.ofString "\n").length = 1 := by decide +kernel
  have l6 : (Str.ofString "").length = 0 := by decide +kernel
  have c1 : okC (Str.ofString "abcdefgh") := okC_lit (by decide +kernel)
  have c2 : okC (Str.ofString "A") := okC_lit (by decide +kernel)
  have c3 : okC (Str.ofString " ") := okC_lit (by decide +kernel)
  have c4 : okC (Str.ofString "1") := okC_lit (by decide +kernel)
  have c5 : okC (Str.ofString "\n") := okC_lit (by decide +kernel)
  have c6 : okC (Str.ofString "") := okC_lit (by decide +kernel)
  have lc := cutS_length x none (some (-1))
  have lc1 := cutS_length x none (some 1)
  have cc := okC_cut hx none (some (-1))
  have cc1 := okC_cut hx none (some 1)
  obtain ⟨u1, u2⟩ := upper_ok h
  have gx : GoodA (.str x) := goodA_str hx (by omega)
  intro d hd
  simp only [oddL, List.mem_cons, List.not_mem_nil, or_false] at hd
  rcases hd with rfl | rfl | rfl | rfl | rfl | rfl | rfl | rfl | rfl | rfl | rfl | rfl | rfl | rfl | rfl | rfl | rfl | rfl | rfl | rfl | rfl | rfl | rfl | rfl | rfl | rfl | rfl | rfl | rfl | rfl | rfl | rfl | rfl
  · exact okS_of (okC_app hx c1) (by rw [len_app]; omega)
  · exact okS_of c6 (by omega)
  · exact okS_of (okC_app cc c2) (by rw [len_app]; unfold cut1; omega)
  · exact okS_of (okC_app cc c3) (by rw [len_app]; unfold cut1; omega)
  · exact okS_of (okC_app cc c4) (by rw [len_app]; unfold cut1; omega)
  · exact trivial
  · exact trivial
  · exact trivial
  · exact (by decide : (1 : Nat) ≤ 1000000)
  · exact (by decide : (0 : Nat) ≤ 1000000)
  · exact ⟨gx, rfl⟩
  · exact ⟨gx, rfl⟩
  · exact ⟨gx, rfl⟩
  · exact ⟨gx, rfl⟩
  · exact ⟨gx, rfl⟩
  · exact ⟨gx, rfl⟩
  · exact ⟨gx, rfl⟩
  · exact trivial
  · exact (by decide : (3 : Nat) ≤ 1000000)
  · exact ⟨goodA_str c6 (by omega), rfl⟩
  · exact ⟨goodA_str c6 (by omega), rfl⟩
  · exact ⟨goodA_str u1 (by omega), rfl⟩
  · exact ⟨goodA_str u1 (by omega), rfl⟩
  · exact ⟨goodA_other (fun _ e => by cases e) rfl, rfl⟩
  · exact ⟨gx, rfl⟩
  · exact ⟨gx, rfl⟩
  · exact ⟨goodA_other (fun _ e => by cases e) rfl, rfl⟩
  · exact rfl
  · exact ⟨goodA_other (fun _ e => by cases e) rfl, rfl⟩
  · exact okS_of (okC_app hx c5) (by rw [len_app]; omega)
  · exact ⟨goodA_str (okC_app hx c5) (by rw [len_app]; omega), rfl⟩
  · exact okS_of (okC_rep cc1 8) (by rw [len_rep]; omega)
  · exact okS_of (okC_rep cc1 9) (by rw [len_rep]; omega)
theorem atI_in {l : List Dt} {i : Int} (h0 : 0 ≤ i) (h1 : i < (l.length : Int)) : ∃ d ∈ l, L2.atI l i = some d := by
  have hi : i.toNat < l.length := by omega
  have h := L2.atI_nat (xs := l) (j := i.toNat) (List.getElem?_eq_getElem hi)
  rw [Int.toNat_of_nonneg h0] at h
  exact ⟨_, List.getElem_mem hi, h⟩
theorem odd_eq (ns : List Int) (hl : ns.length ≤ 63) {x : Str} (h : IsName x) (k : Int) (h0 : 0 ≤ k) (h1 : k < 900000) : ∃ d, d__law_odd [scr ns, ctrD, .str x] k = some (d, k + 1) ∧ Good d := by
  have hd := draw_eq ns hl k 33 h0 (by omega) (by decide)
  obtain ⟨b0, b1⟩ := drawV_bd ns k 33 (by decide)
  obtain ⟨d, hm, ha⟩ := atI_in (l := oddL x) b0 (by simpa [oddL] using b1)
  refine ⟨d, ?_, odd_good h d hm⟩
  have hx := h.okC
  have hl8 := h.len
  have l1 : (Str.ofString "abcdefgh").length = 8 := by decide +kernel
  have l2 : (Str.ofString "A").length = 1 := by decide +kernel
  have l3 : (Str.ofString " ").length = 1 := by decide +kernel
  have l4 : (Str.ofString "1").length = 1 := by decide +kernel
  have l5 : (Str.ofString "\n").length = 1 := by decide +kernel
  have lc := cutS_length x none (some (-1))
  have lc1 := cutS_length x none (some 1)
  have g1 : x.length + 8 ≤ 1000000 := by omega
  have g2 : (cutS x none (some (-1))).length + 1 ≤ 1000000 := by omega
  have g3 : x.length ≤ 1000000 := by omega
  have g4 : (cutS x none (some 1)).length ≤ 1000 := by omega
  have g5 : x.length + 1 ≤ 1000000 := by omega
  simp only [oddL, cut1] at ha
  simp [d__law_odd, b__law_odd, g1, g2, g3, g4, g5, l1, l2, l3, l4, l5, hd, ha]
end K01

set_option Elab.async false
set_option linter.all false
set_option maxRecDepth 100000
set_option maxHeartbeats 4000000
namespace K01
open PySem PySem.Spec PyProof.Rows L2 Evl Dn

def endD (x : Str) (s : Int) : Dt := .tuple [.str x, .int s]
theorem begins_D (x : Str) (w : Int) (k : Int) (hw : w = 1 ∨ w = -1) : d_begins [.tuple [.str x, .int w]] k = some (endD x (if w = 1 then 0 else 1), k) := by
  rcases hw with rfl | rfl <;> simp [d_begins, b_begins, endD]
theorem other_end_D (x : Str) (s : Int) (k : Int) : d_other_end [endD x s] k = some (endD x (1 - s), k) := by
  simp [d_other_end, b_other_end, endD]
theorem ends_D (x : Str) (w : Int) (k : Int) (hw : w = 1 ∨ w = -1) : d_ends [.tuple [.str x, .int w]] k = some (endD x (if w = 1 then 1 else 0), k) := by
  have h := begins_D x w k hw
  rcases hw with rfl | rfl
  · simp at h
    simp [d_ends, b_ends, h, other_end_D]
  · simp at h
    simp [d_ends, b_ends, h, other_end_D]
theorem place_of_D {a b : Dt} {c : Bool} (ha : okD a = true) (hb : okD b = true) (h : leD a b = some c) (k : Int) : d_place_of [a, b] k = some (if c = true then .tuple [a, b] else .tuple [b, a], k) := by
  cases c <;> simp [d_place_of, b_place_of, ha, hb, h]
theorem end_ok {x : Str} (h : IsName x) (s : Int) : okD (endD x s) = true := by
  simp [okD_eq, endD, strOk_of h.okC]
theorem str_ext {x y : Str} (h : x.cps.toList = y.cps.toList) : x = y := by
  cases x
  cases y
  simp only [Str.mk.injEq]
  exact Array.toList_inj.mp h
theorem end_lt (x y : Str) (s t : Int) : ltD (endD x s) (endD y t) = some (if x = y then decide (s < t) else decide (x.cps.toList < y.cps.toList)) := by
  simp only [endD, ltD_tuple, ltA_cons, ltA_nil_nil, Option.bind_some, eqv_int_int, eqv_str_str, ltD_int, ltD_str, beq_iff_eq]
  by_cases h : x = y
  · by_cases h2 : s = t
    · subst h2
      simp [h]
    · simp [h, h2]
  · by_cases h2 : s = t <;> simp [h, h2]
theorem end_le (x y : Str) (s t : Int) : leD (endD x s) (endD y t) = some (if x = y then decide (s ≤ t) else !decide (y.cps.toList < x.cps.toList)) := by
  simp only [endD, leD_tuple, leA_cons, leA_nil, Option.bind_some, eqv_int_int, eqv_str_str, leD_int, leD_str, beq_iff_eq]
  by_cases h : x = y
  · by_cases h2 : s = t
    · subst h2
      simp [h]
    · simp [h, h2]
  · by_cases h2 : s = t <;> simp [h, h2]
theorem ord_tri {x y : Str} (h : x ≠ y) : (y.cps.toList < x.cps.toList) ↔ ¬ x.cps.toList < y.cps.toList := by
  constructor
  · exact fun a b => List.lt_asymm a b
  · intro a
    rcases Decidable.em (y.cps.toList < x.cps.toList) with b | b
    · exact b
    · exact absurd (str_ext (List.le_antisymm (List.not_lt.mp b) (List.not_lt.mp a))) h
theorem end_eqv (x y : Str) (s t : Int) : PyData.eqv (endD x s) (endD y t) = (decide (x = y) && decide (s = t)) := by
  simp [endD]
  rfl

theorem good_name {x : Str} (h : IsName x) : Good (.str x) := okS_of h.okC (by have := h.len; omega)
theorem good_pair {x : Str} (h : IsName x) (i : Int) : Good (.tuple [.str x, .int i]) := ⟨goodA_str h.okC (by have := h.len; omega), rfl⟩
theorem isName_B {x : Str} (h : IsName x) : isNameB (.str x) = true := by
  simp only [isNameB, h.2.2, Bool.and_true]
  simp [h.1, h.2.1]
theorem inner_eq (c0 c1 c2 c3 c4 c5 c6 c7 c8 c9 c10 c11 : Cell) (k : Int) (d1 d2 d3 d4 d5 d6 : Dt) (h1 : Good d1) (h2 : Good d2) (h3 : Good d3) (h4 : Good d4) (h5 : Good d5) (h6 : Good d6) :
    forLoop (gSet 4) b_law_1 [d1, d2, d3, d4, d5, d6] [c0, c1, c2, c3, c4, c5, c6, c7, c8, c9, c10, c11] k = some (.next [c0, c1, c2, c3, .sh d6, c5, c6, c7, c8, c9, c10, c11] k) := by
  simp [forLoop, b_law_1, told_D h1, told_D h2, told_D h3, told_D h4, told_D h5, told_D h6]
theorem seq_next {f g : DS} {ρ ρ' : Ev} {k k' : Int} (h : f ρ k = some (.next ρ' k')) : sSeq f g ρ k = g ρ' k' := by simp [sSeq, h]
/-- the two ends' places, either way about, and the law's own -/
theorem places_eq {x y : Str} (hx : IsName x) (hy : IsName y) (s t : Int) (k : Int) : ∃ b d, ltD (endD x s) (endD y t) = some b ∧ (if b = true then PyData.tuple [endD x s, endD y t] else .tuple [endD y t, endD x s]) = d ∧
    ∃ d1 d2, d_place_of [endD x s, endD y t] k = some (d1, k) ∧ d_place_of [endD y t, endD x s] k = some (d2, k) ∧ PyData.eqv d1 d = true ∧ PyData.eqv d2 d = true ∧ okD d1 = true ∧ okD d2 = true ∧ okD d = true := by
  have o1 := end_ok hx s
  have o2 := end_ok hy t
  have oo : ∀ a b : Dt, okD a = true → okD b = true → a.depth ≤ 2 → b.depth ≤ 2 → okD (.tuple [a, b]) = true := fun a b ha hb da db => by
    rw [okD_eq, Bool.and_eq_true] at ha hb ⊢
    simp [ha.1, hb.1]
    omega
  have d1 : (endD x s).depth ≤ 2 := by simp [endD]
  have d2 : (endD y t).depth ≤ 2 := by simp [endD]
  have ee : ∀ (x y : Str) (s t : Int), PyData.eqv (.tuple [endD x s, endD y t]) (.tuple [endD x s, endD y t]) = true := fun x y s t => by simp [end_eqv]
  refine ⟨_, _, end_lt x y s t, rfl, _, _, place_of_D o1 o2 (end_le x y s t) k, place_of_D o2 o1 (end_le y x t s) k, ?_⟩
  by_cases h : x = y
  · subst h
    simp only [if_true]
    by_cases h2 : s < t
    · have h3 : s ≤ t := by omega
      have h4 : ¬ t ≤ s := by omega
      simp only [h2, h3, h4, decide_true, decide_false, if_true, Bool.false_eq_true, if_false]
      exact ⟨ee _ _ _ _, ee _ _ _ _, oo _ _ o1 o2 d1 d2, oo _ _ o1 o2 d1 d2, oo _ _ o1 o2 d1 d2⟩
    · by_cases h5 : s = t
      · subst h5
        simp only [h2, Int.le_refl, decide_true, decide_false, if_true, Bool.false_eq_true, if_false]
        exact ⟨ee _ _ _ _, ee _ _ _ _, oo _ _ o1 o2 d1 d2, oo _ _ o1 o2 d1 d2, oo _ _ o1 o2 d1 d2⟩
      · have h3 : ¬ s ≤ t := by omega
        have h4 : t ≤ s := by omega
        simp only [h2, h3, h4, decide_true, decide_false, if_true, Bool.false_eq_true, if_false]
        exact ⟨ee _ _ _ _, ee _ _ _ _, oo _ _ o2 o1 d2 d1, oo _ _ o2 o1 d2 d1, oo _ _ o2 o1 d2 d1⟩
  · have h' : ¬ y = x := fun e => h e.symm
    by_cases h2 : x.cps.toList < y.cps.toList
    · have h3 : ¬ y.cps.toList < x.cps.toList := List.lt_asymm h2
      simp only [h, h', h2, h3, decide_true, decide_false, Bool.not_true, Bool.not_false, if_true, Bool.false_eq_true, if_false]
      exact ⟨ee _ _ _ _, ee _ _ _ _, oo _ _ o1 o2 d1 d2, oo _ _ o1 o2 d1 d2, oo _ _ o1 o2 d1 d2⟩
    · have h3 : y.cps.toList < x.cps.toList := (ord_tri h).mpr h2
      simp only [h, h', h2, h3, decide_true, decide_false, Bool.not_true, Bool.not_false, if_true, Bool.false_eq_true, if_false]
      exact ⟨ee _ _ _ _, ee _ _ _ _, oo _ _ o2 o1 d2 d1, oo _ _ o2 o1 d2 d1, oo _ _ o2 o1 d2 d1⟩
theorem turn_eq (ns : List Int) (hl : ns.length ≤ 63) (c2 c3 c4 c5 c6 c7 c8 c9 c10 c11 : Cell) (k : Int) (h0 : 0 ≤ k) (h1 : k < 800000) :
    ∃ e2 e3 e4 e5 e6 e7 e8 e9 e10 e11 k', b_law_2 [.sh (scr ns), .sh ctrD, c2, c3, c4, c5, c6, c7, c8, c9, c10, c11] k = some (.next [.sh (scr ns), .sh ctrD, e2, e3, e4, e5, e6, e7, e8, e9, e10, e11] k') ∧ k ≤ k' ∧ k' ≤ k + 40 := by
  obtain ⟨x, k1, n1, x1, x2, x3⟩ := name_eq ns hl k h0 (by omega)
  obtain ⟨y, k2, n2, y1, y2, y3⟩ := name_eq ns hl k1 (by omega) (by omega)
  have r1 := draw_eq ns hl k2 2 (by omega) (by omega) (by decide)
  obtain ⟨b0, b1⟩ := drawV_bd ns k2 2 (by decide)
  generalize drawV ns k2 2 = r at *
  obtain ⟨o1, p1, q1⟩ := odd_eq ns hl x1 (k2 + 1) (by omega) (by omega)
  obtain ⟨o2, p2, q2⟩ := odd_eq ns hl y1 (k2 + 1 + 1) (by omega) (by omega)
  have r2 := draw_eq ns hl (k2 + 1 + 1 + 1) 2 (by omega) (by omega) (by decide)
  obtain ⟨s0, s1⟩ := drawV_bd ns (k2 + 1 + 1 + 1) 2 (by decide)
  generalize drawV ns (k2 + 1 + 1 + 1) 2 = s at *
  have hw : 1 - 2 * r = 1 ∨ 1 - 2 * r = -1 := by omega
  have hb := begins_D x (1 - 2 * r) (k2 + 1 + 1 + 1) hw
  have he := ends_D x (1 - 2 * r) (k2 + 1 + 1 + 1) hw
  generalize hwv : 1 - 2 * r = wv at *
  have hin := inner_eq (.sh (scr ns)) (.sh ctrD) c2 (.sh (.int wv)) c4 c5 c6 c7 (.sh (.str x)) (.sh (.str y)) (.sh (.tuple [.str x, .int 0])) (.sh (.tuple [.str x, .int 1])) (k2 + 1 + 1 + 1) (.str x) (.tuple [.str x, .int wv]) (.tuple [.str x, .int 0]) (.tuple [.str x, .int 1]) o1 o2 (good_name x1) (good_pair x1 _) (good_pair x1 _) (good_pair x1 _) q1 q2
  have t0 := end_ok x1 0
  have t1 := end_ok x1 1
  obtain ⟨b, d, hlt, hd, d1, d2, pl1, pl2, ev1, ev2, od1, od2, od⟩ := places_eq x1 y1 0 s (k2 + 1 + 1 + 1 + 1)
  have tf := end_ok y1 s
  have oe0 := other_end_D x 0 (k2 + 1 + 1 + 1)
  have oe1 := other_end_D x 1 (k2 + 1 + 1 + 1)
  have on : leD (.tuple []) (endD x 1) = some true := by simp [endD]
  have on2 : leD (endD x 1) (.tuple []) = some false := by simp [endD]
  have okn : okD (.tuple []) = true := by simp [okD_eq]
  have pn1 := place_of_D okn t1 on (k2 + 1 + 1 + 1 + 1)
  have pn2 := place_of_D t1 okn on2 (k2 + 1 + 1 + 1 + 1)
  have okp : okD (.tuple [.tuple [], endD x 1]) = true := by
    simp [okD_eq, endD, strOk_of x1.okC]
  have okl : ∀ a b : Int, okD (.list [endD x a, endD x b]) = true := fun a b => by simp [okD_eq, endD, strOk_of x1.okC]
  have lp := law_pair_D 0 1 (good_pair x1 0) (k2 + 1 + 1 + 1 + 1)
  have lp1 := law_pair_D 0 1 (good_pair x1 1) (k2 + 1 + 1 + 1 + 1)
  have ld0 := told_D (good_pair x1 0) (k2 + 1 + 1 + 1 + 1)
  have ld1 := told_D (good_pair x1 1) (k2 + 1 + 1 + 1 + 1)
  have pB0 : pairB 0 1 (.tuple [.str x, .int 0]) = true := by simp [pairB, isName_B x1]
  have pB1 : pairB 0 1 (.tuple [.str x, .int 1]) = true := by simp [pairB, isName_B x1]
  rw [pB0] at lp
  rw [pB1] at lp1
  have e1 : (sPar 8 9 (aCons (dCall d__law_name (aCons (dVar 0) (aCons (dVar 1) aNil))) (aCons (dCall d__law_name (aCons (dVar 0) (aCons (dVar 1) aNil))) aNil))) [.sh (scr ns), .sh ctrD, c2, c3, c4, c5, c6, c7, c8, c9, c10, c11] k = some (.next [.sh (scr ns), .sh ctrD, c2, c3, c4, c5, c6, c7, .sh (.str x), .sh (.str y), c10, c11] k2) := by
    simp [n1, n2]
  simp only [endD] at *
  refine ⟨c2, .sh (.int wv), .sh o2, .sh (.list [.tuple [.str x, .int (if wv = 1 then 0 else 1)], .tuple [.str x, .int (if wv = 1 then 1 else 0)]]), .sh (.tuple [.str y, .int s]), .sh d, .sh (.str x), .sh (.str y), .sh (.tuple [.str x, .int 0]), .sh (.tuple [.str x, .int 1]), k2 + 1 + 1 + 1 + 1, ?_, by omega, by omega⟩
  have hd' : (if b = true then some (PyData.tuple [.tuple [.str x, .int 0], .tuple [.str y, .int s]], k2 + 1 + 1 + 1 + 1) else some (PyData.tuple [.tuple [.str y, .int s], .tuple [.str x, .int 0]], k2 + 1 + 1 + 1 + 1)) = some (d, k2 + 1 + 1 + 1 + 1) := by
    rw [← hd]
    cases b <;> rfl
  unfold b_law_2
  rw [seq_next e1]
  rcases hw with rfl | rfl
  · simp only [if_true] at hb he
    simp [-ltD_tuple, r1, hwv, p1, p2, hin, hb, he, okl, oe0, oe1, t0, t1, tf, r2, hlt, hd', pl1, pl2, ev1, ev2, od1, od2, od, pn1, pn2, okp, ld0, lp]
  · simp only [if_neg (show ¬ (-1 : Int) = 1 by decide)] at hb he
    simp [-ltD_tuple, r1, hwv, p1, p2, hin, hb, he, okl, oe0, oe1, t0, t1, tf, r2, hlt, hd', pl1, pl2, ev1, ev2, od1, od2, od, pn1, pn2, okp, ld1, lp1]

theorem loop_eq (ns : List Int) (hl : ns.length ≤ 63) : ∀ (ds : List Dt) (c2 c3 c4 c5 c6 c7 c8 c9 c10 c11 : Cell) (k : Int), 0 ≤ k → k + 40 * (ds.length : Int) < 800000 →
    ∃ ρ' k', forLoop (gSet 2) b_law_2 ds [.sh (scr ns), .sh ctrD, c2, c3, c4, c5, c6, c7, c8, c9, c10, c11] k = some (.next ρ' k')
  | [], c2, c3, c4, c5, c6, c7, c8, c9, c10, c11, k, _, _ => ⟨_, _, rfl⟩
  | d :: ds, c2, c3, c4, c5, c6, c7, c8, c9, c10, c11, k, h0, h1 => by
    rw [List.length_cons] at h1
    obtain ⟨e2, e3, e4, e5, e6, e7, e8, e9, e10, e11, k', h, a1, a2⟩ := turn_eq ns hl (.sh d) c3 c4 c5 c6 c7 c8 c9 c10 c11 k h0 (by omega)
    obtain ⟨ρ', k2, h2⟩ := loop_eq ns hl ds e2 e3 e4 e5 e6 e7 e8 e9 e10 e11 k' (by omega) (by omega)
    refine ⟨ρ', k2, ?_⟩
    simp [forLoop, h, h2]
theorem law_true (ns : List Int) (hl : ns.length ≤ 63) : lawRun 12 1 b_law ns = some (.bool true) := by
  have hl2 : ns.length ≤ 1000000 := by omega
  by_cases h2 : (2 : Int) < (ns.length : Int)
  · obtain ⟨ρ', k', h⟩ := loop_eq ns hl ((List.range ns.length).map fun (i : Nat) => PyData.int (i : Int)) .un .un .un .un .un .un .un .un .un .un 0 (by decide) (by simp; omega)
    have e : lawEnv 12 1 ns = [.sh (scr ns), .sh ctrD, .un, .un, .un, .un, .un, .un, .un, .un, .un, .un] := rfl
    have hn : 2 < ns.length := by omega
    have hn3 : (ns.length : Int) ≤ 1000000 := by omega
    simp [-lawEnv, e, b_law, scr, hl2, h2, hn, hn3]
    simp only [scr] at h
    rw [h]
    rfl
  · obtain ⟨ρ', k', h⟩ := loop_eq ns hl ((List.range 2).map fun (i : Nat) => PyData.int (i : Int)) .un .un .un .un .un .un .un .un .un .un 0 (by decide) (by simp)
    have e : lawEnv 12 1 ns = [.sh (scr ns), .sh ctrD, .un, .un, .un, .un, .un, .un, .un, .un, .un, .un] := rfl
    have hn : ¬ 2 < ns.length := by omega
    simp [-lawEnv, e, b_law, scr, hl2, h2, hn]
    simp only [scr] at h
    rw [h]
    rfl
end K01

set_option Elab.async false
set_option linter.all false
set_option maxRecDepth 100000
set_option maxHeartbeats 2000000
namespace K01
open PySem PySem.Spec PyProof.Rows L2 Evl Dn
theorem dfn_mk {K : Fr} {mg : Str → Option Value} {h : Heap} {x : Str} {st : Stmt} {ps : List Str} {f : Addr} {oc : Value} {od an : Option Addr} {osl : Array (Option Value)} {kV doc pm cdv ct : Value} (X : K.In h) (G : h.Ns mainGlobals mg)
    (a : PySem.W.nsIn K mainGlobals x = some (some (.ref f))) (l : K.lookup f = some ⟨oc, od, .func (PySem.W.fnOf x x (defArgs st) (defBody st) (defScope st) .none kV doc pm an cdv ct), osl⟩) (c : PySem.W.codeIn K cdv x = true) (k : PySem.W.keepIn K (.ref f) = true)
    (hb : ∀ (kV doc pm : Value) (an : Option Addr) (cdv ct : Value) (us : List Value), us.length = ps.length → bindArgs (PySem.W.fnOf x x (defArgs st) (defBody st) (defScope st) .none kV doc pm an cdv ct) ⟨us, []⟩ = pure (ps.zip us)) :
    Dfn K mg x st ps f (PySem.W.fnOf x x (defArgs st) (defBody st) (defScope st) .none kV doc pm an cdv ct) := ⟨fun_mk l c k, PySem.W.mg_of X G a, (fun_mk (st := st) l c k).binds hb⟩
theorem all_mk {l : PySem.W.OpenLaw} {w : World} {K : Fr} {h : Heap} {mg : Str → Option Value} {fa : Addr} (X : K.In h) (G : h.Ns mainGlobals mg) (hfa : mg "law" = some (.ref fa))
    {a4 : Addr} {oc4 kV4 doc4 pm4 cdv4 ct4 : Value} {od4 an4 : Option Addr} {osl4 : Array (Option Value)}
    {a5 : Addr} {oc5 kV5 doc5 pm5 cdv5 ct5 : Value} {od5 an5 : Option Addr} {osl5 : Array (Option Value)}
    {a6 : Addr} {oc6 kV6 doc6 pm6 cdv6 ct6 : Value} {od6 an6 : Option Addr} {osl6 : Array (Option Value)}
    {a7 : Addr} {oc7 kV7 doc7 pm7 cdv7 ct7 : Value} {od7 an7 : Option Addr} {osl7 : Array (Option Value)}
    {a8 : Addr} {oc8 kV8 doc8 pm8 cdv8 ct8 : Value} {od8 an8 : Option Addr} {osl8 : Array (Option Value)}
    {a9 : Addr} {oc9 kV9 doc9 pm9 cdv9 ct9 : Value} {od9 an9 : Option Addr} {osl9 : Array (Option Value)}
    {a10 : Addr} {oc10 kV10 doc10 pm10 cdv10 ct10 : Value} {od10 an10 : Option Addr} {osl10 : Array (Option Value)}
    {a11 : Addr} {oc11 kV11 doc11 pm11 cdv11 ct11 : Value} {od11 an11 : Option Addr} {osl11 : Array (Option Value)}
    {a13 : Addr} {oc13 kV13 doc13 pm13 cdv13 ct13 : Value} {od13 an13 : Option Addr} {osl13 : Array (Option Value)}
    {a14 : Addr} {oc14 kV14 doc14 pm14 cdv14 ct14 : Value} {od14 an14 : Option Addr} {osl14 : Array (Option Value)}
    {a15 : Addr} {oc15 kV15 doc15 pm15 cdv15 ct15 : Value} {od15 an15 : Option Addr} {osl15 : Array (Option Value)}
    {a16 : Addr} {oc16 kV16 doc16 pm16 cdv16 ct16 : Value} {od16 an16 : Option Addr} {osl16 : Array (Option Value)}
    {a17 : Addr} {oc17 kV17 doc17 pm17 cdv17 ct17 : Value} {od17 an17 : Option Addr} {osl17 : Array (Option Value)}
    {a18 : Addr} {oc18 kV18 doc18 pm18 cdv18 ct18 : Value} {od18 an18 : Option Addr} {osl18 : Array (Option Value)}
    {a19 : Addr} {oc19 kV19 doc19 pm19 cdv19 ct19 : Value} {od19 an19 : Option Addr} {osl19 : Array (Option Value)}
    {t_TAIL : Tok} {t_HEAD : Tok} {t_LONGEST_NAME : Tok}
    (n4 : PySem.W.nsIn K mainGlobals "is_name" = some (some (.ref a4))) (l4 : K.lookup a4 = some ⟨oc4, od4, .func (PySem.W.fnOf "is_name" "is_name" (defArgs (topS 4)) (defBody (topS 4)) (defScope (topS 4)) .none kV4 doc4 pm4 an4 cdv4 ct4), osl4⟩) (c4 : PySem.W.codeIn K cdv4 "is_name" = true) (k4 : PySem.W.keepIn K (.ref a4) = true)
    (n5 : PySem.W.nsIn K mainGlobals "is_piece" = some (some (.ref a5))) (l5 : K.lookup a5 = some ⟨oc5, od5, .func (PySem.W.fnOf "is_piece" "is_piece" (defArgs (topS 5)) (defBody (topS 5)) (defScope (topS 5)) .none kV5 doc5 pm5 an5 cdv5 ct5), osl5⟩) (c5 : PySem.W.codeIn K cdv5 "is_piece" = true) (k5 : PySem.W.keepIn K (.ref a5) = true)
    (n6 : PySem.W.nsIn K mainGlobals "is_end" = some (some (.ref a6))) (l6 : K.lookup a6 = some ⟨oc6, od6, .func (PySem.W.fnOf "is_end" "is_end" (defArgs (topS 6)) (defBody (topS 6)) (defScope (topS 6)) .none kV6 doc6 pm6 an6 cdv6 ct6), osl6⟩) (c6 : PySem.W.codeIn K cdv6 "is_end" = true) (k6 : PySem.W.keepIn K (.ref a6) = true)
    (n7 : PySem.W.nsIn K mainGlobals "_is_name_with" = some (some (.ref a7))) (l7 : K.lookup a7 = some ⟨oc7, od7, .func (PySem.W.fnOf "_is_name_with" "_is_name_with" (defArgs (topS 7)) (defBody (topS 7)) (defScope (topS 7)) .none kV7 doc7 pm7 an7 cdv7 ct7), osl7⟩) (c7 : PySem.W.codeIn K cdv7 "_is_name_with" = true) (k7 : PySem.W.keepIn K (.ref a7) = true)
    (n8 : PySem.W.nsIn K mainGlobals "begins" = some (some (.ref a8))) (l8 : K.lookup a8 = some ⟨oc8, od8, .func (PySem.W.fnOf "begins" "begins" (defArgs (topS 8)) (defBody (topS 8)) (defScope (topS 8)) .none kV8 doc8 pm8 an8 cdv8 ct8), osl8⟩) (c8 : PySem.W.codeIn K cdv8 "begins" = true) (k8 : PySem.W.keepIn K (.ref a8) = true)
    (n9 : PySem.W.nsIn K mainGlobals "ends" = some (some (.ref a9))) (l9 : K.lookup a9 = some ⟨oc9, od9, .func (PySem.W.fnOf "ends" "ends" (defArgs (topS 9)) (defBody (topS 9)) (defScope (topS 9)) .none kV9 doc9 pm9 an9 cdv9 ct9), osl9⟩) (c9 : PySem.W.codeIn K cdv9 "ends" = true) (k9 : PySem.W.keepIn K (.ref a9) = true)
    (n10 : PySem.W.nsIn K mainGlobals "other_end" = some (some (.ref a10))) (l10 : K.lookup a10 = some ⟨oc10, od10, .func (PySem.W.fnOf "other_end" "other_end" (defArgs (topS 10)) (defBody (topS 10)) (defScope (topS 10)) .none kV10 doc10 pm10 an10 cdv10 ct10), osl10⟩) (c10 : PySem.W.codeIn K cdv10 "other_end" = true) (k10 : PySem.W.keepIn K (.ref a10) = true)
    (n11 : PySem.W.nsIn K mainGlobals "place_of" = some (some (.ref a11))) (l11 : K.lookup a11 = some ⟨oc11, od11, .func (PySem.W.fnOf "place_of" "place_of" (defArgs (topS 11)) (defBody (topS 11)) (defScope (topS 11)) .none kV11 doc11 pm11 an11 cdv11 ct11), osl11⟩) (c11 : PySem.W.codeIn K cdv11 "place_of" = true) (k11 : PySem.W.keepIn K (.ref a11) = true)
    (n13 : PySem.W.nsIn K mainGlobals "_law_draw" = some (some (.ref a13))) (l13 : K.lookup a13 = some ⟨oc13, od13, .func (PySem.W.fnOf "_law_draw" "_law_draw" (defArgs (topS 13)) (defBody (topS 13)) (defScope (topS 13)) .none kV13 doc13 pm13 an13 cdv13 ct13), osl13⟩) (c13 : PySem.W.codeIn K cdv13 "_law_draw" = true) (k13 : PySem.W.keepIn K (.ref a13) = true)
    (n14 : PySem.W.nsIn K mainGlobals "_law_name" = some (some (.ref a14))) (l14 : K.lookup a14 = some ⟨oc14, od14, .func (PySem.W.fnOf "_law_name" "_law_name" (defArgs (topS 14)) (defBody (topS 14)) (defScope (topS 14)) .none kV14 doc14 pm14 an14 cdv14 ct14), osl14⟩) (c14 : PySem.W.codeIn K cdv14 "_law_name" = true) (k14 : PySem.W.keepIn K (.ref a14) = true)
    (n15 : PySem.W.nsIn K mainGlobals "_law_odd" = some (some (.ref a15))) (l15 : K.lookup a15 = some ⟨oc15, od15, .func (PySem.W.fnOf "_law_odd" "_law_odd" (defArgs (topS 15)) (defBody (topS 15)) (defScope (topS 15)) .none kV15 doc15 pm15 an15 cdv15 ct15), osl15⟩) (c15 : PySem.W.codeIn K cdv15 "_law_odd" = true) (k15 : PySem.W.keepIn K (.ref a15) = true)
    (n16 : PySem.W.nsIn K mainGlobals "_law_is_name" = some (some (.ref a16))) (l16 : K.lookup a16 = some ⟨oc16, od16, .func (PySem.W.fnOf "_law_is_name" "_law_is_name" (defArgs (topS 16)) (defBody (topS 16)) (defScope (topS 16)) .none kV16 doc16 pm16 an16 cdv16 ct16), osl16⟩) (c16 : PySem.W.codeIn K cdv16 "_law_is_name" = true) (k16 : PySem.W.keepIn K (.ref a16) = true)
    (n17 : PySem.W.nsIn K mainGlobals "_law_is_pair" = some (some (.ref a17))) (l17 : K.lookup a17 = some ⟨oc17, od17, .func (PySem.W.fnOf "_law_is_pair" "_law_is_pair" (defArgs (topS 17)) (defBody (topS 17)) (defScope (topS 17)) .none kV17 doc17 pm17 an17 cdv17 ct17), osl17⟩) (c17 : PySem.W.codeIn K cdv17 "_law_is_pair" = true) (k17 : PySem.W.keepIn K (.ref a17) = true)
    (n18 : PySem.W.nsIn K mainGlobals "_law_told" = some (some (.ref a18))) (l18 : K.lookup a18 = some ⟨oc18, od18, .func (PySem.W.fnOf "_law_told" "_law_told" (defArgs (topS 18)) (defBody (topS 18)) (defScope (topS 18)) .none kV18 doc18 pm18 an18 cdv18 ct18), osl18⟩) (c18 : PySem.W.codeIn K cdv18 "_law_told" = true) (k18 : PySem.W.keepIn K (.ref a18) = true)
    (n19 : PySem.W.nsIn K mainGlobals "law" = some (some (.ref a19))) (l19 : K.lookup a19 = some ⟨oc19, od19, .func (PySem.W.fnOf "law" "law" (defArgs (topS 19)) (defBody (topS 19)) (defScope (topS 19)) .none kV19 doc19 pm19 an19 cdv19 ct19), osl19⟩) (c19 : PySem.W.codeIn K cdv19 "law" = true) (k19 : PySem.W.keepIn K (.ref a19) = true)
    (z_all : PySem.W.nsIn K mainGlobals "all" = some none)
    (z_bool : PySem.W.nsIn K mainGlobals "bool" = some none)
    (z_int : PySem.W.nsIn K mainGlobals "int" = some none)
    (z_isinstance : PySem.W.nsIn K mainGlobals "isinstance" = some none)
    (z_len : PySem.W.nsIn K mainGlobals "len" = some none)
    (z_max : PySem.W.nsIn K mainGlobals "max" = some none)
    (z_range : PySem.W.nsIn K mainGlobals "range" = some none)
    (z_str : PySem.W.nsIn K mainGlobals "str" = some none)
    (z_tuple : PySem.W.nsIn K mainGlobals "tuple" = some none)
    (z_type : PySem.W.nsIn K mainGlobals "type" = some none)
    (y_TAIL : PySem.W.nsIn K mainGlobals "TAIL" = some (some (.int 0 t_TAIL)))
    (y_HEAD : PySem.W.nsIn K mainGlobals "HEAD" = some (some (.int 1 t_HEAD)))
    (y_LONGEST_NAME : PySem.W.nsIn K mainGlobals "LONGEST_NAME" = some (some (.int 8 t_LONGEST_NAME))) :
    ∃ fd : FuncData, (∀ (s : Shared) (v : Value), BindsTo s fd ⟨[v], []⟩ [("_law_script", v)]) ∧ ∀ base : Heap, K.In base → base.Ns mainGlobals mg → FnOk l.prog w K mg base CX0 5 fa fd ["_law_script"] (spLaw K) := by
  have e := hfa.symm.trans (PySem.W.mg_of X G n19)
  cases e
  let ad : Nat → Addr := fun i => match i with
    | 4 => a4
    | 5 => a5
    | 6 => a6
    | 7 => a7
    | 8 => a8
    | 9 => a9
    | 10 => a10
    | 11 => a11
    | 13 => a13
    | 14 => a14
    | 15 => a15
    | 16 => a16
    | 17 => a17
    | 18 => a18
    | 19 => fa
    | _ => 0
  let fds : Nat → FuncData := fun i => match i with
    | 4 => PySem.W.fnOf "is_name" "is_name" (defArgs (topS 4)) (defBody (topS 4)) (defScope (topS 4)) .none kV4 doc4 pm4 an4 cdv4 ct4
    | 5 => PySem.W.fnOf "is_piece" "is_piece" (defArgs (topS 5)) (defBody (topS 5)) (defScope (topS 5)) .none kV5 doc5 pm5 an5 cdv5 ct5
    | 6 => PySem.W.fnOf "is_end" "is_end" (defArgs (topS 6)) (defBody (topS 6)) (defScope (topS 6)) .none kV6 doc6 pm6 an6 cdv6 ct6
    | 7 => PySem.W.fnOf "_is_name_with" "_is_name_with" (defArgs (topS 7)) (defBody (topS 7)) (defScope (topS 7)) .none kV7 doc7 pm7 an7 cdv7 ct7
    | 8 => PySem.W.fnOf "begins" "begins" (defArgs (topS 8)) (defBody (topS 8)) (defScope (topS 8)) .none kV8 doc8 pm8 an8 cdv8 ct8
    | 9 => PySem.W.fnOf "ends" "ends" (defArgs (topS 9)) (defBody (topS 9)) (defScope (topS 9)) .none kV9 doc9 pm9 an9 cdv9 ct9
    | 10 => PySem.W.fnOf "other_end" "other_end" (defArgs (topS 10)) (defBody (topS 10)) (defScope (topS 10)) .none kV10 doc10 pm10 an10 cdv10 ct10
    | 11 => PySem.W.fnOf "place_of" "place_of" (defArgs (topS 11)) (defBody (topS 11)) (defScope (topS 11)) .none kV11 doc11 pm11 an11 cdv11 ct11
    | 13 => PySem.W.fnOf "_law_draw" "_law_draw" (defArgs (topS 13)) (defBody (topS 13)) (defScope (topS 13)) .none kV13 doc13 pm13 an13 cdv13 ct13
    | 14 => PySem.W.fnOf "_law_name" "_law_name" (defArgs (topS 14)) (defBody (topS 14)) (defScope (topS 14)) .none kV14 doc14 pm14 an14 cdv14 ct14
    | 15 => PySem.W.fnOf "_law_odd" "_law_odd" (defArgs (topS 15)) (defBody (topS 15)) (defScope (topS 15)) .none kV15 doc15 pm15 an15 cdv15 ct15
    | 16 => PySem.W.fnOf "_law_is_name" "_law_is_name" (defArgs (topS 16)) (defBody (topS 16)) (defScope (topS 16)) .none kV16 doc16 pm16 an16 cdv16 ct16
    | 17 => PySem.W.fnOf "_law_is_pair" "_law_is_pair" (defArgs (topS 17)) (defBody (topS 17)) (defScope (topS 17)) .none kV17 doc17 pm17 an17 cdv17 ct17
    | 18 => PySem.W.fnOf "_law_told" "_law_told" (defArgs (topS 18)) (defBody (topS 18)) (defScope (topS 18)) .none kV18 doc18 pm18 an18 cdv18 ct18
    | 19 => PySem.W.fnOf "law" "law" (defArgs (topS 19)) (defBody (topS 19)) (defScope (topS 19)) .none kV19 doc19 pm19 an19 cdv19 ct19
    | _ => PySem.W.fnOf "law" "law" (defArgs (topS 19)) (defBody (topS 19)) (defScope (topS 19)) .none kV19 doc19 pm19 an19 cdv19 ct19
  have T : Txt K mg ad fds := {
    b_all := PySem.W.mg_none_of X G z_all
    b_bool := PySem.W.mg_none_of X G z_bool
    b_int := PySem.W.mg_none_of X G z_int
    b_isinstance := PySem.W.mg_none_of X G z_isinstance
    b_len := PySem.W.mg_none_of X G z_len
    b_max := PySem.W.mg_none_of X G z_max
    b_range := PySem.W.mg_none_of X G z_range
    b_str := PySem.W.mg_none_of X G z_str
    b_tuple := PySem.W.mg_none_of X G z_tuple
    b_type := PySem.W.mg_none_of X G z_type
    c_TAIL := ⟨_, PySem.W.mg_of X G y_TAIL⟩
    c_HEAD := ⟨_, PySem.W.mg_of X G y_HEAD⟩
    c_LONGEST_NAME := ⟨_, PySem.W.mg_of X G y_LONGEST_NAME⟩
    f_is_name := dfn_mk X G n4 l4 c4 k4 (fun _ _ _ _ _ _ us hl => match us, hl with | [_], _ => rfl)
    f_is_piece := dfn_mk X G n5 l5 c5 k5 (fun _ _ _ _ _ _ us hl => match us, hl with | [_], _ => rfl)
    f_is_end := dfn_mk X G n6 l6 c6 k6 (fun _ _ _ _ _ _ us hl => match us, hl with | [_], _ => rfl)
    f__is_name_with := dfn_mk X G n7 l7 c7 k7 (fun _ _ _ _ _ _ us hl => match us, hl with | [_, _], _ => rfl)
    f_begins := dfn_mk X G n8 l8 c8 k8 (fun _ _ _ _ _ _ us hl => match us, hl with | [_], _ => rfl)
    f_ends := dfn_mk X G n9 l9 c9 k9 (fun _ _ _ _ _ _ us hl => match us, hl with | [_], _ => rfl)
    f_other_end := dfn_mk X G n10 l10 c10 k10 (fun _ _ _ _ _ _ us hl => match us, hl with | [_], _ => rfl)
    f_place_of := dfn_mk X G n11 l11 c11 k11 (fun _ _ _ _ _ _ us hl => match us, hl with | [_, _], _ => rfl)
    f__law_draw := dfn_mk X G n13 l13 c13 k13 (fun _ _ _ _ _ _ us hl => match us, hl with | [_, _, _], _ => rfl)
    f__law_name := dfn_mk X G n14 l14 c14 k14 (fun _ _ _ _ _ _ us hl => match us, hl with | [_, _], _ => rfl)
    f__law_odd := dfn_mk X G n15 l15 c15 k15 (fun _ _ _ _ _ _ us hl => match us, hl with | [_, _, _], _ => rfl)
    f__law_is_name := dfn_mk X G n16 l16 c16 k16 (fun _ _ _ _ _ _ us hl => match us, hl with | [_], _ => rfl)
    f__law_is_pair := dfn_mk X G n17 l17 c17 k17 (fun _ _ _ _ _ _ us hl => match us, hl with | [_, _], _ => rfl)
    f__law_told := dfn_mk X G n18 l18 c18 k18 (fun _ _ _ _ _ _ us hl => match us, hl with | [_], _ => rfl)
    f_law := dfn_mk X G n19 l19 c19 k19 (fun _ _ _ _ _ _ us hl => match us, hl with | [_], _ => rfl)
  }
  exact ⟨_, fun s v => .of_eq rfl, fun base _ _ => ok_law (P := l.prog) (w := w) (base := base) T law_true⟩
end K01
open PySem PySem.W PyProof.Rows
set_option maxRecDepth 100000 in
set_option maxHeartbeats 0 in
theorem PySem.Challenge.cw_cutjoin_k01_pieces_and_ends_holds : PySem.Challenge.rw_cutjoin_k01_pieces_and_ends.Holds := by
  w_on; o_law; k_head; (case hw => w_witness2)
  k_fill
  refine L2.walk_of (l := PySem.Challenge.rw_cutjoin_k01_pieces_and_ends) (n := 63) (k := 5) (x := "_law_script") (CX := fun _ => L2.CX0) (sp := fun w => Dn.spLaw _) rfl (by decide) rfl ⟨rfl, by decide, by decide⟩ (fun w h Y => PySem.W.kIn_of Y) ?F (fun _ _ a ns hl _ hS => ⟨a, ns, rfl, hS, hl, fun _ => rfl⟩) (fun _ _ _ _ _ h => h)
  case F =>
    intro w mg fa h KX G hmg
    refine' K01.all_mk KX G hmg ?n4 ?l4 ?c4 ?k4 ?n5 ?l5 ?c5 ?k5 ?n6 ?l6 ?c6 ?k6 ?n7 ?l7 ?c7 ?k7 ?n8 ?l8 ?c8 ?k8 ?n9 ?l9 ?c9 ?k9 ?n10 ?l10 ?c10 ?k10 ?n11 ?l11 ?c11 ?k11 ?n13 ?l13 ?c13 ?k13 ?n14 ?l14 ?c14 ?k14 ?n15 ?l15 ?c15 ?k15 ?n16 ?l16 ?c16 ?k16 ?n17 ?l17 ?c17 ?k17 ?n18 ?l18 ?c18 ?k18 ?n19 ?l19 ?c19 ?k19 ?z_all ?z_bool ?z_int ?z_isinstance ?z_len ?z_max ?z_range ?z_str ?z_tuple ?z_type ?y_TAIL ?y_HEAD ?y_LONGEST_NAME
    (case n4 => k_is)
    (case l4 => k_is)
    (case c4 => k_is)
    (case k4 => k_is)
    (case n5 => k_is)
    (case l5 => k_is)
    (case c5 => k_is)
    (case k5 => k_is)
    (case n6 => k_is)
    (case l6 => k_is)
    (case c6 => k_is)
    (case k6 => k_is)
    (case n7 => k_is)
    (case l7 => k_is)
    (case c7 => k_is)
    (case k7 => k_is)
    (case n8 => k_is)
    (case l8 => k_is)
    (case c8 => k_is)
    (case k8 => k_is)
    (case n9 => k_is)
    (case l9 => k_is)
    (case c9 => k_is)
    (case k9 => k_is)
    (case n10 => k_is)
    (case l10 => k_is)
    (case c10 => k_is)
    (case k10 => k_is)
    (case n11 => k_is)
    (case l11 => k_is)
    (case c11 => k_is)
    (case k11 => k_is)
    (case n13 => k_is)
    (case l13 => k_is)
    (case c13 => k_is)
    (case k13 => k_is)
    (case n14 => k_is)
    (case l14 => k_is)
    (case c14 => k_is)
    (case k14 => k_is)
    (case n15 => k_is)
    (case l15 => k_is)
    (case c15 => k_is)
    (case k15 => k_is)
    (case n16 => k_is)
    (case l16 => k_is)
    (case c16 => k_is)
    (case k16 => k_is)
    (case n17 => k_is)
    (case l17 => k_is)
    (case c17 => k_is)
    (case k17 => k_is)
    (case n18 => k_is)
    (case l18 => k_is)
    (case c18 => k_is)
    (case k18 => k_is)
    (case n19 => k_is)
    (case l19 => k_is)
    (case c19 => k_is)
    (case k19 => k_is)
    (case z_all => k_is)
    (case z_bool => k_is)
    (case z_int => k_is)
    (case z_isinstance => k_is)
    (case z_len => k_is)
    (case z_max => k_is)
    (case z_range => k_is)
    (case z_str => k_is)
    (case z_tuple => k_is)
    (case z_type => k_is)
    (case y_TAIL => k_is)
    (case y_HEAD => k_is)
    (case y_LONGEST_NAME => k_is)

