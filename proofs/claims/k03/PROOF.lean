import PyProof.Rows.All
import Wide.All
import OpenK.AllK
import Wide.FinOn
import HandS.ForMost
import HandS.Evl
import HandS.SetKeys
import HandS.IsInst
import HandS.Zip
import HandS.TupAny
import HandS.Style
import HandS.TupLe
import HandS.NoneIn
import PyProof.TypeEq
import PyProof.InstEq
import HandS.Deep
import PyProof.StrOps2
import HandS.TupLen
import PyProof.Rows.InDataRows
import KE.SortData
import KE.DataMinMax
import PyProof.ReprRoads
import PyProof.ReprLen
import HandS.Star
import HandS.More
import PyProof.SetRoads
import HandS.FStr
import HandS.Exc
import HandS.ExcIs
import HandS.Small
import HandS.ExcOwn
import PyProof.Rows.CountFlat
import KE.GoesEnum
import PyProof.Rows.StrInSeq3
import PySem.Challenge.RW_cutjoin_k03_yards_refused
set_option Elab.async false
set_option linter.all false
set_option maxRecDepth 100000
set_option maxHeartbeats 1000000
namespace Dn
open PySem PySem.Spec PyProof.Rows L2 Evl

abbrev Dt := PyData
/-- what all readings hang on: the written part, the program, the world -/
structure Fr where
  K : PySem.W.Frag
  P : Program
  w : World
  mg : Str → Option Value
abbrev _root_.L2.Cx.fr (X : L2.Cx) : Fr := ⟨X.K, X.prog, X.w, X.mg⟩
def keyD : Key → Dt
  | .inl i => .int i
  | .inr x => .str x
def tkD (k : List Key) : Dt := .tuple (k.map keyD)
/-- a dict with tuples as keys -/
def dictD (kvs : List (Dt × Dt)) : Dt := .dict ((.none, .bool true) :: kvs)
def dictT (kvs : List (List Key × Dt)) : Dt := dictD (kvs.map fun p => (tkD p.1, p.2))
def ctrD : Dt := .dict [(.none, .none)]
/-- a caught error of the class that the module knows by a name -/
def excD (c : Str) : Dt := .dict [(.none, .str c)]
def excHO (a C : Addr) : HO := .ext fun h => ∃ (o : Obj) (vs : Array Value), h.get? a = some o ∧ o.cls = .ref C ∧ o.dict = none ∧ o.data = .fields vs
/-- such a tuple may be a key of a dict or a member of a set -/
def keyish : List Dt → Bool
  | [.str _, .int _] => true
  | _ => false
structure SqK (K : Fr) (F : Hp) (a : Addr) (xs : List V) (ds : List Dt) : Prop where
  sq : SqT K.K F a xs
  key : keyish ds = true → F a = some (.tup xs)
theorem SqK.new {K : Fr} {F : Hp} {a : Addr} {xs : List V} {ds : List Dt} (h : F a = some (.tup xs)) : SqK K F a xs ds := ⟨.inl (.inl h), fun _ => h⟩
theorem SqK.mono {K : Fr} {F F' : Hp} {a : Addr} {xs : List V} {ds : List Dt} (h : SqK K F a xs ds) (e : Ex F F') : SqK K F' a xs ds := ⟨ex_t e h.sq, fun z => e _ _ (h.key z)⟩

mutual
inductive Rp (K : Fr) (m : Option Addr) (F : Hp) : V → Dt → Prop
  | non : Rp K m F .non .none
  | bl (b : Bool) : Rp K m F (.bl b) (.bool b)
  | int (i : Int) : Rp K m F (.int i) (.int i)
  | str (x : Str) : Rp K m F (.str x) (.str x)
  | lst {a : Addr} {xs : List V} {ds : List Dt} : SqL K.K F a xs → RpA K m F xs ds → Rp K m F (.ref a) (.list ds)
  | tup {a : Addr} {xs : List V} {ds : List Dt} : SqK K F a xs ds → RpA K m F xs ds → Rp K m F (.ref a) (.tuple ds)
  | dK {a : Addr} {kvs : List (Key × V)} {ds : List Dt} : F a = some (.dK kvs) → RpA K m F (kvs.map (·.2)) ds → Rp K m F (.ref a) (.dict ((kvs.map fun p => keyD p.1).zip ds))
  | dT {a : Addr} {o : Obj} {kvs : List (List Key × V)} {ds : List Dt} : F a = some (.frz o (.dT kvs)) → RpA K m F (kvs.map (·.2)) ds → Rp K m F (.ref a) (dictD ((kvs.map fun p => tkD p.1).zip ds))
  | ctr {a : Addr} : m = some a → Rp K m F (.ref a) ctrD
  | exc {a C : Addr} {c : Str} : K.mg c = some (.ref C) → F a = some (excHO a C) → Rp K m F (.ref a) (excD c)
inductive RpA (K : Fr) (m : Option Addr) (F : Hp) : List V → List Dt → Prop
  | nil : RpA K m F [] []
  | cons {v : V} {vs : List V} {d : Dt} {ds : List Dt} : Rp K m F v d → RpA K m F vs ds → RpA K m F (v :: vs) (d :: ds)
end

section
variable {K : Fr} {m : Option Addr} {F F' : Hp}
mutual
theorem Rp.mono (e : Ex F F') : ∀ {v : V} {d : Dt}, Rp K m F v d → Rp K m F' v d
  | _, _, .non => .non
  | _, _, .bl b => .bl b
  | _, _, .int i => .int i
  | _, _, .str x => .str x
  | _, _, .lst h r => .lst (ex_l e h) (RpA.mono e r)
  | _, _, .tup h r => .tup (h.mono e) (RpA.mono e r)
  | _, _, .dK h r => .dK (e _ _ h) (RpA.mono e r)
  | _, _, .dT h r => .dT (e _ _ h) (RpA.mono e r)
  | _, _, .ctr h => .ctr h
  | _, _, .exc g h => .exc g (e _ _ h)
theorem RpA.mono (e : Ex F F') : ∀ {vs : List V} {ds : List Dt}, RpA K m F vs ds → RpA K m F' vs ds
  | _, _, .nil => .nil
  | _, _, .cons h r => .cons (Rp.mono e h) (RpA.mono e r)
end
theorem RpA.length : ∀ {vs : List V} {ds : List Dt}, RpA K m F vs ds → vs.length = ds.length
  | _, _, .nil => rfl
  | _, _, .cons _ r => congrArg (· + 1) (RpA.length r)
theorem RpA.append : ∀ {vs us : List V} {ds es : List Dt}, RpA K m F vs ds → RpA K m F us es → RpA K m F (vs ++ us) (ds ++ es)
  | _, _, _, _, .nil, s => s
  | _, _, _, _, .cons h r, s => .cons h (RpA.append r s)
theorem RpA.get : ∀ {vs : List V} {ds : List Dt} {i : Nat} {d : Dt}, RpA K m F vs ds → ds[i]? = some d → ∃ v, vs[i]? = some v ∧ Rp K m F v d
  | _, _, _, _, .nil, e => by simp at e
  | _, _, 0, _, .cons h _, e => by
    simp at e
    subst e
    exact ⟨_, rfl, h⟩
  | _, _, i + 1, d, .cons _ r, e => by
    obtain ⟨v, h1, h2⟩ := RpA.get (i := i) (d := d) r (by simpa using e)
    exact ⟨v, by simpa using h1, h2⟩
theorem RpA.take : ∀ {vs : List V} {ds : List Dt} (n : Nat), RpA K m F vs ds → RpA K m F (vs.take n) (ds.take n)
  | _, _, 0, _ => .nil
  | _, _, _ + 1, .nil => .nil
  | _, _, n + 1, .cons h r => .cons h (RpA.take n r)
theorem RpA.drop : ∀ {vs : List V} {ds : List Dt} (n : Nat), RpA K m F vs ds → RpA K m F (vs.drop n) (ds.drop n)
  | _, _, 0, r => r
  | _, _, _ + 1, .nil => .nil
  | _, _, n + 1, .cons _ r => RpA.drop n r
theorem RpA.reverse {vs : List V} {ds : List Dt} (h : RpA K m F vs ds) : RpA K m F vs.reverse ds.reverse := by
  induction vs generalizing ds with
  | nil => cases h; exact .nil
  | cons v vs ih =>
    cases h with
    | cons h r =>
      rw [List.reverse_cons, List.reverse_cons]
      exact (ih r).append (.cons h .nil)
theorem RpA.set {v : V} {d : Dt} (h : Rp K m F v d) : ∀ {vs : List V} {ds : List Dt} (i : Nat), RpA K m F vs ds → RpA K m F (vs.set i v) (ds.set i d)
  | _, _, _, .nil => .nil
  | _, _, 0, .cons _ r => .cons h r
  | _, _, i + 1, .cons q r => .cons q (RpA.set h i r)
theorem RpA.bls : ∀ {bs : List Bool}, RpA K m F (bs.map V.bl) (bs.map PyData.bool)
  | [] => .nil
  | b :: bs => .cons (.bl b) RpA.bls
theorem RpA.one {v : V} {d : Dt} (h : Rp K m F v d) : RpA K m F [v] [d] := .cons h .nil
end

/-- frozen data F, all that is tracked H, from one point to a later one; m is the one list that draws change -/
structure Grow (m : Option Addr) (F H F' H' : Hp) : Prop where
  ff : Ex F F'
  fh : Ex F' H'
  nw : ∀ a, F' a ≠ none → F a ≠ none ∨ H a = none ∨ ∃ xs, H a = some (.tup xs)
  hh : ∀ a o, m ≠ some a → H a = some o → H' a = some o
def _root_.L2.HO.isTup : HO → Bool
  | .tup _ => true
  | _ => false
theorem isTup_eq {o : HO} (h : o.isTup = true) : ∃ xs, o = .tup xs := by
  cases o <;> first | exact ⟨_, rfl⟩ | cases h
def Ctr (m : Option Addr) (F H : Hp) (k : Int) : Prop := ∀ a, m = some a → H a = some (.lst [.int k]) ∧ F a = none

section
variable {K : Fr} {m : Option Addr} {F H F1 H1 F2 H2 F3 H3 : Hp} {k k1 k2 : Int}
theorem Grow.refl (e : Ex F H) : Grow m F H F H := ⟨Ex.refl F, e, fun _ h => .inl h, fun _ _ _ h => h⟩
/-- the heap of a later point knows what an earlier one knew -/
theorem Grow.known (g : Grow m F H F1 H1) (c : Ctr m F1 H1 k) {a : Addr} (h : H a ≠ none) : H1 a ≠ none := by
  by_cases e : m = some a
  · rw [(c a e).1]
    intro z
    cases z
  · cases q : H a with
    | none => exact absurd q h
    | some o =>
      rw [g.hh a o e q]
      intro z
      cases z
theorem Grow.back (g : Grow m F H F1 H1) (c : Ctr m F1 H1 k) {a : Addr} (h : H1 a = none) : H a = none := by
  cases q : H a with
  | none => rfl
  | some o =>
    exact absurd h (g.known c (by
      rw [q]
      intro z
      cases z))
theorem Grow.trans (g : Grow m F H F1 H1) (c : Ctr m F1 H1 k) (g2 : Grow m F1 H1 F2 H2) : Grow m F H F2 H2 where
  ff := g.ff.trans g2.ff
  fh := g2.fh
  nw := fun a h => by
    rcases g2.nw a h with h1 | h1 | ⟨xs, h1⟩
    · exact g.nw a h1
    · exact .inr (.inl (g.back c h1))
    · cases q : H a with
      | none => exact .inr (.inl rfl)
      | some o =>
        by_cases e : m = some a
        · rw [(c a e).1] at h1
          cases h1
        · rw [g.hh a o e q] at h1
          cases h1
          exact .inr (.inr ⟨xs, rfl⟩)
  hh := fun a o e h => g2.hh a o e (g.hh a o e h)
theorem Grow.f_none (g : Grow m F H F1 H1) {p : Addr} {o : HO} (hf : F p = none) (hh : H p = some o) (ht : o.isTup = false := by rfl) : F1 p = none := by
  cases q : F1 p with
  | none => rfl
  | some u =>
    rcases g.nw p (by
      rw [q]
      intro z
      cases z) with z | z | ⟨xs, z⟩
    · exact absurd hf z
    · rw [hh] at z
      cases z
    · rw [hh] at z
      cases z
      cases ht
/-- a new object, held by one alone (not frozen) -/
theorem Grow.laid {p : Addr} {o : HO} (e : Ex F H) (hp : H p = none) : Grow m F H F (upd H p o) :=
  ⟨Ex.refl F, e.trans (Ex.new hp), fun _ h => .inl h, fun _ _ _ h => Ex.new hp _ _ h⟩
theorem ex_none (e : Ex F H) {p : Addr} (h : H p = none) : F p = none := fresh_back e h
theorem Ctr.ne (c : Ctr m F H k) {p : Addr} (h : H p = none) : m ≠ some p := fun e => by
  rw [(c p e).1] at h
  cases h
theorem Ctr.laid {p : Addr} {o : HO} (c : Ctr m F H k) (hp : H p = none) : Ctr m F (upd H p o) k := fun a e => by
  have ne : a ≠ p := fun z => c.ne hp (z ▸ e)
  rw [upd_ne ne]
  exact c a e
/-- freezing: a thing held by one alone becomes shared -/
theorem Grow.freeze {p : Addr} {o : HO} (g : Grow m F H F1 H1) (hp : H p = none) (h1 : H1 p = some o) : Grow m F H (upd F1 p o) H1 where
  ff := fun a u h => by
    by_cases e : a = p
    · subst e
      cases q : F1 a with
      | none =>
        rw [g.ff a u h] at q
        cases q
      | some z =>
        have := g.fh a z q
        rw [h1] at this
        cases this
        rw [upd_same, ← q, g.ff a u h]
    · rw [upd_ne e]
      exact g.ff a u h
  fh := fun a u h => by
    by_cases e : a = p
    · subst e
      rw [upd_same] at h
      cases h
      exact h1
    · rw [upd_ne e] at h
      exact g.fh a u h
  nw := fun a h => by
    by_cases e : a = p
    · subst e
      exact .inr (.inl hp)
    · rw [upd_ne e] at h
      exact g.nw a h
  hh := g.hh
theorem ex_freeze {p : Addr} {o : HO} (hf : F p = none) : Ex F (upd F p o) := Ex.new hf
theorem Ctr.freeze {p : Addr} {o : HO} (c : Ctr m F H k) (hm : m ≠ some p) : Ctr m (upd F p o) H k := fun a e => by
  have ne : a ≠ p := fun z => hm (z ▸ e)
  rw [upd_ne ne]
  exact c a e
end

/-! ### what stands in the slots -/
inductive Cell where
  | un
  | sh (d : Dt)
  | ow (ds : List Dt)
  | od (kvs : List (List Key × Dt))
  | os (ks : List Dt)
abbrev Ev := List Cell
def Cell.isOw : Cell → Bool
  | .ow _ => true
  | .od _ => true
  | .os _ => true
  | _ => false
/-- the object of a cell that is held by that slot alone -/
def OwRep (K : Fr) (m : Option Addr) (F : Hp) (p : Addr) : Cell → HO → Prop
  | .ow ds, o => ∃ vs, o = .lst vs ∧ RpA K m F vs ds
  | .od kvs, o => ∃ ws : List V, o = .dT ((kvs.map (·.1)).zip ws) ∧ RpA K m F ws (kvs.map (·.2))
  | .os ks, o => ∃ (S : Key → Bool) (kk : List Key), ks = kk.map keyD ∧ kk.Nodup ∧ o = L2.SetK K.P K.w p S kk.length ∧ ∀ j, S j = true ↔ j ∈ kk
  | _, _ => False
theorem OwRep.nt {K : Fr} {m : Option Addr} {F : Hp} {p : Addr} {c : Cell} {o : HO} (h : OwRep K m F p c o) : o.isTup = false := by
  cases c with
  | ow ds =>
    obtain ⟨vs, rfl, _⟩ := h
    rfl
  | od kvs =>
    obtain ⟨ws, rfl, _⟩ := h
    rfl
  | os ks =>
    obtain ⟨S, kk, _, _, rfl, _⟩ := h
    rfl
  | _ => cases h
theorem OwRep.mono {K : Fr} {m : Option Addr} {F F' : Hp} {p : Addr} (e : Ex F F') {c : Cell} {o : HO} (h : OwRep K m F p c o) : OwRep K m F' p c o := by
  cases c with
  | ow ds =>
    obtain ⟨vs, e1, r⟩ := h
    exact ⟨vs, e1, r.mono e⟩
  | od kvs =>
    obtain ⟨ws, h1, r⟩ := h
    exact ⟨ws, h1, r.mono e⟩
  | _ => exact h

/-- slot i is held alone, its object at p -/
def Own (ρ : Ev) (σ : L2.St) (i : Nat) (p : Addr) : Prop := ∃ c, ρ[i]? = some c ∧ c.isOw = true ∧ σ[i]? = some (some (V.ref p))

structure Rl (K : Fr) (m : Option Addr) (F : Hp) (ρ : Ev) (k : Int) (σ : L2.St) (H : Hp) : Prop where
  sub : Ex F H
  ctr : Ctr m F H k
  len : ρ.length = σ.length
  sh : ∀ (i : Nat) (d : Dt), ρ[i]? = some (Cell.sh d) → ∃ v : V, σ[i]? = some (some v) ∧ Rp K m F v d
  ow : ∀ (i : Nat) (c : Cell), ρ[i]? = some c → c.isOw = true → ∃ (p : Addr) (o : HO), σ[i]? = some (some (V.ref p)) ∧ F p = none ∧ m ≠ some p ∧ H p = some o ∧ OwRep K m F p c o
  sep : ∀ (i j : Nat) (p : Addr), Own ρ σ i p → Own ρ σ j p → i = j

theorem Rl.grow {K : Fr} {m : Option Addr} {F H F' H' : Hp} {ρ : Ev} {k k' : Int} {σ : L2.St} (R : Rl K m F ρ k σ H) (g : Grow m F H F' H') (c : Ctr m F' H' k') : Rl K m F' ρ k' σ H' where
  sub := g.fh
  ctr := c
  len := R.len
  sh := fun i d h => by
    obtain ⟨v, e, r⟩ := R.sh i d h
    exact ⟨v, e, r.mono g.ff⟩
  ow := fun i c h hc => by
    obtain ⟨p, o, e, f, n, h, r⟩ := R.ow i c h hc
    exact ⟨p, o, e, g.f_none f h r.nt, n, g.hh p o n h, r.mono g.ff⟩
  sep := R.sep

/-- an operand: shared data, or a list held alone that is only looked at -/
def Ro (K : Fr) (m : Option Addr) (F H : Hp) (v : V) (d : Dt) : Prop := Rp K m F v d ∨ ∃ p vs ds, v = .ref p ∧ m ≠ some p ∧ F p = none ∧ H p = some (.lst vs) ∧ RpA K m F vs ds ∧ d = .list ds
inductive RoA (K : Fr) (m : Option Addr) (F H : Hp) : List V → List Dt → Prop
  | nil : RoA K m F H [] []
  | cons {v : V} {vs : List V} {d : Dt} {ds : List Dt} : Ro K m F H v d → RoA K m F H vs ds → RoA K m F H (v :: vs) (d :: ds)
section
variable {K : Fr} {m : Option Addr} {F H F' H' : Hp} {k : Int}
theorem Ro.grow {v : V} {d : Dt} (r : Ro K m F H v d) (g : Grow m F H F' H') : Ro K m F' H' v d := by
  rcases r with r | ⟨p, vs, ds, e, n, f, h, r, ed⟩
  · exact .inl (r.mono g.ff)
  · exact .inr ⟨p, vs, ds, e, n, g.f_none f h, g.hh p _ n h, r.mono g.ff, ed⟩
theorem RoA.grow {vs : List V} {ds : List Dt} (r : RoA K m F H vs ds) (g : Grow m F H F' H') : RoA K m F' H' vs ds := by
  induction r with
  | nil => exact .nil
  | cons h _ ih => exact .cons (h.grow g) ih
/-- what an operand is in the whole heap -/
theorem Ro.whole {v : V} {d : Dt} (r : Ro K m F H v d) (e : Ex F H) : Rp K m H v d := by
  rcases r with r | ⟨p, vs, ds, e1, n, f, h, r, ed⟩
  · exact r.mono e
  · subst e1
    subst ed
    exact .lst (.inl (.inl h)) (r.mono e)
theorem RoA.whole {vs : List V} {ds : List Dt} (r : RoA K m F H vs ds) (e : Ex F H) : RpA K m H vs ds := by
  induction r with
  | nil => exact .nil
  | cons h _ ih => exact .cons (h.whole e) ih
theorem RpA.ops {vs : List V} {ds : List Dt} (r : RpA K m F vs ds) : RoA K m F H vs ds := by
  induction vs generalizing ds with
  | nil => cases r; exact .nil
  | cons v vs ih =>
    cases r with
    | cons h r => exact .cons (.inl h) (ih r)
theorem Ro.int {v : V} {i : Int} (r : Ro K m F H v (.int i)) : v = .int i := by
  rcases r with r | ⟨p, vs, ds, e, n, f, h, r, ed⟩
  · cases r; rfl
  · cases ed
theorem Ro.bl {v : V} {i : Bool} (r : Ro K m F H v (.bool i)) : v = .bl i := by
  rcases r with r | ⟨p, vs, ds, e, n, f, h, r, ed⟩
  · cases r; rfl
  · cases ed
theorem Ro.str {v : V} {i : Str} (r : Ro K m F H v (.str i)) : v = .str i := by
  rcases r with r | ⟨p, vs, ds, e, n, f, h, r, ed⟩
  · cases r; rfl
  · cases ed
theorem Ro.non {v : V} (r : Ro K m F H v .none) : v = .non := by
  rcases r with r | ⟨p, vs, ds, e, n, f, h, r, ed⟩
  · cases r; rfl
  · cases ed
/-- a list: its items are shared data -/
theorem Ro.lst {v : V} {ds : List Dt} (r : Ro K m F H v (.list ds)) (e : Ex F H) : ∃ a xs, v = .ref a ∧ SqL K.K H a xs ∧ RpA K m F xs ds := by
  rcases r with r | ⟨p, vs, ds', e1, n, f, h, r, ed⟩
  · cases r with
    | lst h r => exact ⟨_, _, rfl, ex_l e h, r⟩
  · cases ed
    exact ⟨p, vs, e1, .inl (.inl h), r⟩
theorem Ro.tup {v : V} {ds : List Dt} (r : Ro K m F H v (.tuple ds)) : ∃ a xs, v = .ref a ∧ SqK K F a xs ds ∧ RpA K m F xs ds := by
  rcases r with r | ⟨p, vs, ds', e1, n, f, h, r, ed⟩
  · cases r with
    | tup h r => exact ⟨_, _, rfl, h, r⟩
  · cases ed
theorem Ro.ctr {v : V} (r : Ro K m F H v ctrD) : ∃ a, v = .ref a ∧ m = some a := by
  rcases r with r | ⟨p, vs, ds', e1, n, f, h, r, ed⟩
  · generalize hd : ctrD = d at r
    cases r with
    | ctr h => exact ⟨_, rfl, h⟩
    | dK h r =>
      rename_i a kvs ds
      cases kvs with
      | nil => cases hd
      | cons p ps =>
        cases r with
        | cons h r =>
          unfold ctrD at hd
          simp only [List.map_cons, List.zip_cons_cons, PyData.dict.injEq, List.cons.injEq, Prod.mk.injEq] at hd
          obtain ⟨⟨z, _⟩, _⟩ := hd
          rcases p with ⟨k | k, w⟩ <;> cases z
    | _ => cases hd
  · cases ed
end

/-! ### readings by what is computed -/
abbrev E1 (α : Type) := Ev → Int → Option (α × Int)
abbrev DE := E1 Dt
abbrev DL := E1 (List Dt)
abbrev DT := E1 Bool
section
variable (K : Fr) (m : Option Addr)
/-- an expression whose value is shared data -/
def tE (f : DE) : TE := fun σ H Q => ∃ F ρ k d k', Rl K m F ρ k σ H ∧ f ρ k = some (d, k') ∧ ∀ v F' H', Grow m F H F' H' → Ctr m F' H' k' → Rp K m F' v d → Q v H'
/-- an operand -/
def tO (f : DE) : TE := fun σ H Q => ∃ F ρ k d k', Rl K m F ρ k σ H ∧ f ρ k = some (d, k') ∧ ∀ v F' H', Grow m F H F' H' → Ctr m F' H' k' → Ro K m F' H' v d → Q v H'
/-- a new list that nobody else holds -/
def tL (f : DL) : TE := fun σ H Q => ∃ F ρ k ds k', Rl K m F ρ k σ H ∧ f ρ k = some (ds, k') ∧ ∀ p vs F' H', Grow m F H F' H' → Ctr m F' H' k' → H p = none → F' p = none → H' p = some (.lst vs) → RpA K m F' vs ds → Q (.ref p) H'
def tT (f : DT) : TT := fun σ H Q => ∃ F ρ k b k', Rl K m F ρ k σ H ∧ f ρ k = some (b, k') ∧ ∀ F' H', Grow m F H F' H' → Ctr m F' H' k' → Q b H'
/-- arguments: shared data; operands -/
def tAr (f : DL) : TA := fun σ H Q => ∃ F ρ k ds k', Rl K m F ρ k σ H ∧ f ρ k = some (ds, k') ∧ ∀ vs F' H', Grow m F H F' H' → Ctr m F' H' k' → RpA K m F' vs ds → Q vs H'
def tAo (f : DL) : TA := fun σ H Q => ∃ F ρ k ds k', Rl K m F ρ k σ H ∧ f ρ k = some (ds, k') ∧ ∀ vs F' H', Grow m F H F' H' → Ctr m F' H' k' → RoA K m F' H' vs ds → Q vs H'
end

section
variable {X : Cx} {m : Option Addr}
theorem impPE {e : Expr} {t t' : TE} (h : PE X e t) (i : ∀ σ H Q, t' σ H Q → t σ H Q) : PE X e t' := ⟨fun pins s σ H Q I w => h.run pins s σ H Q I (i σ H Q w)⟩
theorem impPT {e : Expr} {t t' : TT} (h : PT X e t) (i : ∀ σ H Q, t' σ H Q → t σ H Q) : PT X e t' := ⟨fun pins s σ H Q I w => h.run pins s σ H Q I (i σ H Q w)⟩
theorem impPW {e : Expr} {t t' : TT} (h : PW X e t) (i : ∀ σ H Q, t' σ H Q → t σ H Q) : PW X e t' := ⟨fun wh pins s σ H Q I w => h.run wh pins s σ H Q I (i σ H Q w)⟩
theorem impPA {es : List Expr} {t t' : TA} (h : PA X es t) (i : ∀ σ H Q, t' σ H Q → t σ H Q) : PA X es t' := ⟨fun p pins s σ H Q I w => h.run p pins s σ H Q I (i σ H Q w)⟩
theorem impPS {st : Stmt} {t t' : TS} (h : PS X st t) (i : ∀ D σ H, t' D σ H → t D σ H) : PS X st t' := ⟨fun pins s σ H D I w => h.run pins s σ H D I (i D σ H w)⟩
theorem impPSs {st : List Stmt} {t t' : TS} (h : PSs X st t) (i : ∀ D σ H, t' D σ H → t D σ H) : PSs X st t' := ⟨fun pins s σ H D I w => h.run pins s σ H D I (i D σ H w)⟩

/-! the kinds, one from the other -/
theorem o_e {e : Expr} {f : DE} (h : PE X e (tE X.fr m f)) : PE X e (tO X.fr m f) := impPE h fun σ H Q ⟨F, ρ, k, d, k', R, hf, q⟩ =>
  ⟨F, ρ, k, d, k', R, hf, fun v F' H' g c r => q v F' H' g c (.inl r)⟩
@[simp] def lD (f : DL) : DE := fun ρ k => (f ρ k).map fun p => (.list p.1, p.2)
theorem o_l {e : Expr} {f : DL} (h : PE X e (tL X.fr m f)) : PE X e (tO X.fr m (lD f)) := impPE h fun σ H Q ⟨F, ρ, k, d, k', R, hf, q⟩ => by
  unfold lD at hf
  cases e : f ρ k with
  | none =>
    rw [e] at hf
    cases hf
  | some p =>
    obtain ⟨ds, k1⟩ := p
    rw [e] at hf
    cases hf
    exact ⟨F, ρ, k, ds, k1, R, e, fun p vs F' H' g c hp fp h1 r => q _ F' H' g c (.inr ⟨p, vs, ds, rfl, R.ctr.ne hp, fp, h1, r, rfl⟩)⟩
theorem e_l {e : Expr} {f : DL} (h : PE X e (tL X.fr m f)) : PE X e (tE X.fr m (lD f)) := impPE h fun σ H Q ⟨F, ρ, k, d, k', R, hf, q⟩ => by
  unfold lD at hf
  cases e : f ρ k with
  | none =>
    rw [e] at hf
    cases hf
  | some p =>
    obtain ⟨ds, k1⟩ := p
    rw [e] at hf
    cases hf
    exact ⟨F, ρ, k, ds, k1, R, e, fun p vs F' H' g c hp fp h1 r => q _ (upd F' p (.lst vs)) H' (g.freeze hp h1) (c.freeze (R.ctr.ne hp)) (.lst (.inl (.inl upd_same)) (r.mono (ex_freeze fp)))⟩
end
/-! ### dicts whose keys are pairs of a text and an int -/
def tkEqs : List Dt → List Dt → Bool
  | [], [] => true
  | .int a :: xs, .int b :: ys => decide (a = b) && tkEqs xs ys
  | .str a :: xs, .str b :: ys => decide (a = b) && tkEqs xs ys
  | _, _ => false
def tkEq : Dt → Dt → Bool
  | .tuple xs, .tuple ys => tkEqs xs ys
  | _, _ => false
def asTK : Dt → Option (List Key)
  | .tuple [.str n, .int i] => some [.inr n, .inl i]
  | _ => none
theorem asTK_eq {d : Dt} {k : List Key} (h : asTK d = some k) : ∃ n i, d = .tuple [.str n, .int i] ∧ k = [.inr n, .inl i] := by
  unfold asTK at h
  split at h
  · cases h
    exact ⟨_, _, rfl, rfl⟩
  · cases h
theorem asTK_tk {d : Dt} {k : List Key} (h : asTK d = some k) : d = tkD k := by
  obtain ⟨n, i, rfl, rfl⟩ := asTK_eq h
  rfl
theorem tkEqs_iff : ∀ (j k : List Key), tkEqs (j.map keyD) (k.map keyD) = true ↔ j = k
  | [], [] => by simp [tkEqs]
  | [], .inl _ :: _ => by simp [tkEqs, keyD]
  | [], .inr _ :: _ => by simp [tkEqs, keyD]
  | .inl _ :: _, [] => by simp [tkEqs, keyD]
  | .inr _ :: _, [] => by simp [tkEqs, keyD]
  | .inl a :: j, .inl b :: k => by simp [tkEqs, keyD, tkEqs_iff j k]
  | .inr a :: j, .inr b :: k => by simp [tkEqs, keyD, tkEqs_iff j k]
  | .inl a :: j, .inr b :: k => by simp [tkEqs, keyD]
  | .inr a :: j, .inl b :: k => by simp [tkEqs, keyD]
theorem tkEq_tk (j k : List Key) : tkEq (tkD j) (tkD k) = decide (j = k) := by
  rw [Bool.eq_iff_iff, decide_eq_true_iff]
  exact tkEqs_iff j k
/-- what a dict holds at a key -/
def getT (kvs : List (List Key × Dt)) (k : List Key) : Option Dt := (kvs.find? fun p => decide (p.1 = k)).map (·.2)
def putT (kvs : List (List Key × Dt)) (k : List Key) (d : Dt) : List (List Key × Dt) :=
  if (kvs.any fun p => decide (p.1 = k)) = true then kvs.map (fun p => if p.1 = k then (p.1, d) else p) else kvs ++ [(k, d)]
def getTD (kvs : List (Dt × Dt)) (key : Dt) : Option Dt := (asTK key).bind fun _ => (kvs.find? fun p => tkEq p.1 key).map (·.2)
theorem getTD_T (kvs : List (List Key × Dt)) {key : Dt} {k : List Key} (h : asTK key = some k) : getTD (kvs.map fun p => (tkD p.1, p.2)) key = getT kvs k := by
  unfold getTD getT
  rw [h, asTK_tk h, Option.bind_some, List.find?_map, Option.map_map]
  have e : ((fun p : Dt × Dt => tkEq p.1 (tkD k)) ∘ fun p : List Key × Dt => (tkD p.1, p.2)) = fun p => decide (p.1 = k) := by
    funext p
    exact tkEq_tk p.1 k
  rw [e]
  rfl
section
variable {K : Fr} {m : Option Addr} {F : Hp}
theorem Rp.tk {v : V} {d : Dt} {k : List Key} (r : Rp K m F v d) (h : asTK d = some k) : ∃ b, v = .ref b ∧ F b = some (.tup (k.map kV)) := by
  obtain ⟨n, i, rfl, rfl⟩ := asTK_eq h
  cases r with
  | tup h r =>
    cases r with
    | cons r1 r =>
      cases r with
      | cons r2 r =>
        cases r
        cases r1
        cases r2
        exact ⟨_, rfl, h.key rfl⟩
theorem Rp.dT_of {v : V} {l : List (Dt × Dt)} (r : Rp K m F v (dictD l)) : ∃ (a : Addr) (o : Obj) (kvs : List (List Key × V)) (ds : List Dt), v = .ref a ∧ F a = some (.frz o (.dT kvs)) ∧ RpA K m F (kvs.map (·.2)) ds ∧ l = (kvs.map fun p => tkD p.1).zip ds := by
  generalize hd : dictD l = d at r
  cases r with
  | dT h r =>
    rename_i a o kvs ds
    simp only [dictD, PyData.dict.injEq, List.cons.injEq, true_and] at hd
    exact ⟨a, o, kvs, ds, rfl, h, r, hd⟩
  | dK h r =>
    rename_i a kvs ds
    exfalso
    cases kvs with
    | nil => cases hd
    | cons p ps =>
      cases r with
      | cons h r =>
        unfold dictD at hd
        simp only [List.map_cons, List.zip_cons_cons, PyData.dict.injEq, List.cons.injEq, Prod.mk.injEq] at hd
        obtain ⟨⟨z, _⟩, _⟩ := hd
        rcases p with ⟨k | k, w⟩ <;> cases z
  | ctr h => simp [dictD, ctrD] at hd
  | exc g h => simp [dictD, excD] at hd
  | _ => cases hd
theorem RpA.getZ : ∀ {kvs : List (List Key × V)} {ds : List Dt} (k : List Key), RpA K m F (kvs.map (·.2)) ds →
    match (((kvs.map fun p => tkD p.1).zip ds).find? fun p => tkEq p.1 (tkD k)).map (·.2) with
    | some d => ∃ v, valV kvs k = some v ∧ Rp K m F v d
    | none => valV kvs k = none
  | [], _, k, .nil => by rfl
  | p :: kvs, d :: ds, k, .cons h r => by
    have ih := RpA.getZ (kvs := kvs) k r
    rw [List.map_cons, List.zip_cons_cons, List.find?_cons]
    simp only [tkEq_tk]
    by_cases e : p.1 = k
    · rw [valV_pos e]
      simp only [e, decide_true]
      exact ⟨_, rfl, h⟩
    · rw [valV_neg e]
      simp only [e, decide_false]
      exact ih
theorem RpA.putZ {k : List Key} {v : V} {d : Dt} (rv : Rp K m F v d) {kvs : List (List Key × Dt)} {ws : List V} (r : RpA K m F ws (kvs.map (·.2))) :
    ∃ us, putK ((kvs.map (·.1)).zip ws) k v = ((putT kvs k d).map (·.1)).zip us ∧ RpA K m F us ((putT kvs k d).map (·.2)) := by
  have hlen : ws.length = kvs.length := by rw [r.length, List.length_map]
  have ha : (((kvs.map (·.1)).zip ws).any fun kv => decide (kv.1 = k)) = kvs.any fun p => decide (p.1 = k) := by
    clear r
    induction kvs generalizing ws with
    | nil => rfl
    | cons p kvs ih =>
      cases ws with
      | nil => cases hlen
      | cons w ws =>
        rw [List.map_cons, List.zip_cons_cons, List.any_cons, List.any_cons, ih (by simpa using hlen)]
  unfold putK putT
  rw [ha]
  by_cases q : (kvs.any fun p => decide (p.1 = k)) = true
  · rw [if_pos q, if_pos q]
    clear ha q
    induction kvs generalizing ws with
    | nil =>
      cases ws with
      | nil => exact ⟨[], rfl, .nil⟩
      | cons w ws => cases hlen
    | cons p kvs ih =>
      cases ws with
      | nil => cases hlen
      | cons w ws =>
        cases r with
        | cons h r =>
          obtain ⟨us, e1, e2⟩ := ih r (by simpa using hlen)
          by_cases e : p.1 = k
          · refine ⟨v :: us, ?_, ?_⟩
            · rw [List.map_cons, List.zip_cons_cons, List.map_cons, e1]
              simp [e]
            · simp only [List.map_cons, e, if_true]
              exact .cons rv e2
          · refine ⟨w :: us, ?_, ?_⟩
            · rw [List.map_cons, List.zip_cons_cons, List.map_cons, e1]
              simp [e]
            · simp only [List.map_cons, e, if_false]
              exact .cons h e2
  · rw [if_neg q, if_neg q]
    refine ⟨ws ++ [v], ?_, ?_⟩
    · rw [List.map_append, List.zip_append (by rw [List.length_map, hlen])]
      rfl
    · rw [List.map_append]
      exact r.append (.cons rv .nil)
end
end Dn

set_option Elab.async false
set_option linter.all false
set_option maxRecDepth 100000
set_option maxHeartbeats 1000000
namespace Dn
open PySem PySem.Spec PyProof.Rows L2 Evl

/-! ### what a computation is made of -/
@[simp] def dC (d : Dt) : DE := fun _ k => some (d, k)
@[simp] def dVar (i : Nat) : DE := fun ρ k => match ρ[i]? with
  | some (.sh d) => some (d, k)
  | _ => none
@[simp] def dVarO (i : Nat) : DE := fun ρ k => match ρ[i]? with
  | some (.sh d) => some (d, k)
  | some (.ow ds) => some (.list ds, k)
  | _ => none
@[simp] def dU (g : Dt → Option Dt) (f : DE) : DE := fun ρ k => (f ρ k).bind fun p => (g p.1).bind fun d => some (d, p.2)
@[simp] def dB (g : Dt → Dt → Option Dt) (fa fb : DE) : DE := fun ρ k => (fa ρ k).bind fun p => (fb ρ p.2).bind fun q => (g p.1 q.1).bind fun d => some (d, q.2)
@[simp] def dBL (g : Dt → Dt → Option (List Dt)) (fa fb : DE) : DL := fun ρ k => (fa ρ k).bind fun p => (fb ρ p.2).bind fun q => (g p.1 q.1).bind fun d => some (d, q.2)
@[simp] def dN (g : List Dt → Option Dt) (f : DL) : DE := fun ρ k => (f ρ k).bind fun p => (g p.1).bind fun d => some (d, p.2)
@[simp] def dNL (g : List Dt → Option (List Dt)) (f : DL) : DL := fun ρ k => (f ρ k).bind fun p => (g p.1).bind fun d => some (d, p.2)
@[simp] def aNil : DL := fun _ k => some ([], k)
@[simp] def aCons (f : DE) (g : DL) : DL := fun ρ k => (f ρ k).bind fun p => (g ρ p.2).bind fun q => some (p.1 :: q.1, q.2)
@[simp] def asB : Dt → Option Bool
  | .bool b => some b
  | _ => none
@[simp] def tV (f : DE) : DT := fun ρ k => (f ρ k).bind fun p => (asB p.1).bind fun b => some (b, p.2)
@[simp] def tNotD (f : DT) : DT := fun ρ k => (f ρ k).bind fun p => some (!p.1, p.2)
@[simp] def tAndD (f g : DT) : DT := fun ρ k => (f ρ k).bind fun p => if p.1 = true then g ρ p.2 else some (false, p.2)
@[simp] def tOrD (f g : DT) : DT := fun ρ k => (f ρ k).bind fun p => if p.1 = true then some (true, p.2) else g ρ p.2
@[simp] def vAnd (f g : DE) : DE := fun ρ k => (f ρ k).bind fun p => (asB p.1).bind fun b => if b = true then g ρ p.2 else some (.bool false, p.2)
@[simp] def vOr (f g : DE) : DE := fun ρ k => (f ρ k).bind fun p => (asB p.1).bind fun b => if b = true then some (.bool true, p.2) else g ρ p.2
@[simp] def vNot (f : DE) : DE := fun ρ k => (f ρ k).bind fun p => (asB p.1).bind fun b => some (.bool (!b), p.2)
@[simp] def dIf (t : DT) (f g : DE) : DE := fun ρ k => (t ρ k).bind fun p => if p.1 = true then f ρ p.2 else g ρ p.2
/-- a < b < c: b once -/
@[simp] def dChain (g h : Dt → Dt → Option Dt) (fa fb fc : DE) : DE := fun ρ k => (fa ρ k).bind fun p => (fb ρ p.2).bind fun q => (g p.1 q.1).bind fun d => (asB d).bind fun b =>
  if b = true then (fc ρ q.2).bind fun r => (h q.1 r.1).bind fun e => some (e, r.2) else some (.bool false, q.2)

theorem asB_some {d : Dt} {b : Bool} (h : asB d = some b) : d = .bool b := by
  cases d <;> simp [asB] at h
  rw [h]

/-! ### operations on values, as data -/
def roD (K : Fr) (m : Option Addr) (g : Dt → Dt → Option Dt) : R2 := fun x y H Q => ∃ F k dx dy d, Ex F H ∧ Ctr m F H k ∧ Ro K m F H x dx ∧ Ro K m F H y dy ∧ g dx dy = some d ∧ ∀ v F' H', Grow m F H F' H' → Ctr m F' H' k → Rp K m F' v d → Q v H'
def rlD (K : Fr) (m : Option Addr) (g : Dt → Dt → Option (List Dt)) : R2 := fun x y H Q => ∃ F k dx dy ds, Ex F H ∧ Ctr m F H k ∧ Ro K m F H x dx ∧ Ro K m F H y dy ∧ g dx dy = some ds ∧ ∀ p vs H', H p = none → H' = upd H p (.lst vs) → RpA K m F vs ds → Q (.ref p) H'
def ruD (K : Fr) (m : Option Addr) (g : Dt → Option Dt) : V → Hp → VK → Prop := fun x H Q => ∃ F k dx d, Ex F H ∧ Ctr m F H k ∧ Ro K m F H x dx ∧ g dx = some d ∧ ∀ v F' H', Grow m F H F' H' → Ctr m F' H' k → Rp K m F' v d → Q v H'
def rcD (K : Fr) (m : Option Addr) (g : List Dt → Option Dt) : List V → Hp → VK → Prop := fun xs H Q => ∃ F k ds d, Ex F H ∧ Ctr m F H k ∧ RoA K m F H xs ds ∧ g ds = some d ∧ ∀ v F' H', Grow m F H F' H' → Ctr m F' H' k → Rp K m F' v d → Q v H'
def rclD (K : Fr) (m : Option Addr) (g : List Dt → Option (List Dt)) : List V → Hp → VK → Prop := fun xs H Q => ∃ F k ds es, Ex F H ∧ Ctr m F H k ∧ RoA K m F H xs ds ∧ g ds = some es ∧ ∀ p vs H', H p = none → H' = upd H p (.lst vs) → RpA K m F vs es → Q (.ref p) H'

section
variable {X : Cx} {m : Option Addr} {a b c e : Expr} {es : List Expr} {pos : Pos}
/-! names and constants -/
theorem e_var (i : Nat) {x : Str} {pos : Pos} (hN : X.N[i]? = some x := by rfl) (hv : Vis X.env.scope x := by first | exact Or.inl rfl | exact Or.inr (Or.inl rfl) | exact Or.inr (Or.inr rfl)) (hd : (x == ("__debug__" : Str)) = false := by decide)
    (hcd : (x == ("__classdict__" : Str)) = false := by decide) : PE X (.Name x pos) (tE X.fr m (dVar i)) := impPE (pe_var (i := i) hN hv hd hcd) fun σ H Q ⟨F, ρ, k, d, k', R, hf, q⟩ => by
  unfold dVar at hf
  cases h : ρ[i]? with
  | none =>
    rw [h] at hf
    cases hf
  | some c =>
    rw [h] at hf
    cases c <;> cases hf
    obtain ⟨v, e, r⟩ := R.sh i _ h
    exact ⟨v, e, q v F H (.refl R.sub) R.ctr r⟩
theorem o_var (i : Nat) {x : Str} {pos : Pos} (hN : X.N[i]? = some x := by rfl) (hv : Vis X.env.scope x := by first | exact Or.inl rfl | exact Or.inr (Or.inl rfl) | exact Or.inr (Or.inr rfl)) (hd : (x == ("__debug__" : Str)) = false := by decide)
    (hcd : (x == ("__classdict__" : Str)) = false := by decide) : PE X (.Name x pos) (tO X.fr m (dVarO i)) := impPE (pe_var (i := i) hN hv hd hcd) fun σ H Q ⟨F, ρ, k, d, k', R, hf, q⟩ => by
  unfold dVarO at hf
  cases h : ρ[i]? with
  | none =>
    rw [h] at hf
    cases hf
  | some c =>
    rw [h] at hf
    cases c <;> cases hf
    · obtain ⟨v, e, r⟩ := R.sh i _ h
      exact ⟨v, e, q v F H (.refl R.sub) R.ctr (.inl r)⟩
    · rename_i ds
      obtain ⟨p, o, e, f, n, ho, r⟩ := R.ow i _ h rfl
      obtain ⟨vs, rfl, r⟩ := r
      exact ⟨_, e, q _ F H (.refl R.sub) R.ctr (.inr ⟨p, vs, ds, rfl, n, f, ho, r, rfl⟩)⟩
theorem e_of {e : Expr} {v : V} {d : Dt} (h : PE X e (tC v)) (r : ∀ F, Rp X.fr m F v d) : PE X e (tE X.fr m (dC d)) := impPE h fun σ H Q ⟨F, ρ, k, d', k', R, hf, q⟩ => by
  cases hf
  exact q v F H (.refl R.sub) R.ctr (r F)
theorem e_int {i : Int} {j pos} : PE X (.Constant (.int i) j pos) (tE X.fr m (dC (.int i))) := e_of pe_int fun _ => .int i
theorem e_bl {i : Bool} {j pos} : PE X (.Constant (.bool i) j pos) (tE X.fr m (dC (.bool i))) := e_of pe_bl fun _ => .bl i
theorem e_str {i : Str} {j pos} : PE X (.Constant (.str i) j pos) (tE X.fr m (dC (.str i))) := e_of pe_str fun _ => .str i
theorem e_non {j pos} : PE X (.Constant .none j pos) (tE X.fr m (dC .none)) := e_of pe_non fun _ => .non
theorem e_globI {x : Str} {i : Int} {t : Tok} {pos : Pos} (hm : X.mg x = some (.int i t)) (hg : Gl X x := by rfl) (hd : (x == ("__debug__" : Str)) = false := by decide) : PE X (.Name x pos) (tE X.fr m (dC (.int i))) :=
  e_of (pe_glob hg hm (v := .int i) ⟨t, rfl⟩ hd) fun _ => .int i

/-! operators -/
theorem e_op {op : Operator} {g : Dt → Dt → Option Dt} {fa fb : DE} (ha : PE X a (tO X.fr m fa)) (hb : PE X b (tO X.fr m fb)) (ho : OpR X (binaryOp op) (roD X.fr m g)) : PE X (.BinOp a op b pos) (tE X.fr m (dB g fa fb)) :=
  impPE (pe_op ho ha hb) fun σ H Q ⟨F, ρ, k, d, k', R, hf, q⟩ => by
    unfold dB at hf
    obtain ⟨⟨x, k1⟩, h1, hf⟩ := Option.bind_eq_some_iff.mp hf
    obtain ⟨⟨y, k2⟩, h2, hf⟩ := Option.bind_eq_some_iff.mp hf
    obtain ⟨z, h3, hf⟩ := Option.bind_eq_some_iff.mp hf
    cases hf
    exact ⟨F, ρ, k, x, k1, R, h1, fun v1 F1 H1 g1 c1 r1 => ⟨F1, ρ, k1, y, k2, R.grow g1 c1, h2, fun v2 F2 H2 g2 c2 r2 =>
      ⟨F2, k2, x, y, d, g2.fh, c2, r1.grow g2, r2, h3, fun v F' H' g' c' r => q v F' H' ((g1.trans c1 g2).trans c2 g') c' r⟩⟩⟩
theorem l_op {op : Operator} {g : Dt → Dt → Option (List Dt)} {fa fb : DE} (ha : PE X a (tO X.fr m fa)) (hb : PE X b (tO X.fr m fb)) (ho : OpR X (binaryOp op) (rlD X.fr m g)) : PE X (.BinOp a op b pos) (tL X.fr m (dBL g fa fb)) :=
  impPE (pe_op ho ha hb) fun σ H Q ⟨F, ρ, k, d, k', R, hf, q⟩ => by
    unfold dBL at hf
    obtain ⟨⟨x, k1⟩, h1, hf⟩ := Option.bind_eq_some_iff.mp hf
    obtain ⟨⟨y, k2⟩, h2, hf⟩ := Option.bind_eq_some_iff.mp hf
    obtain ⟨z, h3, hf⟩ := Option.bind_eq_some_iff.mp hf
    cases hf
    exact ⟨F, ρ, k, x, k1, R, h1, fun v1 F1 H1 g1 c1 r1 => ⟨F1, ρ, k1, y, k2, R.grow g1 c1, h2, fun v2 F2 H2 g2 c2 r2 =>
      ⟨F2, k2, x, y, d, g2.fh, c2, r1.grow g2, r2, h3, fun p vs H' hp eh r => by
        subst eh
        have g3 := g1.trans c1 g2
        exact q p vs F2 _ (g3.trans c2 (Grow.laid g2.fh hp)) (c2.laid hp) (g3.back c2 hp) (ex_none g2.fh hp) upd_same r⟩⟩⟩
theorem e_un {op : UnaryOp} {g : Dt → Option Dt} {fa : DE} (ha : PE X a (tO X.fr m fa)) (ho : UnR X (unaryOp op) (ruD X.fr m g)) : PE X (.UnaryOp op a pos) (tE X.fr m (dU g fa)) :=
  impPE (pe_un ho ha) fun σ H Q ⟨F, ρ, k, d, k', R, hf, q⟩ => by
    unfold dU at hf
    obtain ⟨⟨x, k1⟩, h1, hf⟩ := Option.bind_eq_some_iff.mp hf
    obtain ⟨z, h3, hf⟩ := Option.bind_eq_some_iff.mp hf
    cases hf
    exact ⟨F, ρ, k, x, k1, R, h1, fun v1 F1 H1 g1 c1 r1 => ⟨F1, k1, x, d, g1.fh, c1, r1, h3, fun v F' H' g' c' r => q v F' H' (g1.trans c1 g') c' r⟩⟩
theorem e_cmp {op : CmpOp} {g : Dt → Dt → Option Dt} {fa fb : DE} (ha : PE X a (tO X.fr m fa)) (hb : PE X b (tO X.fr m fb)) (ho : OpR X (compareOp op) (roD X.fr m g)) (hm : behindInMarks op b = false) : PE X (.Compare a [op] [b] pos) (tE X.fr m (dB g fa fb)) :=
  impPE (pe_cmpR ho ha hb hm) fun σ H Q ⟨F, ρ, k, d, k', R, hf, q⟩ => by
    unfold dB at hf
    obtain ⟨⟨x, k1⟩, h1, hf⟩ := Option.bind_eq_some_iff.mp hf
    obtain ⟨⟨y, k2⟩, h2, hf⟩ := Option.bind_eq_some_iff.mp hf
    obtain ⟨z, h3, hf⟩ := Option.bind_eq_some_iff.mp hf
    cases hf
    exact ⟨F, ρ, k, x, k1, R, h1, fun v1 F1 H1 g1 c1 r1 => ⟨F1, ρ, k1, y, k2, R.grow g1 c1, h2, fun v2 F2 H2 g2 c2 r2 =>
      ⟨F2, k2, x, y, d, g2.fh, c2, r1.grow g2, r2, h3, fun v F' H' g' c' r => q v F' H' ((g1.trans c1 g2).trans c2 g') c' r⟩⟩⟩
theorem t_cmp {op : CmpOp} {g : Dt → Dt → Option Dt} {fa fb : DE} (ha : PE X a (tO X.fr m fa)) (hb : PE X b (tO X.fr m fb)) (ho : OpR X (compareOp op) (roD X.fr m g)) (hm : behindInMarks op b = false) : PT X (.Compare a [op] [b] pos) (tT X.fr m (tV (dB g fa fb))) :=
  impPT (pt_cmpR ho ha hb hm) fun σ H Q ⟨F, ρ, k, d, k', R, hf, q⟩ => by
    unfold tV dB at hf
    obtain ⟨⟨w, k0⟩, h0, hf⟩ := Option.bind_eq_some_iff.mp hf
    obtain ⟨b, hb, hf⟩ := Option.bind_eq_some_iff.mp hf
    cases hf
    cases asB_some hb
    obtain ⟨⟨x, k1⟩, h1, hf⟩ := Option.bind_eq_some_iff.mp h0
    obtain ⟨⟨y, k2⟩, h2, hf⟩ := Option.bind_eq_some_iff.mp hf
    obtain ⟨z, h3, hf⟩ := Option.bind_eq_some_iff.mp hf
    cases hf
    exact ⟨F, ρ, k, x, k1, R, h1, fun v1 F1 H1 g1 c1 r1 => ⟨F1, ρ, k1, y, k2, R.grow g1 c1, h2, fun v2 F2 H2 g2 c2 r2 =>
      ⟨F2, k2, x, y, _, g2.fh, c2, r1.grow g2, r2, h3, fun v F' H' g' c' r => by
        cases r
        exact ⟨_, rfl, q F' H' ((g1.trans c1 g2).trans c2 g') c'⟩⟩⟩⟩
theorem chain_in {g h : Dt → Dt → Option Dt} {fa fb fc : DE} {K : Fr} {σ : L2.St} {H : Hp} {Q : VK} (w : tE K m (dChain g h fa fb fc) σ H Q) : tChain (roD K m g) (roD K m h) (tO K m fa) (tO K m fb) (tO K m fc) σ H Q := by
  obtain ⟨F, ρ, k, d, k', R, hf, q⟩ := w
  unfold dChain at hf
  obtain ⟨⟨x, k1⟩, h1, hf⟩ := Option.bind_eq_some_iff.mp hf
  obtain ⟨⟨y, k2⟩, h2, hf⟩ := Option.bind_eq_some_iff.mp hf
  obtain ⟨z, h3, hf⟩ := Option.bind_eq_some_iff.mp hf
  obtain ⟨b, hb, hf⟩ := Option.bind_eq_some_iff.mp hf
  cases asB_some hb
  refine ⟨F, ρ, k, x, k1, R, h1, fun v1 F1 H1 g1 c1 r1 => ⟨F1, ρ, k1, y, k2, R.grow g1 c1, h2, fun v2 F2 H2 g2 c2 r2 =>
      ⟨F2, k2, x, y, _, g2.fh, c2, r1.grow g2, r2, h3, fun v F3 H3 g3 c3 r => ?_⟩⟩⟩
  cases r
  refine ⟨b, rfl, ?_⟩
  have g12 := g1.trans c1 g2
  have g13 := g12.trans c2 g3
  cases b with
  | false =>
    cases hf
    exact q _ F3 H3 g13 c3 (.bl false)
  | true =>
    replace hf : ((fc ρ k2).bind fun r => (h y r.1).bind fun e => some (e, r.2)) = some (d, k') := hf
    show tO K m fc σ H3 fun w' H4 => roD K m h v2 w' H4 Q
    obtain ⟨⟨u, k4⟩, h4, hf⟩ := Option.bind_eq_some_iff.mp hf
    obtain ⟨e, h5, hf⟩ := Option.bind_eq_some_iff.mp hf
    cases hf
    exact ⟨F3, ρ, k2, u, k4, R.grow g13 c3, h4, fun v4 F4 H4 g4 c4 r4 => ⟨F4, k4, y, u, d, g4.fh, c4, (r2.grow g3).grow g4, r4, h5, fun v F' H' g' c' r => q v F' H' ((g13.trans c3 g4).trans c4 g') c' r⟩⟩
theorem e_chain {op op' : CmpOp} {g h : Dt → Dt → Option Dt} {fa fb fc : DE} (ha : PE X a (tO X.fr m fa)) (hb : PE X b (tO X.fr m fb)) (hc : PE X c (tO X.fr m fc)) (ho : OpR X (compareOp op) (roD X.fr m g)) (ho' : OpR X (compareOp op') (roD X.fr m h))
    (hm : lastMarks [op, op'] [b, c] = false := by with_unfolding_all rfl) : PE X (.Compare a [op, op'] [b, c] pos) (tE X.fr m (dChain g h fa fb fc)) := impPE (pe_chain ho ho' ha hb hc hm) fun _ _ _ w => chain_in w
theorem t_chain {op op' : CmpOp} {g h : Dt → Dt → Option Dt} {fa fb fc : DE} (ha : PE X a (tO X.fr m fa)) (hb : PE X b (tO X.fr m fb)) (hc : PE X c (tO X.fr m fc)) (ho : OpR X (compareOp op) (roD X.fr m g)) (ho' : OpR X (compareOp op') (roD X.fr m h))
    (hm : lastMarks [op, op'] [b, c] = false := by with_unfolding_all rfl) : PT X (.Compare a [op, op'] [b, c] pos) (tT X.fr m (tV (dChain g h fa fb fc))) := impPT (pt_chain ho ho' ha hb hc hm) fun σ H Q ⟨F, ρ, k, d, k', R, hf, q⟩ => by
  unfold tV at hf
  obtain ⟨⟨w, k0⟩, h0, hf⟩ := Option.bind_eq_some_iff.mp hf
  obtain ⟨b, hb, hf⟩ := Option.bind_eq_some_iff.mp hf
  cases hf
  cases asB_some hb
  have z := chain_in (K := X.fr) (m := m) (σ := σ) (H := H) (Q := fun x H' => ∃ k, x = .bl k ∧ Q k H') ⟨F, ρ, k, _, k0, R, h0, fun v F' H' g' c' r => by
    cases r
    exact ⟨_, rfl, q F' H' g' c'⟩⟩
  exact z
end
end Dn

set_option Elab.async false
set_option linter.all false
set_option maxRecDepth 100000
set_option maxHeartbeats 1000000
namespace Dn
open PySem PySem.Spec PyProof.Rows L2 Evl

section
variable {X : Cx} {m : Option Addr} {a b c e : Expr} {es : List Expr} {pos : Pos}
/-! tests, and/or/not -/
theorem t_val {e : Expr} {f : DE} (h : PE X e (tE X.fr m f)) (he : ∀ whole, isTrue e X.env whole = (do let v ← whole; standAt e.pos; holding [v] (truthy v)) := by intro _; rfl) : PT X e (tT X.fr m (tV f)) :=
  impPT (pt_val h he) fun σ H Q ⟨F, ρ, k, b, k', R, hf, q⟩ => by
    unfold tV at hf
    obtain ⟨⟨w, k0⟩, h0, hf⟩ := Option.bind_eq_some_iff.mp hf
    obtain ⟨b, hb, hf⟩ := Option.bind_eq_some_iff.mp hf
    cases hf
    cases asB_some hb
    exact ⟨F, ρ, k, _, k0, R, h0, fun v F' H' g' c' r => by
      cases r
      exact ⟨_, rfl, q F' H' g' c'⟩⟩
theorem t_not {f : DT} (h : PT X a (tT X.fr m f)) : PT X (.UnaryOp .Not a pos) (tT X.fr m (tNotD f)) :=
  impPT (pt_not h) fun σ H Q ⟨F, ρ, k, b, k', R, hf, q⟩ => by
    unfold tNotD at hf
    obtain ⟨⟨w, k0⟩, h0, hf⟩ := Option.bind_eq_some_iff.mp hf
    cases hf
    exact ⟨F, ρ, k, w, k0, R, h0, fun F' H' g' c' => q F' H' g' c'⟩
theorem w_and1 {f : DT} (h : PT X a (tT X.fr m f)) : PW X (.BoolOp .And [a] pos) (tT X.fr m f) := pw_and1 h
theorem w_or1 {f : DT} (h : PT X a (tT X.fr m f)) : PW X (.BoolOp .Or [a] pos) (tT X.fr m f) := pw_or1 h
theorem w_and {rest : List Expr} {f g : DT} (h : PT X a (tT X.fr m f)) (h2 : PW X (.BoolOp .And (b :: rest) pos) (tT X.fr m g)) : PW X (.BoolOp .And (a :: b :: rest) pos) (tT X.fr m (tAndD f g)) :=
  impPW (pw_and h h2) fun σ H Q ⟨F, ρ, k, b, k', R, hf, q⟩ => by
    unfold tAndD at hf
    obtain ⟨⟨w, k0⟩, h0, hf⟩ := Option.bind_eq_some_iff.mp hf
    refine ⟨F, ρ, k, w, k0, R, h0, fun F' H' g' c' => ?_⟩
    cases w with
    | true => exact ⟨F', ρ, k0, b, k', R.grow g' c', hf, fun F2 H2 g2 c2 => q F2 H2 (g'.trans c' g2) c2⟩
    | false =>
      cases hf
      exact q F' H' g' c'
theorem w_or {rest : List Expr} {f g : DT} (h : PT X a (tT X.fr m f)) (h2 : PW X (.BoolOp .Or (b :: rest) pos) (tT X.fr m g)) : PW X (.BoolOp .Or (a :: b :: rest) pos) (tT X.fr m (tOrD f g)) :=
  impPW (pw_or h h2) fun σ H Q ⟨F, ρ, k, b, k', R, hf, q⟩ => by
    unfold tOrD at hf
    obtain ⟨⟨w, k0⟩, h0, hf⟩ := Option.bind_eq_some_iff.mp hf
    refine ⟨F, ρ, k, w, k0, R, h0, fun F' H' g' c' => ?_⟩
    cases w with
    | false => exact ⟨F', ρ, k0, b, k', R.grow g' c', hf, fun F2 H2 g2 c2 => q F2 H2 (g'.trans c' g2) c2⟩
    | true =>
      cases hf
      exact q F' H' g' c'
theorem t_w {f : DT} (h : PW X e (tT X.fr m f)) : PT X e (tT X.fr m f) := h.pt
theorem v_one {op} {f : DE} (h : PE X a (tE X.fr m f)) : PE X (.BoolOp op [a] pos) (tE X.fr m f) := pe_one h
theorem v_and {rest : List Expr} {f g : DE} (h : PE X a (tE X.fr m f)) (h2 : PE X (.BoolOp .And (b :: rest) pos) (tE X.fr m g)) : PE X (.BoolOp .And (a :: b :: rest) pos) (tE X.fr m (vAnd f g)) :=
  impPE (pe_and h h2) fun σ H Q ⟨F, ρ, k, d, k', R, hf, q⟩ => by
    unfold vAnd at hf
    obtain ⟨⟨w, k0⟩, h0, hf⟩ := Option.bind_eq_some_iff.mp hf
    obtain ⟨b, hb, hf⟩ := Option.bind_eq_some_iff.mp hf
    cases asB_some hb
    refine ⟨F, ρ, k, _, k0, R, h0, fun v F' H' g' c' r => ?_⟩
    cases r
    refine ⟨b, rfl, ?_⟩
    cases b with
    | true => exact ⟨F', ρ, k0, d, k', R.grow g' c', hf, fun v2 F2 H2 g2 c2 r2 => q v2 F2 H2 (g'.trans c' g2) c2 r2⟩
    | false =>
      cases hf
      exact q _ F' H' g' c' (.bl false)
theorem v_or {rest : List Expr} {f g : DE} (h : PE X a (tE X.fr m f)) (h2 : PE X (.BoolOp .Or (b :: rest) pos) (tE X.fr m g)) : PE X (.BoolOp .Or (a :: b :: rest) pos) (tE X.fr m (vOr f g)) :=
  impPE (pe_or h h2) fun σ H Q ⟨F, ρ, k, d, k', R, hf, q⟩ => by
    unfold vOr at hf
    obtain ⟨⟨w, k0⟩, h0, hf⟩ := Option.bind_eq_some_iff.mp hf
    obtain ⟨b, hb, hf⟩ := Option.bind_eq_some_iff.mp hf
    cases asB_some hb
    refine ⟨F, ρ, k, _, k0, R, h0, fun v F' H' g' c' r => ?_⟩
    cases r
    refine ⟨b, rfl, ?_⟩
    cases b with
    | false => exact ⟨F', ρ, k0, d, k', R.grow g' c', hf, fun v2 F2 H2 g2 c2 r2 => q v2 F2 H2 (g'.trans c' g2) c2 r2⟩
    | true =>
      cases hf
      exact q _ F' H' g' c' (.bl true)
theorem v_not {f : DE} (h : PE X a (tE X.fr m f)) : PE X (.UnaryOp .Not a pos) (tE X.fr m (vNot f)) :=
  impPE (pe_not h) fun σ H Q ⟨F, ρ, k, d, k', R, hf, q⟩ => by
    unfold vNot at hf
    obtain ⟨⟨w, k0⟩, h0, hf⟩ := Option.bind_eq_some_iff.mp hf
    obtain ⟨b, hb, hf⟩ := Option.bind_eq_some_iff.mp hf
    cases asB_some hb
    cases hf
    refine ⟨F, ρ, k, _, k0, R, h0, fun v F' H' g' c' r => ?_⟩
    cases r
    exact ⟨b, rfl, q _ F' H' g' c' (.bl _)⟩
theorem e_if {f : DT} {g h : DE} (hc : PT X c (tT X.fr m f)) (ha : PE X a (tE X.fr m g)) (hb : PE X b (tE X.fr m h)) : PE X (.IfExp c a b pos) (tE X.fr m (dIf f g h)) :=
  impPE (pe_ifExp hc ha hb) fun σ H Q ⟨F, ρ, k, d, k', R, hf, q⟩ => by
    unfold dIf at hf
    obtain ⟨⟨w, k0⟩, h0, hf⟩ := Option.bind_eq_some_iff.mp hf
    refine ⟨F, ρ, k, w, k0, R, h0, fun F' H' g' c' => ?_⟩
    cases w with
    | true => exact ⟨F', ρ, k0, d, k', R.grow g' c', hf, fun v2 F2 H2 g2 c2 r2 => q v2 F2 H2 (g'.trans c' g2) c2 r2⟩
    | false => exact ⟨F', ρ, k0, d, k', R.grow g' c', hf, fun v2 F2 H2 g2 c2 r2 => q v2 F2 H2 (g'.trans c' g2) c2 r2⟩

/-! arguments -/
theorem p_nilO : PA X [] (tAo X.fr m aNil) := impPA pa_nil fun σ H Q ⟨F, ρ, k, ds, k', R, hf, q⟩ => by
  cases hf
  exact q [] F H (.refl R.sub) R.ctr .nil
theorem p_nil : PA X [] (tAr X.fr m aNil) := impPA pa_nil fun σ H Q ⟨F, ρ, k, ds, k', R, hf, q⟩ => by
  cases hf
  exact q [] F H (.refl R.sub) R.ctr .nil
theorem p_consO {f : DE} {g : DL} (h : PE X e (tO X.fr m f)) (h2 : PA X es (tAo X.fr m g)) (hs : starEach (e :: es) X.env = (false, eval e X.env) :: starEach es X.env := by rfl) : PA X (e :: es) (tAo X.fr m (aCons f g)) :=
  impPA (pa_cons h h2 hs) fun σ H Q ⟨F, ρ, k, ds, k', R, hf, q⟩ => by
    unfold aCons at hf
    obtain ⟨⟨x, k1⟩, h1, hf⟩ := Option.bind_eq_some_iff.mp hf
    obtain ⟨⟨y, k2⟩, h2, hf⟩ := Option.bind_eq_some_iff.mp hf
    cases hf
    exact ⟨F, ρ, k, x, k1, R, h1, fun v1 F1 H1 g1 c1 r1 => ⟨F1, ρ, k1, y, k2, R.grow g1 c1, h2, fun v2 F2 H2 g2 c2 r2 => q _ F2 H2 (g1.trans c1 g2) c2 (.cons (r1.grow g2) r2)⟩⟩
theorem p_cons {f : DE} {g : DL} (h : PE X e (tE X.fr m f)) (h2 : PA X es (tAr X.fr m g)) (hs : starEach (e :: es) X.env = (false, eval e X.env) :: starEach es X.env := by rfl) : PA X (e :: es) (tAr X.fr m (aCons f g)) :=
  impPA (pa_cons h h2 hs) fun σ H Q ⟨F, ρ, k, ds, k', R, hf, q⟩ => by
    unfold aCons at hf
    obtain ⟨⟨x, k1⟩, h1, hf⟩ := Option.bind_eq_some_iff.mp hf
    obtain ⟨⟨y, k2⟩, h2, hf⟩ := Option.bind_eq_some_iff.mp hf
    cases hf
    exact ⟨F, ρ, k, x, k1, R, h1, fun v1 F1 H1 g1 c1 r1 => ⟨F1, ρ, k1, y, k2, R.grow g1 c1, h2, fun v2 F2 H2 g2 c2 r2 => q _ F2 H2 (g1.trans c1 g2) c2 (.cons (r1.mono g2.ff) r2)⟩⟩
theorem p_o {es : List Expr} {f : DL} (h : PA X es (tAr X.fr m f)) : PA X es (tAo X.fr m f) := impPA h fun σ H Q ⟨F, ρ, k, ds, k', R, hf, q⟩ =>
  ⟨F, ρ, k, ds, k', R, hf, fun vs F' H' g c r => q vs F' H' g c r.ops⟩

/-! displays -/
theorem small_line {n : Nat} (h : n ≤ 1000000) : n ≤ sizeLine := Nat.le_trans h (by decide)
@[simp] def gTupD (ds : List Dt) : Option Dt := if ds.length ≤ 1000 then some (.tuple ds) else none
@[simp] def gLstD (ds : List Dt) : Option (List Dt) := if ds.length ≤ 1000 then some ds else none
theorem new_tup {K : Fr} {F H : Hp} {k : Int} {vs : List V} {ds : List Dt} (e : Ex F H) (c : Ctr m F H k) (r : RpA K m F vs ds) {p : Addr} (hp : H p = none) :
    Grow m F H (upd F p (.tup vs)) (upd H p (.tup vs)) ∧ Ctr m (upd F p (.tup vs)) (upd H p (.tup vs)) k ∧ Rp K m (upd F p (.tup vs)) (.ref p) (.tuple ds) :=
  ⟨(Grow.laid e hp).freeze hp upd_same, (c.laid hp).freeze (c.ne hp), .tup (.new upd_same) (r.mono (ex_freeze (ex_none e hp)))⟩
theorem e_tup {f : DL} {x1} (h : PA X es (tAr X.fr m f)) : PE X (.Tuple es x1 pos) (tE X.fr m (dN gTupD f)) := impPE (pe_tup h) fun σ H Q ⟨F, ρ, k, d, k', R, hf, q⟩ => by
  unfold dN at hf
  obtain ⟨⟨ds, k1⟩, h1, hf⟩ := Option.bind_eq_some_iff.mp hf
  obtain ⟨z, h3, hf⟩ := Option.bind_eq_some_iff.mp hf
  cases hf
  unfold gTupD at h3
  split at h3
  · cases h3
    exact ⟨F, ρ, k, ds, k1, R, h1, fun vs F' H' g c r => ⟨by
      rw [r.length]
      exact small_line (by simp only at *; omega), fun p hp => by
      obtain ⟨z1, z2, z3⟩ := new_tup g.fh c r hp
      exact q _ _ _ (g.trans c z1) z2 z3⟩⟩
  · cases h3
theorem l_lst {f : DL} (h : PA X es (tAr X.fr m f)) : PE X (.List es pos) (tL X.fr m (dNL gLstD f)) := impPE (pe_lst h) fun σ H Q ⟨F, ρ, k, d, k', R, hf, q⟩ => by
  unfold dNL at hf
  obtain ⟨⟨ds, k1⟩, h1, hf⟩ := Option.bind_eq_some_iff.mp hf
  obtain ⟨z, h3, hf⟩ := Option.bind_eq_some_iff.mp hf
  cases hf
  unfold gLstD at h3
  split at h3
  · cases h3
    exact ⟨F, ρ, k, ds, k1, R, h1, fun vs F' H' g c r => ⟨by
      rw [r.length]
      exact small_line (by simp only at *; omega), fun p hp => q p vs F' _ (g.trans c (Grow.laid g.fh hp)) (c.laid hp) (g.back c hp) (ex_none g.fh hp) upd_same r⟩⟩
  · cases h3

/-! calls of what is built in -/
theorem e_callB {id : String} {x : Str} {p : Pos} {g : List Dt → Option Dt} {f : DL} (hc : CallR X (.builtin id) (rcD X.fr m g)) (hm : X.mg x = none) (hv : bootBuiltins x = some (.builtin id)) (ha : PA X (e :: es) (tAo X.fr m f)) (hg : Gl X x := by rfl) (hn : x ≠ "__name__" := by decide) (hdb : (x == ("__debug__" : Str)) = false := by decide)
    (hs : starEach (e :: es) X.env = (false, eval e X.env) :: starEach es X.env := by rfl) (hpl : (backTo pos (starEach es X.env)).any (·.1) = false := by rfl) : PE X (.Call (.Name x p) (e :: es) [] pos) (tE X.fr m (dN g f)) :=
  impPE (pe_callB hc hg hm hv ha hn hdb hs hpl) fun σ H Q ⟨F, ρ, k, d, k', R, hf, q⟩ => by
    unfold dN at hf
    obtain ⟨⟨ds, k1⟩, h1, hf⟩ := Option.bind_eq_some_iff.mp hf
    obtain ⟨z, h3, hf⟩ := Option.bind_eq_some_iff.mp hf
    cases hf
    exact ⟨F, ρ, k, ds, k1, R, h1, fun vs F1 H1 g1 c1 r => ⟨F1, k1, ds, d, g1.fh, c1, r, h3, fun v F' H' g' c' r' => q v F' H' (g1.trans c1 g') c' r'⟩⟩
theorem e_callTy {T : String} {x : Str} {p : Pos} {g : List Dt → Option Dt} {f : DL} (hc : CallR X (.type T) (rcD X.fr m g)) (hm : X.mg x = none) (hv : bootBuiltins x = some (.type T)) (ha : PA X (e :: es) (tAo X.fr m f)) (hg : Gl X x := by rfl) (hn : x ≠ "__name__" := by decide) (hdb : (x == ("__debug__" : Str)) = false := by decide)
    (hs : starEach (e :: es) X.env = (false, eval e X.env) :: starEach es X.env := by rfl) (hpl : (backTo pos (starEach es X.env)).any (·.1) = false := by rfl) : PE X (.Call (.Name x p) (e :: es) [] pos) (tE X.fr m (dN g f)) :=
  impPE (pe_callTy hc hg hm hv ha hn hdb hs hpl) fun σ H Q ⟨F, ρ, k, d, k', R, hf, q⟩ => by
    unfold dN at hf
    obtain ⟨⟨ds, k1⟩, h1, hf⟩ := Option.bind_eq_some_iff.mp hf
    obtain ⟨z, h3, hf⟩ := Option.bind_eq_some_iff.mp hf
    cases hf
    exact ⟨F, ρ, k, ds, k1, R, h1, fun vs F1 H1 g1 c1 r => ⟨F1, k1, ds, d, g1.fh, c1, r, h3, fun v F' H' g' c' r' => q v F' H' (g1.trans c1 g') c' r'⟩⟩
theorem l_callB {id : String} {x : Str} {p : Pos} {g : List Dt → Option (List Dt)} {f : DL} (hc : CallR X (.builtin id) (rclD X.fr m g)) (hm : X.mg x = none) (hv : bootBuiltins x = some (.builtin id)) (ha : PA X (e :: es) (tAo X.fr m f)) (hg : Gl X x := by rfl) (hn : x ≠ "__name__" := by decide) (hdb : (x == ("__debug__" : Str)) = false := by decide)
    (hs : starEach (e :: es) X.env = (false, eval e X.env) :: starEach es X.env := by rfl) (hpl : (backTo pos (starEach es X.env)).any (·.1) = false := by rfl) : PE X (.Call (.Name x p) (e :: es) [] pos) (tL X.fr m (dNL g f)) :=
  impPE (pe_callB hc hg hm hv ha hn hdb hs hpl) fun σ H Q ⟨F, ρ, k, d, k', R, hf, q⟩ => by
    unfold dNL at hf
    obtain ⟨⟨ds, k1⟩, h1, hf⟩ := Option.bind_eq_some_iff.mp hf
    obtain ⟨z, h3, hf⟩ := Option.bind_eq_some_iff.mp hf
    cases hf
    exact ⟨F, ρ, k, ds, k1, R, h1, fun vs F1 H1 g1 c1 r => ⟨F1, k1, ds, d, g1.fh, c1, r, h3, fun p vs H' hp eh r' => by
      subst eh
      exact q p vs F1 _ (g1.trans c1 (Grow.laid g1.fh hp)) (c1.laid hp) (g1.back c1 hp) (ex_none g1.fh hp) upd_same r'⟩⟩
theorem l_callTy {T : String} {x : Str} {p : Pos} {g : List Dt → Option (List Dt)} {f : DL} (hc : CallR X (.type T) (rclD X.fr m g)) (hm : X.mg x = none) (hv : bootBuiltins x = some (.type T)) (ha : PA X (e :: es) (tAo X.fr m f)) (hg : Gl X x := by rfl) (hn : x ≠ "__name__" := by decide) (hdb : (x == ("__debug__" : Str)) = false := by decide)
    (hs : starEach (e :: es) X.env = (false, eval e X.env) :: starEach es X.env := by rfl) (hpl : (backTo pos (starEach es X.env)).any (·.1) = false := by rfl) : PE X (.Call (.Name x p) (e :: es) [] pos) (tL X.fr m (dNL g f)) :=
  impPE (pe_callTy hc hg hm hv ha hn hdb hs hpl) fun σ H Q ⟨F, ρ, k, d, k', R, hf, q⟩ => by
    unfold dNL at hf
    obtain ⟨⟨ds, k1⟩, h1, hf⟩ := Option.bind_eq_some_iff.mp hf
    obtain ⟨z, h3, hf⟩ := Option.bind_eq_some_iff.mp hf
    cases hf
    exact ⟨F, ρ, k, ds, k1, R, h1, fun vs F1 H1 g1 c1 r => ⟨F1, k1, ds, d, g1.fh, c1, r, h3, fun p vs H' hp eh r' => by
      subst eh
      exact q p vs F1 _ (g1.trans c1 (Grow.laid g1.fh hp)) (c1.laid hp) (g1.back c1 hp) (ex_none g1.fh hp) upd_same r'⟩⟩

/-! the program's own defs -/
abbrev Fn := List Dt → Int → Option (Dt × Int)
abbrev FnL := List Dt → Int → Option (List Dt × Int)
def spD (K : Fr) (f : Fn) : Sp := fun vs H Q _ => ∃ m F k ds d k', Ex F H ∧ Ctr m F H k ∧ RpA K m F vs ds ∧ f ds k = some (d, k') ∧ ∀ v F' H', Grow m F H F' H' → Ctr m F' H' k' → Rp K m F' v d → Q v H'
/-- hands back a new list that nobody else holds -/
def spL (K : Fr) (f : FnL) : Sp := fun vs H Q _ => ∃ m F k ds es k', Ex F H ∧ Ctr m F H k ∧ RpA K m F vs ds ∧ f ds k = some (es, k') ∧
  ∀ p ws F' H', Grow m F H F' H' → Ctr m F' H' k' → H p = none → F' p = none → H' p = some (.lst ws) → RpA K m F' ws es → Q (.ref p) H'
@[simp] def dCall (f : Fn) (g : DL) : DE := fun ρ k => (g ρ k).bind fun p => f p.1 p.2
@[simp] def dCallL (f : FnL) (g : DL) : DL := fun ρ k => (g ρ k).bind fun p => f p.1 p.2
theorem e_call {j : Nat} {fa : Addr} {fd : FuncData} {ps : List Str} {f : Fn} {g : DL} {x : Str} {p : Pos} (G : FnOk X.prog X.w X.K X.mg X.base CX0 j fa fd ps (spD X.fr f)) (hr : Room j X.A) (hm : X.mg x = some (.ref fa)) (hk : PySem.W.keepIn X.K (.ref fa) = true)
    (hb : Binds X.K fd ps []) (ha : PA X (e :: es) (tAr X.fr m g)) (hg : Gl X x := by rfl) (hdb : (x == ("__debug__" : Str)) = false := by decide) (he : starEach (e :: es) X.env = (false, eval e X.env) :: starEach es X.env := by rfl) (hpl : (backTo pos (starEach es X.env)).any (·.1) = false := by rfl) :
    PE X (.Call (.Name x p) (e :: es) [] pos) (tE X.fr m (dCall f g)) := impPE (pe_call G hr hg hm hk hb .nil pass0 ha hdb he hpl) fun σ H Q ⟨F, ρ, k, d, k', R, hf, q⟩ => by
  unfold dCall at hf
  obtain ⟨⟨ds, k1⟩, h1, hf⟩ := Option.bind_eq_some_iff.mp hf
  refine ⟨F, ρ, k, ds, k1, R, h1, fun vs F1 H1 g1 c1 r => ?_⟩
  show spD X.fr f (vs ++ []) H1 Q E0
  rw [List.append_nil]
  exact ⟨m, F1, k1, ds, d, k', g1.fh, c1, r, hf, fun v F' H' g' c' r' => q v F' H' (g1.trans c1 g') c' r'⟩
theorem l_call {j : Nat} {fa : Addr} {fd : FuncData} {ps : List Str} {f : FnL} {g : DL} {x : Str} {p : Pos} (G : FnOk X.prog X.w X.K X.mg X.base CX0 j fa fd ps (spL X.fr f)) (hr : Room j X.A) (hm : X.mg x = some (.ref fa)) (hk : PySem.W.keepIn X.K (.ref fa) = true)
    (hb : Binds X.K fd ps []) (ha : PA X (e :: es) (tAr X.fr m g)) (hg : Gl X x := by rfl) (hdb : (x == ("__debug__" : Str)) = false := by decide) (he : starEach (e :: es) X.env = (false, eval e X.env) :: starEach es X.env := by rfl) (hpl : (backTo pos (starEach es X.env)).any (·.1) = false := by rfl) :
    PE X (.Call (.Name x p) (e :: es) [] pos) (tL X.fr m (dCallL f g)) := impPE (pe_call G hr hg hm hk hb .nil pass0 ha hdb he hpl) fun σ H Q ⟨F, ρ, k, d, k', R, hf, q⟩ => by
  unfold dCallL at hf
  obtain ⟨⟨ds, k1⟩, h1, hf⟩ := Option.bind_eq_some_iff.mp hf
  refine ⟨F, ρ, k, ds, k1, R, h1, fun vs F1 H1 g1 c1 r => ?_⟩
  show spL X.fr f (vs ++ []) H1 Q E0
  rw [List.append_nil]
  exact ⟨m, F1, k1, ds, d, k', g1.fh, c1, r, hf, fun p ws F' H' g' c' hp fp h' r' => q p ws F' H' (g1.trans c1 g') c' (g1.back c1 hp) fp h' r'⟩

/-! subscripts, slices -/
theorem e_ix {g : Dt → Dt → Option Dt} {fa fb : DE} (ha : PE X a (tO X.fr m fa)) (hb : PE X b (tO X.fr m fb)) (hr : IxR X (roD X.fr m g)) (hs : PlainIx b := by exact fun _ _ => rfl) : PE X (.Subscript a b pos) (tE X.fr m (dB g fa fb)) :=
  impPE (pe_ix hr ha hb hs) fun σ H Q ⟨F, ρ, k, d, k', R, hf, q⟩ => by
    unfold dB at hf
    obtain ⟨⟨x, k1⟩, h1, hf⟩ := Option.bind_eq_some_iff.mp hf
    obtain ⟨⟨y, k2⟩, h2, hf⟩ := Option.bind_eq_some_iff.mp hf
    obtain ⟨z, h3, hf⟩ := Option.bind_eq_some_iff.mp hf
    cases hf
    exact ⟨F, ρ, k, x, k1, R, h1, fun v1 F1 H1 g1 c1 r1 => ⟨F1, ρ, k1, y, k2, R.grow g1 c1, h2, fun v2 F2 H2 g2 c2 r2 =>
      ⟨F2, k2, x, y, d, g2.fh, c2, r1.grow g2, r2, h3, fun v F' H' g' c' r => q v F' H' ((g1.trans c1 g2).trans c2 g') c' r⟩⟩⟩
abbrev DP := E1 (Option Int)
@[simp] def pN : DP := fun _ k => some (none, k)
@[simp] def asI : Dt → Option Int
  | .int i => some i
  | _ => none
@[simp] def pS (f : DE) : DP := fun ρ k => (f ρ k).bind fun p => (asI p.1).bind fun i => some (some i, p.2)
theorem asI_some {d : Dt} {i : Int} (h : asI d = some i) : d = .int i := by
  cases d <;> simp [asI] at h
  rw [h]
def tPo (K : Fr) (m : Option Addr) (f : DP) : TO := fun σ H Q => ∃ F ρ k o k', Rl K m F ρ k σ H ∧ f ρ k = some (o, k') ∧ ∀ F' H', Grow m F H F' H' → Ctr m F' H' k' → Q o H'
theorem impPO {o : Option Expr} {t t' : TO} (h : PO X o t) (i : ∀ σ H Q, t' σ H Q → t σ H Q) : PO X o t' := ⟨fun pins s σ H Q I w => h.run pins s σ H Q I (i σ H Q w)⟩
theorem o_none : PO X none (tPo X.fr m pN) := impPO po_none fun σ H Q ⟨F, ρ, k, o, k', R, hf, q⟩ => by
  cases hf
  exact q F H (.refl R.sub) R.ctr
theorem o_some {f : DE} (h : PE X e (tO X.fr m f)) : PO X (some e) (tPo X.fr m (pS f)) := impPO (po_some h) fun σ H Q ⟨F, ρ, k, o, k', R, hf, q⟩ => by
  unfold pS at hf
  obtain ⟨⟨x, k1⟩, h1, hf⟩ := Option.bind_eq_some_iff.mp hf
  obtain ⟨i, h2, hf⟩ := Option.bind_eq_some_iff.mp hf
  cases hf
  cases asI_some h2
  exact ⟨F, ρ, k, _, k1, R, h1, fun v F' H' g c r => ⟨i, r.int, q F' H' g c⟩⟩
@[simp] def dSl (g : Dt → Option Int → Option Int → Option Dt) (f : DE) (l h : DP) : DE := fun ρ k => (f ρ k).bind fun p => (l ρ p.2).bind fun q => (h ρ q.2).bind fun r => (g p.1 q.1 r.1).bind fun d => some (d, r.2)
@[simp] def dSlL (g : Dt → Option Int → Option Int → Option (List Dt)) (f : DE) (l h : DP) : DL := fun ρ k => (f ρ k).bind fun p => (l ρ p.2).bind fun q => (h ρ q.2).bind fun r => (g p.1 q.1 r.1).bind fun d => some (d, r.2)
def rsD (K : Fr) (m : Option Addr) (g : Dt → Option Int → Option Int → Option Dt) : V → Option Int → Option Int → Hp → VK → Prop := fun x lo hi H Q => ∃ F k dx d, Ex F H ∧ Ctr m F H k ∧ Ro K m F H x dx ∧ g dx lo hi = some d ∧ ∀ v F' H', Grow m F H F' H' → Ctr m F' H' k → Rp K m F' v d → Q v H'
def rslD (K : Fr) (m : Option Addr) (g : Dt → Option Int → Option Int → Option (List Dt)) : V → Option Int → Option Int → Hp → VK → Prop := fun x lo hi H Q => ∃ F k dx ds, Ex F H ∧ Ctr m F H k ∧ Ro K m F H x dx ∧ g dx lo hi = some ds ∧ ∀ p vs H', H p = none → H' = upd H p (.lst vs) → RpA K m F vs ds → Q (.ref p) H'
theorem e_slice {p2} {lo hi : Option Expr} {g : Dt → Option Int → Option Int → Option Dt} {f : DE} {fl fh : DP} (hr : SlR X (rsD X.fr m g)) (he : PE X e (tO X.fr m f)) (hl : PO X lo (tPo X.fr m fl)) (hu : PO X hi (tPo X.fr m fh)) : PE X (.Subscript e (.Slice lo hi none p2) pos) (tE X.fr m (dSl g f fl fh)) :=
  impPE (pe_slice hr he hl hu) fun σ H Q ⟨F, ρ, k, d, k', R, hf, q⟩ => by
    unfold dSl at hf
    obtain ⟨⟨x, k1⟩, h1, hf⟩ := Option.bind_eq_some_iff.mp hf
    obtain ⟨⟨y, k2⟩, h2, hf⟩ := Option.bind_eq_some_iff.mp hf
    obtain ⟨⟨z, k3⟩, h3, hf⟩ := Option.bind_eq_some_iff.mp hf
    obtain ⟨w, h4, hf⟩ := Option.bind_eq_some_iff.mp hf
    cases hf
    refine ⟨F, ρ, k, x, k1, R, h1, fun v1 F1 H1 g1 c1 r1 => ⟨F1, ρ, k1, y, k2, R.grow g1 c1, h2, fun F2 H2 g2 c2 => ?_⟩⟩
    have g12 := g1.trans c1 g2
    exact ⟨F2, ρ, k2, z, k3, R.grow g12 c2, h3, fun F3 H3 g3 c3 => ⟨F3, k3, x, d, g3.fh, c3, (r1.grow g2).grow g3, h4, fun v F' H' g' c' r => q v F' H' ((g12.trans c2 g3).trans c3 g') c' r⟩⟩
theorem l_slice {p2} {lo hi : Option Expr} {g : Dt → Option Int → Option Int → Option (List Dt)} {f : DE} {fl fh : DP} (hr : SlR X (rslD X.fr m g)) (he : PE X e (tO X.fr m f)) (hl : PO X lo (tPo X.fr m fl)) (hu : PO X hi (tPo X.fr m fh)) : PE X (.Subscript e (.Slice lo hi none p2) pos) (tL X.fr m (dSlL g f fl fh)) :=
  impPE (pe_slice hr he hl hu) fun σ H Q ⟨F, ρ, k, d, k', R, hf, q⟩ => by
    unfold dSlL at hf
    obtain ⟨⟨x, k1⟩, h1, hf⟩ := Option.bind_eq_some_iff.mp hf
    obtain ⟨⟨y, k2⟩, h2, hf⟩ := Option.bind_eq_some_iff.mp hf
    obtain ⟨⟨z, k3⟩, h3, hf⟩ := Option.bind_eq_some_iff.mp hf
    obtain ⟨w, h4, hf⟩ := Option.bind_eq_some_iff.mp hf
    cases hf
    refine ⟨F, ρ, k, x, k1, R, h1, fun v1 F1 H1 g1 c1 r1 => ⟨F1, ρ, k1, y, k2, R.grow g1 c1, h2, fun F2 H2 g2 c2 => ?_⟩⟩
    have g12 := g1.trans c1 g2
    refine ⟨F2, ρ, k2, z, k3, R.grow g12 c2, h3, fun F3 H3 g3 c3 => ⟨F3, k3, x, d, g3.fh, c3, (r1.grow g2).grow g3, h4, fun p vs H' hp eh r => ?_⟩⟩
    subst eh
    have g13 := g12.trans c2 g3
    exact q p vs F3 _ (g13.trans c3 (Grow.laid g3.fh hp)) (c3.laid hp) (g13.back c3 hp) (ex_none g3.fh hp) upd_same r
end
end Dn

set_option Elab.async false
set_option linter.all false
set_option maxRecDepth 100000
set_option maxHeartbeats 1000000
namespace Dn
open PySem PySem.Spec PyProof.Rows L2 Evl

/-! ### what is walked -/
/-- the iterator J gives the data ds, frozen in F, one by one -/
structure Feeds (K : Fr) (m : Option Addr) (J : It) (ds : List Dt) (F : Hp) : Prop where
  go : ∀ (F' H : Hp) (i : Nat) (d : Dt) (k : Int), Ex F F' → Ex F' H → Ctr m F' H k → ds[i]? = some d → J.go i H ∧ ∀ x H', J.yld i H x H' → ∃ F'', Grow m F' H F'' H' ∧ Ctr m F'' H' k ∧ Rp K m F'' x d
  stop : ∀ (F' H : Hp), Ex F F' → Ex F' H → J.stop ds.length H
theorem Feeds.mono {K : Fr} {m : Option Addr} {J : It} {ds : List Dt} {F F1 : Hp} (h : Feeds K m J ds F) (e : Ex F F1) : Feeds K m J ds F1 :=
  ⟨fun F' H i d k e1 e2 c h1 => h.go F' H i d k (e.trans e1) e2 c h1, fun F' H e1 e2 => h.stop F' H (e.trans e1) e2⟩
def tIS (K : Fr) (m : Option Addr) (f : DL) : TI := fun σ H R => ∃ F ρ k ds k', Rl K m F ρ k σ H ∧ f ρ k = some (ds, k') ∧ ∀ J F' H', Grow m F H F' H' → Ctr m F' H' k' → Feeds K m J ds F' → R J H'
theorem impPI {X : Cx} {tg it : Expr} {t t' : TI} (h : PI X tg it t) (i : ∀ σ H R, t' σ H R → t σ H R) : PI X tg it t' := ⟨fun pins s σ H R I w => h.run pins s σ H R I (i σ H R w)⟩
theorem feeds_list {K : Fr} {m : Option Addr} {F : Hp} {a : Addr} {xs : List V} {ds : List Dt} (h : SqL K.K F a xs) (r : RpA K m F xs ds) (inj : ∀ H ys, Ex F H → SqL K.K H a ys → ys = xs) : Feeds K m (Itl K.K a) ds F where
  go := fun F' H i d k e1 e2 c h1 => by
    obtain ⟨v, hv, rv⟩ := r.get h1
    refine ⟨⟨xs, v, ex_l (e1.trans e2) h, hv⟩, fun x H' hy => ?_⟩
    obtain ⟨rfl, f⟩ := hy
    have ex := f xs (ex_l (e1.trans e2) h)
    rw [hv] at ex
    cases ex
    exact ⟨F', .refl e2, c, rv.mono e1⟩
  stop := fun F' H e1 e2 => ⟨xs, ex_l (e1.trans e2) h, by rw [r.length]; exact Nat.le_refl _⟩
theorem feeds_tup {K : Fr} {m : Option Addr} {F : Hp} {a : Addr} {xs : List V} {ds : List Dt} (h : SqT K.K F a xs) (r : RpA K m F xs ds) : Feeds K m (Itt K.K a) ds F where
  go := fun F' H i d k e1 e2 c h1 => by
    obtain ⟨v, hv, rv⟩ := r.get h1
    refine ⟨⟨xs, v, ex_t (e1.trans e2) h, hv⟩, fun x H' hy => ?_⟩
    obtain ⟨rfl, f⟩ := hy
    have ex := f xs (ex_t (e1.trans e2) h)
    rw [hv] at ex
    cases ex
    exact ⟨F', .refl e2, c, rv.mono e1⟩
  stop := fun F' H e1 e2 => ⟨xs, ex_t (e1.trans e2) h, by rw [r.length]; exact Nat.le_refl _⟩
def signD (c : Nat) : Dt := .str ⟨#[c]⟩
theorem feeds_str {K : Fr} {m : Option Addr} {F : Hp} (x : Str) : Feeds K m (Its x) (x.cps.toList.map signD) F where
  go := fun F' H i d k e1 e2 c h1 => by
    rw [List.getElem?_map] at h1
    cases hc : x.cps.toList[i]? with
    | none =>
      rw [hc] at h1
      cases h1
    | some z =>
      rw [hc] at h1
      cases h1
      have hi : i < x.cps.size := by
        have := (List.getElem?_eq_some_iff.mp hc).1
        simpa using this
      refine ⟨hi, fun v H' hy => ?_⟩
      obtain ⟨rfl, z', hz, rfl⟩ := hy
      rw [← Array.getElem?_toList, hc] at hz
      cases hz
      exact ⟨F', .refl e2, c, .str _⟩
  stop := fun F' H e1 e2 => by
    show x.cps.size ≤ (x.cps.toList.map signD).length
    simp
theorem feeds_range {K : Fr} {m : Option Addr} {F : Hp} (lo : Int) (n : Nat) : Feeds K m (Itr lo n) ((List.range n).map fun (i : Nat) => PyData.int (lo + (i : Int))) F where
  go := fun F' H i d k e1 e2 c h1 => by
    rw [List.getElem?_map] at h1
    by_cases hi : i < n
    · rw [List.getElem?_range hi] at h1
      cases h1
      refine ⟨hi, fun v H' hy => ?_⟩
      obtain ⟨rfl, rfl⟩ := hy
      exact ⟨F', .refl e2, c, .int _⟩
    · rw [List.getElem?_eq_none (by simpa using hi)] at h1
      cases h1
  stop := fun F' H e1 e2 => by
    show n ≤ _
    simp
/-- the items of a list, a tuple; the signs of a text -/
@[simp] def gItems : Dt → Option (List Dt)
  | .list ds => some ds
  | .tuple ds => some ds
  | .str x => some (x.cps.toList.map signD)
  | .dict ((.none, .bool true) :: l) => some (l.map (·.1))
  | _ => none
/-- a tuple that is met in the whole heap is shared data -/
theorem meet_tup {m : Option Addr} {F H : Hp} {k : Int} {q : Addr} {xs : List V} (e : Ex F H) (c : Ctr m F H k) (h : H q = some (.tup xs)) : ∃ F', Grow m F H F' H ∧ Ctr m F' H k ∧ F' q = some (.tup xs) := by
  cases z : F q with
  | some o =>
    have := e _ _ z
    rw [h] at this
    cases this
    exact ⟨F, .refl e, c, z⟩
  | none =>
    have hm : m ≠ some q := fun em => by
      rw [(c q em).1] at h
      cases h
    refine ⟨upd F q (.tup xs), ⟨Ex.new z, fun a u w => ?_, fun a w => ?_, fun _ _ _ w => w⟩, c.freeze hm, upd_same⟩
    · by_cases e1 : a = q
      · subst e1
        rw [upd_same] at w
        cases w
        exact h
      · rw [upd_ne e1] at w
        exact e _ _ w
    · by_cases e1 : a = q
      · subst e1
        exact .inr (.inr ⟨xs, h⟩)
      · rw [upd_ne e1] at w
        exact .inl w
theorem RpA.keys {K : Fr} {m : Option Addr} {F : Hp} : ∀ (k : List Key), RpA K m F (k.map kV) (k.map keyD)
  | [] => .nil
  | .inl i :: k => .cons (.int i) (RpA.keys k)
  | .inr x :: k => .cons (.str x) (RpA.keys k)
theorem feeds_keys {K : Fr} {m : Option Addr} {F : Hp} {a : Addr} {o : Obj} {kvs : List (List Key × V)} (h : F a = some (.frz o (.dT kvs))) : Feeds K m (Itkt a o kvs) (kvs.map fun p => tkD p.1) F where
  go := fun F' H i d k e1 e2 c hd => by
    rw [List.getElem?_map] at hd
    obtain ⟨p, hp, rfl⟩ := Option.map_eq_some_iff.mp hd
    refine ⟨⟨e2 _ _ (e1 _ _ h), (List.getElem?_eq_some_iff.mp hp).1⟩, fun x H' ⟨eH, k', v, q, hk, ex, hq⟩ => ?_⟩
    subst eH ex
    rw [hp] at hk
    cases hk
    obtain ⟨F'', g, c', fq⟩ := meet_tup e2 c hq
    exact ⟨F'', g, c', .tup (.new fq) (RpA.keys _)⟩
  stop := fun F' H e1 e2 => ⟨e2 _ _ (e1 _ _ h), by rw [List.length_map]; exact Nat.le_refl _⟩
theorem gItems_dict {l : List (Dt × Dt)} {es : List Dt} (h : gItems (.dict l) = some es) : ∃ l', l = (.none, .bool true) :: l' ∧ es = l'.map (·.1) := by
  unfold gItems at h
  split at h
  · rename_i e1
    cases e1
  · rename_i e1
    cases e1
  · rename_i e1
    cases e1
  · rename_i l' e1
    cases e1
    cases h
    exact ⟨l', rfl, rfl⟩
  · cases h
@[simp] def dItems (f : DE) : DL := fun ρ k => (f ρ k).bind fun p => (gItems p.1).bind fun ds => some (ds, p.2)
section
variable {X : Cx} {m : Option Addr} {a b e tg : Expr} {es : List Expr} {pos : Pos}
theorem i_seq {f : DE} (h : PE X e (tE X.fr m f)) : PI X tg e (tIS X.fr m (dItems f)) := by
  refine ⟨fun pins s σ H R I w => ?_⟩
  obtain ⟨F, ρ, k, ds, k', Rl1, hf, q⟩ := w
  unfold dItems at hf
  obtain ⟨⟨d, k1⟩, h1, hf⟩ := Option.bind_eq_some_iff.mp hf
  obtain ⟨es, h2, hf⟩ := Option.bind_eq_some_iff.mp hf
  cases hf
  cases d with
  | list xs =>
    cases h2
    refine (pi_list h).run pins s σ H R I ⟨F, ρ, k, _, k1, Rl1, h1, fun v F' H' g c r => ?_⟩
    cases r with
    | lst hl r =>
      exact ⟨_, rfl, ⟨_, ex_l g.fh hl⟩, q _ F' H' g c ⟨fun F2 H2 i d k e1 e2 c2 h3 => by
        obtain ⟨v, hv, rv⟩ := r.get h3
        refine ⟨⟨_, v, ex_l (e1.trans e2) hl, hv⟩, fun x H3 hy => ?_⟩
        obtain ⟨rfl, f⟩ := hy
        have ex := f _ (ex_l (e1.trans e2) hl)
        rw [hv] at ex
        cases ex
        exact ⟨F2, .refl e2, c2, rv.mono e1⟩, fun F2 H2 e1 e2 => ⟨_, ex_l (e1.trans e2) hl, by
        rw [r.length]
        exact Nat.le_refl _⟩⟩⟩
  | tuple xs =>
    cases h2
    refine (pi_tup h).run pins s σ H R I ⟨F, ρ, k, _, k1, Rl1, h1, fun v F' H' g c r => ?_⟩
    cases r with
    | tup hl r => exact ⟨_, rfl, ⟨_, ex_t g.fh hl.sq⟩, q _ F' H' g c (feeds_tup hl.sq r)⟩
  | str x =>
    cases h2
    refine (pi_str h).run pins s σ H R I ⟨F, ρ, k, _, k1, Rl1, h1, fun v F' H' g c r => ?_⟩
    cases r
    exact ⟨x, rfl, q _ F' H' g c (feeds_str x)⟩
  | dict l =>
    obtain ⟨l', rfl, rfl⟩ := gItems_dict h2
    · refine (pi_keys h).run pins s σ H R I ⟨F, ρ, k, _, k1, Rl1, h1, fun v F' H' g c r => ?_⟩
      obtain ⟨a, o, kvs, ds, rfl, hF, ra, el⟩ := Rp.dT_of r
      refine ⟨a, o, rfl, .inr ⟨kvs, g.fh _ _ hF, q _ F' H' g c ?_⟩⟩
      have hz : l'.map (·.1) = kvs.map fun p => tkD p.1 := by
        rw [el, List.map_fst_zip]
        have := ra.length
        simp only [List.length_map] at this ⊢
        omega
      rw [hz]
      exact feeds_keys hF
  | _ => cases h2
@[simp] def gRange1 : List Dt → Option (List Dt)
  | [.int n] => if 0 ≤ n ∧ n ≤ 1000000 then some ((List.range n.toNat).map fun (i : Nat) => PyData.int (i : Int)) else none
  | _ => none
def gRange2 : List Dt → Option (List Dt)
  | [.int a, .int b] => if -1000000 ≤ a ∧ a ≤ 1000000 ∧ -1000000 ≤ b ∧ b ≤ 1000000 then some ((List.range (b - a).toNat).map fun (i : Nat) => PyData.int (a + (i : Int))) else none
  | _ => none
theorem i_range1 {f : DL} {p : Pos} (hm : X.mg "range" = none) (ha : PA X [a] (tAo X.fr m f)) (hg : Gl X "range" := by rfl) (hs : starEach [a] X.env = [(false, eval a X.env)] := by rfl) : PI X tg (.Call (.Name "range" p) [a] [] pos) (tIS X.fr m (dNL gRange1 f)) :=
  impPI (pi_range1 hg hm ha hs) fun σ H R ⟨F, ρ, k, ds, k', Rl1, hf, q⟩ => by
    unfold dNL at hf
    obtain ⟨⟨d, k1⟩, h1, hf⟩ := Option.bind_eq_some_iff.mp hf
    obtain ⟨es, h2, hf⟩ := Option.bind_eq_some_iff.mp hf
    cases hf
    unfold gRange1 at h2
    split at h2
    · rename_i n e1
      split at h2
      · rename_i hn
        cases h2
        simp only at e1
        subst e1
        refine ⟨F, ρ, k, _, k1, Rl1, h1, fun vs F' H' g c r => ?_⟩
        cases r with
        | cons h r =>
          cases r
          rw [h.int]
          exact ⟨n, rfl, by omega, by omega, q _ F' H' g c (by
            have z := feeds_range (K := X.fr) (m := m) (F := F') 0 n.toNat
            simpa using z)⟩
      · cases h2
    · cases h2
end
end Dn

set_option Elab.async false
set_option linter.all false
set_option maxRecDepth 100000
set_option maxHeartbeats 1000000
namespace Dn
open PySem PySem.Spec PyProof.Rows L2 Evl

/-! ### targets -/
abbrev DG := Ev → Dt → Option Ev
abbrev DGs := Ev → List Dt → Option Ev
@[simp] def gSet (i : Nat) : DG := fun ρ d => some (ρ.set i (.sh d))
@[simp] def gNilD : DGs := fun ρ ds => match ds with
  | [] => some ρ
  | _ :: _ => none
@[simp] def gConsD (g : DG) (gs : DGs) : DGs := fun ρ ds => match ds with
  | [] => none
  | d :: ds => (g ρ d).bind fun ρ' => gs ρ' ds
@[simp] def gTupG (n : Nat) (gs : DGs) : DG := fun ρ d => match d with
  | .tuple ds => if ds.length = n then gs ρ ds else none
  | .list ds => if ds.length = n then gs ρ ds else none
  | _ => none

section
variable {K : Fr} {m : Option Addr} {F H : Hp} {ρ : Ev} {k : Int} {σ : L2.St}
theorem own_set_sh {i j : Nat} {d : Dt} {v : V} {p : Addr} (h : Own (ρ.set i (.sh d)) (σ.set i (some v)) j p) : Own ρ σ j p ∧ j ≠ i := by
  obtain ⟨c, h1, h2, h3⟩ := h
  by_cases e : i = j
  · subst e
    by_cases hl : i < ρ.length
    · rw [List.getElem?_set_self hl] at h1
      cases h1
      cases h2
    · rw [List.getElem?_eq_none (by simpa using hl)] at h1
      cases h1
  · rw [List.getElem?_set_ne e] at h1 h3
    exact ⟨⟨c, h1, h2, h3⟩, fun z => e z.symm⟩
theorem Rl.set_sh (R : Rl K m F ρ k σ H) {i : Nat} {d : Dt} {v : V} (r : Rp K m F v d) : Rl K m F (ρ.set i (.sh d)) k (σ.set i (some v)) H where
  sub := R.sub
  ctr := R.ctr
  len := by rw [List.length_set, List.length_set, R.len]
  sh := fun j e h => by
    by_cases z : i = j
    · subst z
      by_cases hl : i < ρ.length
      · rw [List.getElem?_set_self hl] at h
        cases h
        exact ⟨v, by rw [List.getElem?_set_self (by rw [← R.len]; exact hl)], r⟩
      · rw [List.getElem?_eq_none (by simpa using hl)] at h
        cases h
    · rw [List.getElem?_set_ne z] at h ⊢
      exact R.sh j e h
  ow := fun j c h hc => by
    by_cases z : i = j
    · subst z
      by_cases hl : i < ρ.length
      · rw [List.getElem?_set_self hl] at h
        cases h
        cases hc
      · rw [List.getElem?_eq_none (by simpa using hl)] at h
        cases h
    · rw [List.getElem?_set_ne z] at h ⊢
      exact R.ow j c h hc
  sep := fun a b p h1 h2 => R.sep a b p (own_set_sh h1).1 (own_set_sh h2).1
end

def tGd (K : Fr) (m : Option Addr) (tch : List Nat) (g : DG) : TG := fun v σ H Q => ∃ F ρ k d ρ', Rl K m F ρ k σ H ∧ Rp K m F v d ∧ g ρ d = some ρ' ∧
  ∀ σ', Rl K m F ρ' k σ' H → (∀ j, j ∉ tch → σ'[j]? = σ[j]?) → σ'.length = σ.length → (∀ i p, Own ρ' σ' i p → Own ρ σ i p) → Q σ' H
def tGs (K : Fr) (m : Option Addr) (tch : List Nat) (g : DGs) : TGs := fun vs σ H Q => ∃ F ρ k ds ρ', Rl K m F ρ k σ H ∧ RpA K m F vs ds ∧ g ρ ds = some ρ' ∧
  ∀ σ', Rl K m F ρ' k σ' H → (∀ j, j ∉ tch → σ'[j]? = σ[j]?) → σ'.length = σ.length → (∀ i p, Own ρ' σ' i p → Own ρ σ i p) → Q σ' H
section
variable {X : Cx} {m : Option Addr} {a b e tg : Expr} {es : List Expr} {pos : Pos}
theorem impPG {t t' : TG} (h : PG X tg t) (i : ∀ v σ H Q, t' v σ H Q → t v σ H Q) : PG X tg t' := ⟨fun pins s σ H v u Q I r w => h.run pins s σ H v u Q I r (i v σ H Q w)⟩
theorem impPGs {t t' : TGs} (h : PGs X es t) (i : ∀ v σ H Q, t' v σ H Q → t v σ H Q) : PGs X es t' := ⟨fun pins s σ H v u Q I r w => h.run pins s σ H v u Q I r (i v σ H Q w)⟩
theorem g_name (i : Nat) {x : Str} (hN : X.N.Nodup) (hi : X.N[i]? = some x := by rfl) (hx : Loc X.env.scope x := by first | exact .inl rfl | exact .inr rfl) (hf : X.fn x = true ∨ X.env.scope.names.lookup x = some .local := by first | exact .inl rfl | exact .inr rfl | assumption) : PG X (.Name x pos) (tGd X.fr m [i] (gSet i)) :=
  impPG (pg_name (i := i) hN hi hx hf) fun v σ H Q ⟨F, ρ, k, d, ρ', R, r, hg, q⟩ => by
    cases hg
    exact q (σ.set i (some v)) (R.set_sh r) (fun j hj => List.getElem?_set_ne (fun z => hj (by simp [z]))) (List.length_set ..) fun j p h => (own_set_sh h).1
theorem gs_nil : PGs X [] (tGs X.fr m [] gNilD) := impPGs pgs_nil fun v σ H Q ⟨F, ρ, k, d, ρ', R, r, hg, q⟩ => by
  cases r with
  | nil =>
    cases hg
    exact ⟨rfl, q σ R (fun _ _ => rfl) rfl fun _ _ h => h⟩
  | cons _ _ => cases hg
theorem gs_cons {t1 t2 : List Nat} {g : DG} {gs : DGs} (h1 : PG X e (tGd X.fr m t1 g)) (h2 : PGs X es (tGs X.fr m t2 gs)) (hs : (assignEach (e :: es) X.env).map (·.2) = assign e X.env :: (assignEach es X.env).map (·.2) := by rfl) :
    PGs X (e :: es) (tGs X.fr m (t1 ++ t2) (gConsD g gs)) := impPGs (pgs_cons h1 h2 hs) fun v σ H Q ⟨F, ρ, k, d, ρ', R, r, hg, q⟩ => by
  cases r with
  | nil => cases hg
  | cons r rs =>
    unfold gConsD at hg
    obtain ⟨ρ1, e1, hg⟩ := Option.bind_eq_some_iff.mp hg
    exact ⟨_, _, rfl, F, ρ, k, _, ρ1, R, r, e1, fun σ1 R1 w1 l1 o1 => ⟨F, ρ1, k, _, ρ', R1, rs, hg, fun σ2 R2 w2 l2 o2 => q σ2 R2 (fun j hj => (w2 j (fun z => hj (List.mem_append_right _ z))).trans (w1 j (fun z => hj (List.mem_append_left _ z)))) (l2.trans l1) fun i p h => o1 i p (o2 i p h)⟩⟩
theorem g_tup {k n : Nat} {t : List Nat} {gs : DGs} (hc : X.calm = true) (h : PGs X es (tGs X.fr m t gs)) (hn : (assignEach es X.env).length = n := by rfl) (hst : (assignEach es X.env).findIdx? (·.1) = none := by rfl) : PG X (.Tuple es k pos) (tGd X.fr m t (gTupG n gs)) := by
  refine ⟨fun pins s σ H v u Q I rv ⟨F, ρ, k, d, ρ', R, r, hg, q⟩ => ?_⟩
  unfold gTupG at hg
  cases d with
  | tuple ds =>
    simp only at hg
    split at hg
    · rename_i hl
      cases r with
      | tup ht r => exact (pg_tup (n := n) hc h hn hst).run pins s σ H _ u Q I rv ⟨_, _, rfl, ex_t R.sub ht.sq, by rw [r.length]; exact hl, F, ρ, k, ds, ρ', R, r, hg, q⟩
    · cases hg
  | list ds =>
    simp only at hg
    split at hg
    · rename_i hl
      cases r with
      | lst ht r => exact (pg_unl (n := n) hc h hn hst).run pins s σ H _ u Q I rv ⟨_, _, rfl, ex_l R.sub ht, by rw [r.length]; exact hl, F, ρ, k, ds, ρ', R, r, hg, q⟩
    · cases hg
  | _ => cases hg
end

/-! ### list comprehensions -/
@[simp] def wipeE (ρ : Ev) : List Nat → Ev
  | [] => ρ
  | v :: vs => (wipeE ρ vs).set v .un
section
variable {K : Fr} {m : Option Addr} {F H F1 H1 : Hp} {ρ : Ev} {k : Int} {σ : L2.St}
theorem own_set_un {i j : Nat} {p : Addr} {x : Option V} (h : Own (ρ.set i .un) (σ.set i x) j p) : Own ρ σ j p := by
  obtain ⟨c, h1, h2, h3⟩ := h
  by_cases e : i = j
  · subst e
    by_cases hl : i < ρ.length
    · rw [List.getElem?_set_self hl] at h1
      cases h1
      cases h2
    · rw [List.getElem?_eq_none (by simpa using hl)] at h1
      cases h1
  · rw [List.getElem?_set_ne e] at h1 h3
    exact ⟨c, h1, h2, h3⟩
theorem Rl.set_un (R : Rl K m F ρ k σ H) {i : Nat} {x : Option V} : Rl K m F (ρ.set i .un) k (σ.set i x) H where
  sub := R.sub
  ctr := R.ctr
  len := by rw [List.length_set, List.length_set, R.len]
  sh := fun j e h => by
    by_cases z : i = j
    · subst z
      by_cases hl : i < ρ.length
      · rw [List.getElem?_set_self hl] at h
        cases h
      · rw [List.getElem?_eq_none (by simpa using hl)] at h
        cases h
    · rw [List.getElem?_set_ne z] at h ⊢
      exact R.sh j e h
  ow := fun j c h hc => by
    by_cases z : i = j
    · subst z
      by_cases hl : i < ρ.length
      · rw [List.getElem?_set_self hl] at h
        cases h
        cases hc
      · rw [List.getElem?_eq_none (by simpa using hl)] at h
        cases h
    · rw [List.getElem?_set_ne z] at h ⊢
      exact R.ow j c h hc
  sep := fun a b p h1 h2 => R.sep a b p (own_set_un h1) (own_set_un h2)
theorem Rl.wipe (R : Rl K m F ρ k σ H) : ∀ vs : List Nat, Rl K m F (wipeE ρ vs) k (L2.wipe σ vs) H
  | [] => R
  | v :: vs => (Rl.wipe R vs).set_un
theorem wipe_get {σ : L2.St} {j : Nat} : ∀ {vs : List Nat}, (L2.wipe σ vs)[j]? = if j ∈ vs ∧ j < σ.length then some none else σ[j]?
  | [] => by simp [L2.wipe]
  | v :: vs => by
    unfold L2.wipe
    by_cases e : v = j
    · subst e
      by_cases hl : v < σ.length
      · rw [List.getElem?_set_self (by rw [wipe_length]; exact hl), if_pos ⟨by simp, hl⟩]
      · rw [List.getElem?_eq_none (by rw [List.length_set, wipe_length]; omega), if_neg (fun z => hl z.2), List.getElem?_eq_none (by omega)]
    · rw [List.getElem?_set_ne e, wipe_get (vs := vs)]
      have : (j ∈ v :: vs) ↔ j ∈ vs := by simp [show j ≠ v from fun z => e z.symm]
      simp only [this]
theorem wipe_again {σ σ' : L2.St} {vs t : List Nat} (ht : ∀ j, j ∈ t → j ∈ vs) (hl : σ'.length = (L2.wipe σ vs).length) (h : ∀ j, j ∉ t → σ'[j]? = (L2.wipe σ vs)[j]?) : L2.wipe σ' vs = L2.wipe σ vs := by
  apply List.ext_getElem?
  intro j
  rw [wipe_get]
  by_cases hj : j ∈ vs ∧ j < σ'.length
  · rw [if_pos hj, wipe_get, if_pos ⟨hj.1, by rw [wipe_length] at hl; omega⟩]
  · rw [if_neg hj]
    by_cases hjt : j ∈ t
    · have hn : ¬ j < σ'.length := fun z => hj ⟨ht j hjt, z⟩
      rw [List.getElem?_eq_none (by omega), List.getElem?_eq_none (by omega)]
    · exact h j hjt
theorem Grow.mut {p : Addr} {o : HO} (g : Grow m F H F1 H1) (hp : H p = none) (fp : F1 p = none) : Grow m F H F1 (upd H1 p o) where
  ff := g.ff
  fh := fun a u h => by
    rw [upd_ne (ne_of_none h fp)]
    exact g.fh a u h
  nw := g.nw
  hh := fun a u e h => by
    rw [upd_ne (ne_of_none h hp)]
    exact g.hh a u e h
theorem Ctr.mut {p : Addr} {o : HO} (c : Ctr m F H k) (hp : m ≠ some p) : Ctr m F (upd H p o) k := fun a e => by
  rw [upd_ne (fun z => hp (by rw [← z]; exact e))]
  exact c a e
end
def lcLoop (ρ : Ev) (g : DG) (t : DT) (e : DE) : List Dt → Int → Option (List Dt × Int)
  | [], k => some ([], k)
  | d :: ds, k => (g ρ d).bind fun ρ' => (t ρ' k).bind fun q => if q.1 = true then (e ρ' q.2).bind fun r => (lcLoop ρ g t e ds r.2).bind fun s => some (r.1 :: s.1, s.2) else lcLoop ρ g t e ds q.2
@[simp] def tAll : DT := fun _ k => some (true, k)
@[simp] def dLc (src : DL) (vs : List Nat) (g : DG) (t : DT) (e : DE) : DL := fun ρ k => (src ρ k).bind fun p => if p.1.length ≤ 1000000 then lcLoop (wipeE ρ vs) g t e p.1 p.2 else none
theorem lc_in {K : Fr} {m : Option Addr} {src : DL} {vs tch : List Nat} {g : DG} {t : DT} {e : DE} {σ : L2.St} {H : Hp} {Q : VK} (ht : ∀ j, j ∈ tch → j ∈ vs) (w : tL K m (dLc src vs g t e) σ H Q) :
    tLc (tIS K m src) (tGd K m tch g) (tT K m t) (tE K m e) vs σ H Q := by
  obtain ⟨F, ρ, k, out, k', R, hf, q⟩ := w
  unfold dLc at hf
  obtain ⟨⟨ds, k1⟩, h1, hf⟩ := Option.bind_eq_some_iff.mp hf
  simp only at hf
  split at hf
  · rename_i hlen
    refine ⟨F, ρ, k, ds, k1, R, h1, fun J F1 H1 g1 c1 fd D hD => ?_⟩
    let W : Nat → Nat → Hp → Prop := fun i n H2 => n + i = ds.length ∧ ∃ F2 k2 acc av rest, Grow m F1 H1 F2 H2 ∧ Ctr m F2 H2 k2 ∧ F2 D = none ∧ H2 D = some (.lst av) ∧ RpA K m F2 av acc ∧ acc.length ≤ i ∧ lcLoop (wipeE ρ vs) g t e (ds.drop i) k2 = some (rest, k') ∧ acc ++ rest = out
    refine ⟨W, ⟨ds.length, by omega, F1, k1, [], [], out, Grow.laid g1.fh hD, c1.laid hD, ex_none g1.fh hD, upd_same, .nil, Nat.le_refl _, hf, rfl⟩, fun i n H2 hW => ?_⟩
    obtain ⟨hn, F2, k2, acc, av, rest, g2, c2, fD, eD, ra, hal, hl, ho⟩ := hW
    have R2 : Rl K m F2 (wipeE ρ vs) k2 (L2.wipe σ vs) H2 := (R.wipe vs).grow (g1.trans c1 g2) c2
    have hmD : m ≠ some D := c1.ne hD
    cases hds : ds[i]? with
    | none =>
      have hi : ds.length ≤ i := List.getElem?_eq_none_iff.mp hds
      have hi2 : i = ds.length := by omega
      subst hi2
      rw [List.drop_length] at hl
      cases hl
      rw [List.append_nil] at ho
      subst ho
      exact .inl ⟨(fd.mono g2.ff).stop F2 H2 (Ex.refl _) g2.fh, q D av F2 H2 (g1.trans c1 g2) c2 (g1.back c1 hD) fD eD ra⟩
    | some d =>
      obtain ⟨hgo, hyl⟩ := (fd.mono g2.ff).go F2 H2 i d k2 (Ex.refl _) g2.fh c2 hds
      have hi : i < ds.length := (List.getElem?_eq_some_iff.mp hds).1
      rw [List.drop_eq_getElem_cons hi] at hl
      have ed : ds[i] = d := by
        rw [List.getElem?_eq_getElem hi] at hds
        exact Option.some.inj hds
      rw [ed] at hl
      unfold lcLoop at hl
      obtain ⟨ρ', hg, hl⟩ := Option.bind_eq_some_iff.mp hl
      obtain ⟨⟨b, k3⟩, htst, hl⟩ := Option.bind_eq_some_iff.mp hl
      refine .inr ⟨hgo, fun H' => W (i + 1) (n - 1) H', fun H' h => ⟨n - 1, by omega, h⟩, fun x H3 hy => ?_⟩
      obtain ⟨F3, g3, c3, rx⟩ := hyl x H3 hy
      have R3 := R2.grow g3 c3
      refine ⟨F3, wipeE ρ vs, k2, d, ρ', R3, rx, hg, fun σ' Rs w1 l1 _ => ⟨wipe_again ht l1 w1, ?_⟩⟩
      refine ⟨F3, ρ', k2, b, k3, Rs, htst, fun F4 H4 g4 c4 => ?_⟩
      have g34 := g3.trans c3 g4
      have g14 := g2.trans c2 g34
      have eD4 : H4 D = some (.lst av) := g34.hh D _ hmD eD
      have fD4 : F4 D = none := g34.f_none fD eD
      cases b with
      | false =>
        refine ⟨by omega, F4, k3, acc, av, rest, g14, c4, fD4, eD4, ra.mono g34.ff, by omega, hl, ho⟩
      | true =>
        simp only [if_true] at hl
        obtain ⟨⟨y, k5⟩, he, hl⟩ := Option.bind_eq_some_iff.mp hl
        obtain ⟨⟨rest2, k6⟩, hl2, hl⟩ := Option.bind_eq_some_iff.mp hl
        cases hl
        refine ⟨F4, ρ', k3, y, k5, Rs.grow g4 c4, he, fun vy F5 H5 g5 c5 ry => ?_⟩
        have eD5 : H5 D = some (.lst av) := g5.hh D _ hmD eD4
        have fD5 : F5 D = none := g5.f_none fD4 eD4
        refine ⟨av, eD5, ?_, by omega, F5, k5, acc ++ [y], av ++ [vy], rest2, (g14.trans c4 g5).mut hD fD5, c5.mut hmD, fD5, upd_same, ((ra.mono g34.ff).mono g5.ff).append (.cons ry .nil), by rw [List.length_append]; exact Nat.add_le_add_right hal 1, hl2, by rw [List.append_assoc]; exact ho⟩
        rw [ra.length]
        exact Nat.lt_of_lt_of_le (Nat.lt_of_le_of_lt hal hi) (small_line hlen)
  · cases hf
end Dn

set_option Elab.async false
set_option linter.all false
set_option maxRecDepth 100000
set_option maxHeartbeats 1000000
namespace Dn
open PySem PySem.Spec PyProof.Rows L2 Evl

section
variable {X : Cx} {m : Option Addr} {a b e tg it : Expr} {es : List Expr} {pos : Pos}
theorem impPTs {ifs : List Expr} {t t' : TT} (h : PTs X ifs t) (i : ∀ σ H Q, t' σ H Q → t σ H Q) : PTs X ifs t' := ⟨fun pins s σ H Q I w => h.run pins s σ H Q I (i σ H Q w)⟩
theorem ts_nil : PTs X [] (tT X.fr m tAll) := impPTs pts_nil fun σ H Q ⟨F, ρ, k, b, k', R, hf, q⟩ => by
  cases hf
  exact q F H (.refl R.sub) R.ctr
theorem ts_one {c : Expr} {f : DT} (h : PT X c (tT X.fr m f)) : PTs X [c] (tT X.fr m f) := pts_one h
theorem l_lc {elt : Expr} {ifs : List Expr} {scope : Scope} {own : List (Str × Nat)} {src : DL} {tch : List Nat} {g : DG} {t : DT} {f : DE} (hc : X.calm = true) (hN : X.N.Nodup) (ok : blkC X.N X.env.scope scope own = true) (ht0 : ∀ j, j ∈ tch → j ∈ own.map (·.2)) (hi : PI X tg it (tIS X.fr m src))
    (hg : ∀ (s : Shared) (H : Hp) (C : Addr) (cl : List (Str × Addr)) (fp : List Addr), PG (X.blk s H scope (compEnvC scope cl C X.env) fp) tg (tGd X.fr m tch g)) (ht : ∀ (s : Shared) (H : Hp) (C : Addr) (cl : List (Str × Addr)) (fp : List Addr), PTs (X.blk s H scope (compEnvC scope cl C X.env) fp) ifs (tT X.fr m t))
    (he : ∀ (s : Shared) (H : Hp) (C : Addr) (cl : List (Str × Addr)) (fp : List Addr), PE (X.blk s H scope (compEnvC scope cl C X.env) fp) elt (tE X.fr m f)) (hs : ∀ x, foldedSetIterable it X.env x = pure x := by intro _; rfl) :
    PE X (.ListComp elt [⟨tg, it, ifs, 0⟩] scope pos) (tL X.fr m (dLc src (own.map (·.2)) g t f)) := impPE (pe_lc hc hN hi (blkOk_by ok) hg ht he hs) fun _ _ _ w => lc_in ht0 w

/-! ### statements -/
end
inductive Out where
  | next (ρ : Ev) (k : Int)
  | ret (d : Dt) (k : Int)
  | retL (ds : List Dt) (k : Int)
  | brk (ρ : Ev) (k : Int)
  | cont (ρ : Ev) (k : Int)
  | exc (c : Str) (ρ : Ev) (k : Int)
abbrev DS := Ev → Int → Option Out
structure Rs (K : Fr) (m : Option Addr) (F0 H0 F : Hp) (ρ : Ev) (k : Int) (σ : L2.St) (H : Hp) : Prop where
  rl : Rl K m F ρ k σ H
  gr : Grow m F0 H0 F H
  own : ∀ i p, Own ρ σ i p → H0 p = none
abbrev WE := Str → L2.St → Hp → Prop
def Post (K : Fr) (m : Option Addr) (F0 H0 : Hp) (W : WE) (D : Ends) (Fb : Hp) : Out → Prop
  | .next ρ k => ∀ σ F H, Ex Fb F → Rs K m F0 H0 F ρ k σ H → D.nx σ H
  | .brk ρ k => ∀ σ F H, Ex Fb F → Rs K m F0 H0 F ρ k σ H → D.bk σ H
  | .cont ρ k => ∀ σ F H, Ex Fb F → Rs K m F0 H0 F ρ k σ H → D.ct σ H
  | .ret d k => ∀ v F H, Grow m F0 H0 F H → Ctr m F H k → Rp K m F v d → D.rt v H
  | .retL ds k => ∀ p vs F H, Grow m F0 H0 F H → Ctr m F H k → H0 p = none → F p = none → H p = some (.lst vs) → RpA K m F vs ds → D.rt (.ref p) H
  | .exc c ρ k => ∀ σ F H, Ex Fb F → Rs K m F0 H0 F ρ k σ H → W c σ H
def tS (K : Fr) (m : Option Addr) (F0 H0 : Hp) (W : WE) (f : DS) : TS := fun D σ H => ∃ F ρ k out, Rs K m F0 H0 F ρ k σ H ∧ f ρ k = some out ∧ Post K m F0 H0 W D F out
theorem Post.mono {K : Fr} {m : Option Addr} {F0 H0 : Hp} {W : WE} {D : Ends} {F F' : Hp} (e : Ex F F') : ∀ {out : Out}, Post K m F0 H0 W D F out → Post K m F0 H0 W D F' out
  | .next _ _, q => fun σ F1 H e1 R => q σ F1 H (e.trans e1) R
  | .brk _ _, q => fun σ F1 H e1 R => q σ F1 H (e.trans e1) R
  | .cont _ _, q => fun σ F1 H e1 R => q σ F1 H (e.trans e1) R
  | .ret _ _, q => q
  | .retL _ _, q => q
  | .exc _ _ _, q => fun σ F1 H e1 R => q σ F1 H (e.trans e1) R
section
variable {K : Fr} {m : Option Addr} {F0 H0 F H F' H' : Hp} {ρ : Ev} {k k' : Int} {σ : L2.St}
theorem Rs.grow (R : Rs K m F0 H0 F ρ k σ H) (g : Grow m F H F' H') (c : Ctr m F' H' k') : Rs K m F0 H0 F' ρ k' σ H' := ⟨R.rl.grow g c, R.gr.trans R.rl.ctr g, R.own⟩
theorem Rs.fresh (R : Rs K m F0 H0 F ρ k σ H) {p : Addr} (h : H p = none) : H0 p = none := R.gr.back R.rl.ctr h
theorem own_set_ow {i j : Nat} {c : Cell} {v : V} {p : Addr} (h : Own (ρ.set i c) (σ.set i (some v)) j p) : (j = i ∧ v = .ref p) ∨ (j ≠ i ∧ Own ρ σ j p) := by
  obtain ⟨c', h1, h2, h3⟩ := h
  by_cases e : i = j
  · subst e
    by_cases hl : i < σ.length
    · rw [List.getElem?_set_self hl] at h3
      exact .inl ⟨rfl, by injection h3 with h3; injection h3⟩
    · rw [List.getElem?_eq_none (by simpa using hl)] at h3
      cases h3
  · rw [List.getElem?_set_ne e] at h1 h3
    exact .inr ⟨fun z => e z.symm, c', h1, h2, h3⟩
/-- a thing that nobody else holds comes into a slot -/
theorem Rl.set_ow (R : Rl K m F ρ k σ H) {i : Nat} {c : Cell} {o : HO} {p : Addr} (hc : c.isOw = true) (hF : F p = none) (hm : m ≠ some p) (hH : H p = some o) (r : OwRep K m F p c o) (hn : ∀ j, ¬ Own ρ σ j p) : Rl K m F (ρ.set i c) k (σ.set i (some (.ref p))) H where
  sub := R.sub
  ctr := R.ctr
  len := by rw [List.length_set, List.length_set, R.len]
  sh := fun j e h => by
    by_cases z : i = j
    · subst z
      by_cases hl : i < ρ.length
      · rw [List.getElem?_set_self hl] at h
        cases h
        cases hc
      · rw [List.getElem?_eq_none (by simpa using hl)] at h
        cases h
    · rw [List.getElem?_set_ne z] at h ⊢
      exact R.sh j e h
  ow := fun j c' h hc' => by
    by_cases z : i = j
    · subst z
      by_cases hl : i < ρ.length
      · rw [List.getElem?_set_self hl] at h
        cases h
        exact ⟨p, o, by rw [List.getElem?_set_self (by rw [← R.len]; exact hl)], hF, hm, hH, r⟩
      · rw [List.getElem?_eq_none (by simpa using hl)] at h
        cases h
    · rw [List.getElem?_set_ne z] at h ⊢
      exact R.ow j c' h hc'
  sep := fun a b q h1 h2 => by
    rcases own_set_ow h1 with ⟨e1, f1⟩ | ⟨e1, f1⟩ <;> rcases own_set_ow h2 with ⟨e2, f2⟩ | ⟨e2, f2⟩
    · rw [e1, e2]
    · cases f1
      exact absurd f2 (hn b)
    · cases f2
      exact absurd f1 (hn a)
    · exact R.sep a b q f1 f2
theorem Own.known (R : Rl K m F ρ k σ H) {i : Nat} {p : Addr} (h : Own ρ σ i p) : H p ≠ none := by
  obtain ⟨c, h1, h2, h3⟩ := h
  obtain ⟨p', o, e, _, _, h, _⟩ := R.ow i c h1 h2
  rw [h3] at e
  cases e
  rw [h]
  intro z
  cases z
/-- a thing held alone is changed -/
theorem Rl.mut (R : Rl K m F ρ k σ H) {i : Nat} {c c' : Cell} {o : HO} {p : Addr} (h1 : ρ[i]? = some c) (h2 : c.isOw = true) (h3 : σ[i]? = some (some (.ref p))) (hc : c'.isOw = true) (r : OwRep K m F p c' o) : Rl K m F (ρ.set i c') k σ (upd H p o) := by
  obtain ⟨p', o', e, hF, hm, hH, _⟩ := R.ow i c h1 h2
  rw [h3] at e
  cases e
  have hi : i < ρ.length := (List.getElem?_eq_some_iff.mp h1).1
  have owi : Own ρ σ i p := ⟨c, h1, h2, h3⟩
  have back : ∀ j q, Own (ρ.set i c') σ j q → Own ρ σ j q := fun j q ⟨d, a1, a2, a3⟩ => by
    by_cases z : i = j
    · subst z
      exact ⟨c, h1, h2, a3⟩
    · rw [List.getElem?_set_ne z] at a1
      exact ⟨d, a1, a2, a3⟩
  exact {
    sub := fun a u h => by
      rw [upd_ne (ne_of_none h hF)]
      exact R.sub a u h
    ctr := R.ctr.mut hm
    len := by rw [List.length_set, R.len]
    sh := fun j e h => by
      by_cases z : i = j
      · subst z
        rw [List.getElem?_set_self hi] at h
        cases h
        cases hc
      · rw [List.getElem?_set_ne z] at h
        exact R.sh j e h
    ow := fun j d h hd => by
      by_cases z : i = j
      · subst z
        rw [List.getElem?_set_self hi] at h
        cases h
        exact ⟨p, o, h3, hF, hm, upd_same, r⟩
      · rw [List.getElem?_set_ne z] at h
        obtain ⟨q, u, a1, a2, a3, a4, a5⟩ := R.ow j d h hd
        refine ⟨q, u, a1, a2, a3, ?_, a5⟩
        rw [upd_ne (fun e => z (R.sep i j p owi ⟨d, h, hd, by rw [← e]; exact a1⟩))]
        exact a4
    sep := fun a b q x y => R.sep a b q (back a q x) (back b q y) }
theorem Rs.mut (R : Rs K m F0 H0 F ρ k σ H) {i : Nat} {c c' : Cell} {o : HO} {p : Addr} (h1 : ρ[i]? = some c) (h2 : c.isOw = true) (h3 : σ[i]? = some (some (.ref p))) (hc : c'.isOw = true) (r : OwRep K m F p c' o) : Rs K m F0 H0 F (ρ.set i c') k σ (upd H p o) := by
  have owi : Own ρ σ i p := ⟨c, h1, h2, h3⟩
  obtain ⟨p', o', e, hF, hm, hH, _⟩ := R.rl.ow i c h1 h2
  rw [h3] at e
  cases e
  refine ⟨R.rl.mut h1 h2 h3 hc r, R.gr.mut (R.own i p owi) hF, fun j q ⟨d, a1, a2, a3⟩ => ?_⟩
  by_cases z : i = j
  · subst z
    exact R.own i q ⟨c, h1, h2, a3⟩
  · rw [List.getElem?_set_ne z] at a1
    exact R.own j q ⟨d, a1, a2, a3⟩
end

@[simp] def sNext : DS := fun ρ k => some (.next ρ k)
@[simp] def sSeq (f g : DS) : DS := fun ρ k => (f ρ k).bind fun o => match o with
  | .next ρ' k' => g ρ' k'
  | o => some o
@[simp] def sDrop (f : DE) : DS := fun ρ k => (f ρ k).bind fun p => some (.next ρ p.2)
@[simp] def sAsg (f : DE) (g : DG) : DS := fun ρ k => (f ρ k).bind fun p => (g ρ p.1).bind fun ρ' => some (.next ρ' p.2)
@[simp] def sSetL (i : Nat) (f : DL) : DS := fun ρ k => (f ρ k).bind fun p => some (.next (ρ.set i (.ow p.1)) p.2)
@[simp] def sRet (f : DE) : DS := fun ρ k => (f ρ k).bind fun p => some (.ret p.1 p.2)
@[simp] def sRetL (f : DL) : DS := fun ρ k => (f ρ k).bind fun p => some (.retL p.1 p.2)
@[simp] def sRetN : DS := fun _ k => some (.ret .none k)
@[simp] def sIf (t : DT) (f g : DS) : DS := fun ρ k => (t ρ k).bind fun p => if p.1 = true then f ρ p.2 else g ρ p.2
@[simp] def sBrk : DS := fun ρ k => some (.brk ρ k)
@[simp] def sCont : DS := fun ρ k => some (.cont ρ k)
def forLoop (g : DG) (body : DS) : List Dt → Ev → Int → Option Out
  | [], ρ, k => some (.next ρ k)
  | d :: ds, ρ, k => (g ρ d).bind fun ρ' => (body ρ' k).bind fun o => match o with
    | .next ρ2 k2 => forLoop g body ds ρ2 k2
    | .cont ρ2 k2 => forLoop g body ds ρ2 k2
    | .brk ρ2 k2 => some (.next ρ2 k2)
    | o => some o
@[simp] def sFor (src : DL) (g : DG) (body : DS) : DS := fun ρ k => (src ρ k).bind fun p => forLoop g body p.1 ρ p.2
def whLoop (t : DT) (body : DS) : Nat → Ev → Int → Option Out
  | 0, _, _ => none
  | n + 1, ρ, k => (t ρ k).bind fun p => if p.1 = true then (body ρ p.2).bind fun o => match o with
      | .next ρ2 k2 => whLoop t body n ρ2 k2
      | .cont ρ2 k2 => whLoop t body n ρ2 k2
      | .brk ρ2 k2 => some (.next ρ2 k2)
      | o => some o
    else some (.next ρ p.2)
@[simp] def sWhile (n : Nat) (t : DT) (body : DS) : DS := fun ρ k => whLoop t body n ρ k
/-- what was held alone in slot i is shared from here on -/
@[simp] def sFreeze (i : Nat) (f : DS) : DS := fun ρ k => match ρ[i]? with
  | some (.ow ds) => f (ρ.set i (.sh (.list ds))) k
  | _ => f ρ k
@[simp] def sPar (i j : Nat) (f : DL) : DS := fun ρ k => (f ρ k).bind fun p => match p.1 with
  | [x, y] => some (.next ((ρ.set i (.sh x)).set j (.sh y)) p.2)
  | _ => none
/-- slot i's list: .append, .extend, .insert .. by what it becomes -/
@[simp] def sMut (i : Nat) (g : List Dt → List Dt → Option (List Dt)) (f : DL) : DS := fun ρ k => (f ρ k).bind fun p => match ρ[i]? with
  | some (.ow ds) => (g ds p.1).bind fun es => some (.next (ρ.set i (.ow es)) p.2)
  | _ => none

section
variable {X : Cx} {m : Option Addr} {F0 H0 : Hp} {W : WE} {a b c e tg it : Expr} {es : List Expr} {pos : Pos} {st : Stmt} {sts : List Stmt}
theorem ss_nil : PSs X [] (tS X.fr m F0 H0 W sNext) := impPSs pss_nil fun D σ H ⟨F, ρ, k, out, R, hf, q⟩ => by
  cases hf
  exact q σ F H (Ex.refl F) R
theorem s_pass : PS X (.Pass pos) (tS X.fr m F0 H0 W sNext) := impPS ps_pass fun D σ H ⟨F, ρ, k, out, R, hf, q⟩ => by
  cases hf
  exact q σ F H (Ex.refl F) R
theorem ss_cons {f g : DS} (h1 : PS X st (tS X.fr m F0 H0 W f)) (h2 : PSs X sts (tS X.fr m F0 H0 W g)) : PSs X (st :: sts) (tS X.fr m F0 H0 W (sSeq f g)) := impPSs (pss_cons h1 h2) fun D σ H ⟨F, ρ, k, out, R, hf, q⟩ => by
  unfold sSeq at hf
  obtain ⟨o, e1, hf⟩ := Option.bind_eq_some_iff.mp hf
  refine ⟨F, ρ, k, o, R, e1, ?_⟩
  cases o with
  | next ρ' k' => exact fun σ' F' H' e R' => ⟨F', ρ', k', out, R', hf, q.mono e⟩
  | ret d k' =>
    cases hf
    exact q
  | retL d k' =>
    cases hf
    exact q
  | brk ρ' k' =>
    cases hf
    exact q
  | cont ρ' k' =>
    cases hf
    exact q
  | exc c ρ' k' =>
    cases hf
    exact q
theorem ss_one {f : DS} (h1 : PS X st (tS X.fr m F0 H0 W f)) : PSs X [st] (tS X.fr m F0 H0 W f) := impPSs (pss_one h1) fun D σ H w => w
theorem ss_freeze (i : Nat) {f : DS} (h : PSs X sts (tS X.fr m F0 H0 W f)) : PSs X sts (tS X.fr m F0 H0 W (sFreeze i f)) := impPSs h fun D σ H ⟨F, ρ, k, out, R, hf, q⟩ => by
  unfold sFreeze at hf
  split at hf
  · rename_i ds e1
    obtain ⟨p, o, h3, hF, hm, hH, r⟩ := R.rl.ow i _ e1 rfl
    obtain ⟨vs, rfl, r⟩ := r
    have hi : i < ρ.length := (List.getElem?_eq_some_iff.mp e1).1
    have owi : Own ρ σ i p := ⟨_, e1, rfl, h3⟩
    have eF : Ex F (upd F p (.lst vs)) := ex_freeze hF
    have hk : H0 p = none := R.own i p owi
    have back : ∀ j q, Own (ρ.set i (.sh (.list ds))) σ j q → Own ρ σ j q ∧ j ≠ i := fun j q ⟨d, a1, a2, a3⟩ => by
      by_cases z : i = j
      · subst z
        rw [List.getElem?_set_self hi] at a1
        cases a1
        cases a2
      · rw [List.getElem?_set_ne z] at a1
        exact ⟨⟨d, a1, a2, a3⟩, fun e => z e.symm⟩
    refine ⟨upd F p (.lst vs), _, k, out, ⟨?_, R.gr.freeze hk hH, fun j q h => R.own j q (back j q h).1⟩, hf, q.mono eF⟩
    exact {
      sub := fun a u h => by
        by_cases z : a = p
        · subst z
          rw [upd_same] at h
          cases h
          exact hH
        · rw [upd_ne z] at h
          exact R.rl.sub a u h
      ctr := R.rl.ctr.freeze hm
      len := by rw [List.length_set, R.rl.len]
      sh := fun j d h => by
        by_cases z : i = j
        · subst z
          rw [List.getElem?_set_self hi] at h
          cases h
          exact ⟨_, h3, .lst (.inl (.inl upd_same)) (r.mono eF)⟩
        · rw [List.getElem?_set_ne z] at h
          obtain ⟨v, h1, h2⟩ := R.rl.sh j d h
          exact ⟨v, h1, h2.mono eF⟩
      ow := fun j d h hd => by
        by_cases z : i = j
        · subst z
          rw [List.getElem?_set_self hi] at h
          cases h
          cases hd
        · rw [List.getElem?_set_ne z] at h
          obtain ⟨q, u, a1, a2, a3, a4, a5⟩ := R.rl.ow j d h hd
          refine ⟨q, u, a1, ?_, a3, a4, a5.mono eF⟩
          rw [upd_ne (fun e => z (R.rl.sep i j p owi ⟨d, h, hd, by rw [← e]; exact a1⟩))]
          exact a2
      sep := fun a b q x y => R.rl.sep a b q (back a q x).1 (back b q y).1 }
  · exact ⟨F, ρ, k, out, R, hf, q⟩
theorem s_expr {f : DE} (h : PE X e (tE X.fr m f)) (hs : swapsWith e none pos.line X.env = pure false := by rfl) : PS X (.Expr e pos) (tS X.fr m F0 H0 W (sDrop f)) := impPS (ps_expr h hs) fun D σ H ⟨F, ρ, k, out, R, hf, q⟩ => by
  unfold sDrop at hf
  obtain ⟨⟨d, k1⟩, h1, hf⟩ := Option.bind_eq_some_iff.mp hf
  cases hf
  exact ⟨F, ρ, k, d, k1, R.rl, h1, fun v F' H' g c r => q σ F' H' g.ff (R.grow g c)⟩
theorem s_set (i : Nat) {x : Str} {f : DE} {pos' : Pos} (hN : X.N.Nodup) (h : PE X e (tE X.fr m f)) (hi : X.N[i]? = some x := by rfl) (hx : Loc X.env.scope x := by first | exact .inl rfl | exact .inr rfl) (hs : swapsWith e (some (.Name x pos')) pos.line X.env = pure false := by rfl)
    (hf : X.fn x = true ∨ X.env.scope.names.lookup x = some .local := by first | exact .inl rfl | exact .inr rfl | assumption) : PS X (.Assign [.Name x pos'] e pos) (tS X.fr m F0 H0 W (sAsg f (gSet i))) := impPS (ps_set hN hi hx h hs hf) fun D σ H ⟨F, ρ, k, out, R, hf, q⟩ => by
  unfold sAsg at hf
  obtain ⟨⟨d, k1⟩, h1, hf⟩ := Option.bind_eq_some_iff.mp hf
  cases hf
  exact ⟨F, ρ, k, d, k1, R.rl, h1, fun v F' H' g c r => q _ F' H' g.ff ⟨(R.rl.grow g c).set_sh r, R.gr.trans R.rl.ctr g, fun j p h => R.own j p (own_set_sh h).1⟩⟩
theorem s_asg {t : List Nat} {g : DG} {f : DE} (h : PE X e (tE X.fr m f)) (hg : PG X tg (tGd X.fr m t g)) (hs : swapsWithSole [tg] e pos.line X.env = pure false := by rfl) (hw : swappedStores [tg] e X.env = pure none := by rfl)
    (h1 : (assignEach [tg] X.env).map (·.2) = [assign tg X.env] := by rfl) : PS X (.Assign [tg] e pos) (tS X.fr m F0 H0 W (sAsg f g)) := impPS (ps_asg h hg hs hw h1) fun D σ H ⟨F, ρ, k, out, R, hf, q⟩ => by
  unfold sAsg at hf
  obtain ⟨⟨d, k1⟩, h1, hf⟩ := Option.bind_eq_some_iff.mp hf
  obtain ⟨ρ', h2, hf⟩ := Option.bind_eq_some_iff.mp hf
  cases hf
  exact ⟨F, ρ, k, d, k1, R.rl, h1, fun v F' H' g c r => ⟨F', ρ, k1, d, ρ', R.rl.grow g c, r, h2, fun σ' R' w1 l1 o1 => q σ' F' H' g.ff ⟨R', R.gr.trans R.rl.ctr g, fun j p h => R.own j p (o1 j p h)⟩⟩⟩
theorem s_setL (i : Nat) {x : Str} {f : DL} {pos' : Pos} (hN : X.N.Nodup) (h : PE X e (tL X.fr m f)) (hi : X.N[i]? = some x := by rfl) (hx : Loc X.env.scope x := by first | exact .inl rfl | exact .inr rfl) (hs : swapsWith e (some (.Name x pos')) pos.line X.env = pure false := by rfl)
    (hf : X.fn x = true ∨ X.env.scope.names.lookup x = some .local := by first | exact .inl rfl | exact .inr rfl | assumption) : PS X (.Assign [.Name x pos'] e pos) (tS X.fr m F0 H0 W (sSetL i f)) := impPS (ps_set hN hi hx h hs hf) fun D σ H ⟨F, ρ, k, out, R, hf, q⟩ => by
  unfold sSetL at hf
  obtain ⟨⟨d, k1⟩, h1, hf⟩ := Option.bind_eq_some_iff.mp hf
  cases hf
  refine ⟨F, ρ, k, d, k1, R.rl, h1, fun p vs F' H' g c hp fp ho r => q _ F' H' g.ff ⟨(R.rl.grow g c).set_ow rfl fp (R.rl.ctr.ne hp) ho ⟨vs, rfl, r⟩ fun j hj => hj.known R.rl hp, R.gr.trans R.rl.ctr g, fun j q' h => ?_⟩⟩
  rcases own_set_ow h with ⟨_, e⟩ | ⟨_, h⟩
  · cases e
    exact R.fresh hp
  · exact R.own j q' h
theorem s_ret {f : DE} (h : PE X e (tE X.fr m f)) : PS X (.Return (some e) pos) (tS X.fr m F0 H0 W (sRet f)) := impPS (ps_ret h) fun D σ H ⟨F, ρ, k, out, R, hf, q⟩ => by
  unfold sRet at hf
  obtain ⟨⟨d, k1⟩, h1, hf⟩ := Option.bind_eq_some_iff.mp hf
  cases hf
  exact ⟨F, ρ, k, d, k1, R.rl, h1, fun v F' H' g c r => q v F' H' (R.gr.trans R.rl.ctr g) c r⟩
theorem s_retL {f : DL} (h : PE X e (tL X.fr m f)) : PS X (.Return (some e) pos) (tS X.fr m F0 H0 W (sRetL f)) := impPS (ps_ret h) fun D σ H ⟨F, ρ, k, out, R, hf, q⟩ => by
  unfold sRetL at hf
  obtain ⟨⟨d, k1⟩, h1, hf⟩ := Option.bind_eq_some_iff.mp hf
  cases hf
  exact ⟨F, ρ, k, d, k1, R.rl, h1, fun p vs F' H' g c hp fp ho r => q p vs F' H' (R.gr.trans R.rl.ctr g) c (R.fresh hp) fp ho r⟩
/-- a list that the def has made and held alone is handed back -/
@[simp] def dOwn (i : Nat) : DL := fun ρ k => match ρ[i]? with
  | some (.ow ds) => some (ds, k)
  | _ => none
theorem s_retO (i : Nat) {x : Str} {pos2 : Pos} (hN : X.N[i]? = some x := by rfl) (hv : Vis X.env.scope x := by first | exact Or.inl rfl | exact Or.inr (Or.inl rfl) | exact Or.inr (Or.inr rfl)) (hd : (x == ("__debug__" : Str)) = false := by decide) (hcd : (x == ("__classdict__" : Str)) = false := by decide) :
    PS X (.Return (some (.Name x pos2)) pos) (tS X.fr m F0 H0 W (sRetL (dOwn i))) := impPS (ps_ret (pe_var (i := i) hN hv hd hcd)) fun D σ H ⟨F, ρ, k, out, R, hf, q⟩ => by
  unfold sRetL at hf
  obtain ⟨⟨d, k1⟩, h1, hf⟩ := Option.bind_eq_some_iff.mp hf
  cases hf
  unfold dOwn at h1
  split at h1
  · rename_i ds e1
    cases h1
    obtain ⟨p, o, h3, hF, hm, hH, r⟩ := R.rl.ow i _ e1 rfl
    obtain ⟨vs, rfl, r⟩ := r
    exact ⟨_, h3, q p vs F H R.gr R.rl.ctr (R.own i p ⟨_, e1, rfl, h3⟩) hF hH r⟩
  · cases h1
theorem s_retN : PS X (.Return none pos) (tS X.fr m F0 H0 W sRetN) := impPS ps_retN fun D σ H ⟨F, ρ, k, out, R, hf, q⟩ => by
  cases hf
  exact q .non F H R.gr R.rl.ctr .non
theorem s_if {t : DT} {f g : DS} {a b : List Stmt} (hc : PT X c (tT X.fr m t)) (ha : PSs X a (tS X.fr m F0 H0 W f)) (hb : PSs X b (tS X.fr m F0 H0 W g)) : PS X (.If c a b pos) (tS X.fr m F0 H0 W (sIf t f g)) := impPS (ps_if hc ha hb) fun D σ H ⟨F, ρ, k, out, R, hf, q⟩ => by
  unfold sIf at hf
  obtain ⟨⟨w, k1⟩, h1, hf⟩ := Option.bind_eq_some_iff.mp hf
  refine ⟨F, ρ, k, w, k1, R.rl, h1, fun F' H' g c => ?_⟩
  cases w with
  | true => exact ⟨F', ρ, k1, out, R.grow g c, hf, q.mono g.ff⟩
  | false => exact ⟨F', ρ, k1, out, R.grow g c, hf, q.mono g.ff⟩
theorem s_break : PS X (.Break pos) (tS X.fr m F0 H0 W sBrk) := impPS ps_break fun D σ H ⟨F, ρ, k, out, R, hf, q⟩ => by
  cases hf
  exact q σ F H (Ex.refl F) R
theorem s_cont : PS X (.Continue pos) (tS X.fr m F0 H0 W sCont) := impPS ps_continue fun D σ H ⟨F, ρ, k, out, R, hf, q⟩ => by
  cases hf
  exact q σ F H (Ex.refl F) R
theorem s_for {src : DL} {t : List Nat} {g : DG} {f : DS} {body : List Stmt} (hp : PassesOwn (model X.prog X.w) X.A X.env X.xe) (hc : X.calm = true) (hi : PI X tg it (tIS X.fr m src)) (hg : PG X tg (tGd X.fr m t g)) (hb : PSs X body (tS X.fr m F0 H0 W f))
    (hs : ∀ x, foldedSetIterable it X.env x = pure x := by intro _; rfl) : PS X (.For tg it body [] pos) (tS X.fr m F0 H0 W (sFor src g f)) := impPS (ps_for hp hc hi hg hb hs) fun D σ H ⟨F, ρ, k, out, R, hf, q⟩ => by
  unfold sFor at hf
  obtain ⟨⟨ds, k1⟩, h1, hf⟩ := Option.bind_eq_some_iff.mp hf
  refine ⟨F, ρ, k, ds, k1, R.rl, h1, fun J F1 H1 g1 c1 fd => ?_⟩
  refine ⟨fun i n σ2 H2 => n + i = ds.length ∧ ∃ F2 ρ2 k2, Ex F1 F2 ∧ Rs X.fr m F0 H0 F2 ρ2 k2 σ2 H2 ∧ forLoop g f (ds.drop i) ρ2 k2 = some out, ⟨ds.length, by omega, F1, ρ, k1, Ex.refl _, R.grow g1 c1, hf⟩, fun i n σ2 H2 hW => ?_⟩
  obtain ⟨hn, F2, ρ2, k2, e2, R2, hl⟩ := hW
  cases hds : ds[i]? with
  | none =>
    have hi2 : i = ds.length := by
      have := List.getElem?_eq_none_iff.mp hds
      omega
    subst hi2
    rw [List.drop_length] at hl
    cases hl
    exact .inl ⟨(fd.mono e2).stop F2 H2 (Ex.refl _) R2.rl.sub, q σ2 F2 H2 (g1.ff.trans e2) R2⟩
  | some d =>
    obtain ⟨hgo, hyl⟩ := (fd.mono e2).go F2 H2 i d k2 (Ex.refl _) R2.rl.sub R2.rl.ctr hds
    have hi : i < ds.length := (List.getElem?_eq_some_iff.mp hds).1
    have ed : ds[i] = d := by
      rw [List.getElem?_eq_getElem hi] at hds
      exact Option.some.inj hds
    rw [List.drop_eq_getElem_cons hi, ed] at hl
    unfold forLoop at hl
    obtain ⟨ρ', hgd, hl⟩ := Option.bind_eq_some_iff.mp hl
    obtain ⟨o, hbd, hl⟩ := Option.bind_eq_some_iff.mp hl
    refine .inr ⟨hgo, fun σ' H' => (n - 1) + (i + 1) = ds.length ∧ ∃ F2 ρ2 k2, Ex F1 F2 ∧ Rs X.fr m F0 H0 F2 ρ2 k2 σ' H' ∧ forLoop g f (ds.drop (i + 1)) ρ2 k2 = some out, fun σ' H' h => ⟨n - 1, by omega, h⟩, fun x H3 hy => ?_⟩
    obtain ⟨F3, g3, c3, rx⟩ := hyl x H3 hy
    have R3 := R2.grow g3 c3
    refine ⟨F3, ρ2, k2, d, ρ', R3.rl, rx, hgd, fun σ' R' w1 l1 o1 => ?_⟩
    have R4 : Rs X.fr m F0 H0 F3 ρ' k2 σ' H3 := ⟨R', R3.gr, fun j p h => R3.own j p (o1 j p h)⟩
    have e13 : Ex F1 F3 := e2.trans g3.ff
    have q3 : Post X.fr m F0 H0 W D F3 out := q.mono (g1.ff.trans e13)
    refine ⟨F3, ρ', k2, o, R4, hbd, ?_⟩
    cases o with
    | next ρ4 k4 => exact fun σ4 F4 H4 e4 R5 => ⟨by omega, F4, ρ4, k4, e13.trans e4, R5, hl⟩
    | cont ρ4 k4 => exact fun σ4 F4 H4 e4 R5 => ⟨by omega, F4, ρ4, k4, e13.trans e4, R5, hl⟩
    | brk ρ4 k4 =>
      cases hl
      exact q3
    | ret d4 k4 =>
      cases hl
      exact q3
    | retL d4 k4 =>
      cases hl
      exact q3
    | exc d4 ρ4 k4 =>
      cases hl
      exact q3
theorem s_while (n : Nat) {t : DT} {f : DS} {body : List Stmt} (hp : PassesOwn (model X.prog X.w) X.A X.env X.xe) (hc : PT X c (tT X.fr m t)) (hb : PSs X body (tS X.fr m F0 H0 W f)) : PS X (.While c body [] pos) (tS X.fr m F0 H0 W (sWhile n t f)) :=
  impPS (ps_while hp hc hb) fun D σ H ⟨F, ρ, k, out, R, hf, q⟩ => by
    refine ⟨fun i σ2 H2 => ∃ F2 ρ2 k2, Ex F F2 ∧ Rs X.fr m F0 H0 F2 ρ2 k2 σ2 H2 ∧ whLoop t f i ρ2 k2 = some out, ⟨n, F, ρ, k, Ex.refl _, R, hf⟩, fun i σ2 H2 hW => ?_⟩
    obtain ⟨F2, ρ2, k2, e2, R2, hl⟩ := hW
    cases i with
    | zero => cases hl
    | succ i =>
      unfold whLoop at hl
      obtain ⟨⟨w, k3⟩, htst, hl⟩ := Option.bind_eq_some_iff.mp hl
      refine ⟨F2, ρ2, k2, w, k3, R2.rl, htst, fun F3 H3 g3 c3 => ?_⟩
      have R3 := R2.grow g3 c3
      have e3 := e2.trans g3.ff
      cases w with
      | false =>
        cases hl
        exact q σ2 F3 H3 e3 R3
      | true =>
        replace hl := hl
        obtain ⟨o, hbd, hl⟩ := Option.bind_eq_some_iff.mp (show (f ρ2 k3).bind _ = some out from hl)
        have q3 : Post X.fr m F0 H0 W D F3 out := q.mono e3
        refine ⟨fun σ' H' => ∃ F2 ρ2 k2, Ex F F2 ∧ Rs X.fr m F0 H0 F2 ρ2 k2 σ' H' ∧ whLoop t f i ρ2 k2 = some out, fun σ' H' h => ⟨i, Nat.lt_succ_self i, h⟩, F3, ρ2, k3, o, R3, hbd, ?_⟩
        cases o with
        | next ρ4 k4 => exact fun σ4 F4 H4 e4 R5 => ⟨F4, ρ4, k4, e3.trans e4, R5, hl⟩
        | cont ρ4 k4 => exact fun σ4 F4 H4 e4 R5 => ⟨F4, ρ4, k4, e3.trans e4, R5, hl⟩
        | brk ρ4 k4 =>
          cases hl
          exact q3
        | ret d4 k4 =>
          cases hl
          exact q3
        | retL d4 k4 =>
          cases hl
          exact q3
        | exc d4 ρ4 k4 =>
          cases hl
          exact q3
theorem s_par {i j : Nat} {x y : Str} {px py pt : Pos} {kt k2 pt2} {f : DL} (hc : X.calm = true) (hN : X.N.Nodup) (h : PA X [a, b] (tAr X.fr m f)) (hi : X.N[i]? = some x) (hj : X.N[j]? = some y) (hij : i ≠ j)
    (hx : X.env.scope.names.lookup x = some .local) (hy : X.env.scope.names.lookup y = some .local)
    (hw : swappedStores [.Tuple [.Name x px, .Name y py] kt pt] (.Tuple [a, b] k2 pt2) X.env = pure (some [x, y]))
    (hs : swapsWithSole [.Tuple [.Name x px, .Name y py] kt pt] (.Tuple [a, b] k2 pt2) pos.line X.env = pure false := by rfl) :
    PS X (.Assign [.Tuple [.Name x px, .Name y py] kt pt] (.Tuple [a, b] k2 pt2) pos) (tS X.fr m F0 H0 W (sPar i j f)) := impPS (ps_par hc hN hi hj hij hx hy h hw hs) fun D σ H ⟨F, ρ, k, out, R, hf, q⟩ => by
  unfold sPar at hf
  obtain ⟨⟨ds, k1⟩, h1, hf⟩ := Option.bind_eq_some_iff.mp hf
  cases ds with
  | nil => cases hf
  | cons d1 ds =>
    cases ds with
    | nil => cases hf
    | cons d2 ds =>
      cases ds with
      | cons d3 ds => cases hf
      | nil =>
        cases hf
        refine ⟨F, ρ, k, _, k1, R.rl, h1, fun vs F' H' g c r => ?_⟩
        cases r with
        | cons r1 r =>
          cases r with
          | cons r2 r =>
            cases r
            exact ⟨_, _, rfl, q _ F' H' g.ff ⟨((R.rl.grow g c).set_sh r1).set_sh r2, R.gr.trans R.rl.ctr g, fun j p h => R.own j p (own_set_sh (own_set_sh h).1).1⟩⟩
end
end Dn

set_option Elab.async false
set_option linter.all false
set_option maxRecDepth 100000
set_option maxHeartbeats 1000000
namespace Dn
open PySem PySem.Spec PyProof.Rows L2 Evl

/-- no data of Python's own: the counter, a caught error -/
def isObj : Dt → Bool
  | .dict ((.none, _) :: _) => true
  | _ => false
def isCtr : Dt → Bool
  | .dict [(.none, .none)] => true
  | _ => false
theorem isCtr_eq {d : Dt} (h : isCtr d = true) : d = ctrD := by
  unfold isCtr at h
  split at h
  · rfl
  · cases h
/-- the counter's value, by the slot where the counter stands -/
@[simp] def dAt (i : Nat) : DE := fun ρ k => match ρ[i]? with
  | some (.sh d) => if isCtr d = true then some (.int k, k) else none
  | _ => none
@[simp] def sAt (i : Nat) (f : DE) : DS := fun ρ k => match ρ[i]? with
  | some (.sh d) => if isCtr d = true then (f ρ k).bind fun p => (asI p.1).bind fun j => some (.next ρ j) else none
  | _ => none
theorem Rp.isCtr {K : Fr} {m : Option Addr} {F : Hp} {v : V} (r : Rp K m F v ctrD) : ∃ a, v = .ref a ∧ m = some a := Ro.ctr (H := F) (.inl r)
section
variable {X : Cx} {m : Option Addr} {F0 H0 : Hp} {W : WE} {a b c e tg it : Expr} {es : List Expr} {pos : Pos} {st : Stmt} {sts : List Stmt}
/-! a list held alone is changed by one of its methods -/
theorem s_mut (i : Nat) {x : Str} {id : String} {name : Str} {px pa pos2 : Pos} {f : DL} {gd : List Dt → List Dt → Option (List Dt)} {rr : V → List V → Hp → VK → Prop}
    (pat : PlainAttrs "list") (slot : Slot "list" name id) (hty : typeOf (.builtin id) = pure (.type "method_descriptor")) (hm : MtR X id rr)
    (hr : ∀ (F : Hp) (l : Addr) (xs : List V) (ds es args : List Dt) (vs : List V) (H : Hp) (Q : VK), RpA X.fr m F xs ds → RpA X.fr m F vs args → gd ds args = some es → H l = some (.lst xs) → (∀ ys, RpA X.fr m F ys es → Q .non (upd H l (.lst ys))) → rr (.ref l) vs H Q)
    (ha : PA X (e :: es) (tAr X.fr m f)) (hN : X.N[i]? = some x := by rfl) (hv : Vis X.env.scope x := by first | exact Or.inl rfl | exact Or.inr (Or.inl rfl) | exact Or.inr (Or.inr rfl)) (hd : (x == ("__debug__" : Str)) = false := by decide) (hcd : (x == ("__classdict__" : Str)) = false := by decide)
    (hbase : attributeBase (.Name x px) name X.env (eval (.Name x px) X.env) = eval (.Name x px) X.env := by rfl)
    (hfew : ((backTo pos2 (starEach (e :: es) X.env)).all (fun x => !x.1) && (backToKw pos2 (keywordEach [] X.env)).all (fun x => x.1.isSome)
      && decide ((e :: es).length + ([] : List Keyword).length + (if ([] : List Keyword).isEmpty then 0 else 1) < 30)) = true := by rfl)
    (hline : (pa.endLine == pos2.line) = true := by rfl) (hst : starEach (e :: es) X.env = (false, eval e X.env) :: starEach es X.env := by rfl) (hpl : (backTo pos2 (starEach es X.env)).any (·.1) = false := by rfl)
    (hs : swapsWith (.Call (.Attribute (.Name x px) name pa) (e :: es) [] pos2) none pos.line X.env = pure false := by rfl) :
    PS X (.Expr (.Call (.Attribute (.Name x px) name pa) (e :: es) [] pos2) pos) (tS X.fr m F0 H0 W (sMut i gd f)) :=
  impPS (ps_expr (pe_bm pat slot hty hm (pe_var (i := i) hN hv hd hcd) ha hbase hfew hline hst hpl) hs) fun D σ H ⟨F, ρ, k, out, R, hf, q⟩ => by
    unfold sMut at hf
    obtain ⟨⟨args, k1⟩, h1, hf⟩ := Option.bind_eq_some_iff.mp hf
    cases hc : ρ[i]? with
    | none =>
      rw [hc] at hf
      cases hf
    | some cl =>
      rw [hc] at hf
      cases cl with
      | ow ds =>
        obtain ⟨es', h2, hf⟩ := Option.bind_eq_some_iff.mp hf
        cases hf
        obtain ⟨p, o, h3, hF, hmp, hH, r⟩ := R.rl.ow i _ hc rfl
        obtain ⟨xs, rfl, r⟩ := r
        refine ⟨_, h3, Or.inl ⟨rfl, _, .inl (.inl hH)⟩, F, ρ, k, args, k1, R.rl, h1, fun vs F' H' g c ra => ?_⟩
        refine hr F' p xs ds es' args vs H' _ (r.mono g.ff) ra h2 (g.hh p _ hmp hH) fun ys ry => ?_
        exact q σ F' _ g.ff ((R.grow g c).mut hc rfl h3 rfl ⟨ys, rfl, ry⟩)
      | _ => cases hf
@[simp] def gAppend : List Dt → List Dt → Option (List Dt)
  | ds, [d] => if ds.length < 1000000 then some (ds ++ [d]) else none
  | _, _ => none
theorem r_append {K : Fr} (F : Hp) (l : Addr) (xs : List V) (ds es args : List Dt) (vs : List V) (H : Hp) (Q : VK) (r : RpA K m F xs ds) (ra : RpA K m F vs args) (h : gAppend ds args = some es) (hH : H l = some (.lst xs)) (q : ∀ ys, RpA K m F ys es → Q .non (upd H l (.lst ys))) : rAppend (.ref l) vs H Q := by
  unfold gAppend at h
  split at h
  · split at h
    · cases h
      cases ra with
      | cons r1 rn =>
        cases rn
        exact ⟨l, xs, _, rfl, rfl, hH, by
          rw [r.length]
          exact Nat.lt_of_lt_of_le ‹_› (small_line (Nat.le_refl _)), q _ (r.append (.cons r1 .nil))⟩
    · cases h
  · cases h
theorem s_append (i : Nat) {x : Str} {px pa pos2 : Pos} {f : DE} (he : PE X e (tE X.fr m f)) (hN : X.N[i]? = some x := by rfl) (hv : Vis X.env.scope x := by first | exact Or.inl rfl | exact Or.inr (Or.inl rfl) | exact Or.inr (Or.inr rfl)) (hd : (x == ("__debug__" : Str)) = false := by decide) (hcd : (x == ("__classdict__" : Str)) = false := by decide)
    (hbase : attributeBase (.Name x px) "append" X.env (eval (.Name x px) X.env) = eval (.Name x px) X.env := by rfl)
    (hfew : ((backTo pos2 (starEach (e :: []) X.env)).all (fun x => !x.1) && (backToKw pos2 (keywordEach [] X.env)).all (fun x => x.1.isSome)
      && decide ((e :: []).length + ([] : List Keyword).length + (if ([] : List Keyword).isEmpty then 0 else 1) < 30)) = true := by rfl)
    (hline : (pa.endLine == pos2.line) = true := by rfl) (hst : starEach (e :: []) X.env = (false, eval e X.env) :: starEach [] X.env := by rfl) (hpl : (backTo pos2 (starEach [] X.env)).any (·.1) = false := by rfl)
    (hs : swapsWith (.Call (.Attribute (.Name x px) "append" pa) (e :: []) [] pos2) none pos.line X.env = pure false := by rfl) :
    PS X (.Expr (.Call (.Attribute (.Name x px) "append" pa) [e] [] pos2) pos) (tS X.fr m F0 H0 W (sMut i gAppend (aCons f aNil))) :=
  s_mut i PySem.F.plainAttrs_list PySem.F.slot_list_append PySem.F.type_list_append mt_append r_append (p_cons he p_nil hst) hN hv hd hcd hbase hfew hline hst hpl hs
/-! the counter -/
theorem e_at (i : Nat) {x : Str} {j : Nat} {px p1 : Pos} (hN : X.N[i]? = some x := by rfl) (hv : Vis X.env.scope x := by first | exact Or.inl rfl | exact Or.inr (Or.inl rfl) | exact Or.inr (Or.inr rfl)) (hd : (x == ("__debug__" : Str)) = false := by decide) (hcd : (x == ("__classdict__" : Str)) = false := by decide) :
    PE X (.Subscript (.Name x px) (.Constant (.int 0) j p1) pos) (tE X.fr m (dAt i)) := impPE (pe_ix ix_list (pe_var (i := i) hN hv hd hcd) pe_int (fun _ _ => rfl)) fun σ H Q ⟨F, ρ, k, d, k', R, hf, q⟩ => by
  unfold dAt at hf
  split at hf
  · rename_i d1 e1
    split at hf
    · rename_i hc
      cases hf
      cases isCtr_eq hc
      obtain ⟨v, e2, r⟩ := R.sh i _ e1
      obtain ⟨a, rfl, em⟩ := r.isCtr
      exact ⟨_, e2, a, [.int k], 0, .int k, rfl, rfl, .inl (.inl (R.ctr a em).1), rfl, q _ F H (.refl R.sub) R.ctr (.int k)⟩
    · cases hf
  · cases hf
theorem s_at (i : Nat) {x : Str} {j : Nat} {px p1 p2 : Pos} {f : DE} (h : PE X e (tE X.fr m f)) (hN : X.N[i]? = some x := by rfl) (hv : Vis X.env.scope x := by first | exact Or.inl rfl | exact Or.inr (Or.inl rfl) | exact Or.inr (Or.inr rfl)) (hd : (x == ("__debug__" : Str)) = false := by decide) (hcd : (x == ("__classdict__" : Str)) = false := by decide)
    (hs : swapsWithSole [.Subscript (.Name x px) (.Constant (.int 0) j p1) p2] e pos.line X.env = pure false := by rfl) (hw : swappedStores [.Subscript (.Name x px) (.Constant (.int 0) j p1) p2] e X.env = pure none := by rfl)
    (h1 : (assignEach [.Subscript (.Name x px) (.Constant (.int 0) j p1) p2] X.env).map (·.2) = [assign (.Subscript (.Name x px) (.Constant (.int 0) j p1) p2) X.env] := by rfl)
    (ha : ∀ v, assign (.Subscript (.Name x px) (.Constant (.int 0) j p1) p2) X.env v = (do
      let ov ← holding [v] (eval (.Name x px) X.env)
      let iv ← holding [v, ov] (eval (.Constant (.int 0) j p1) X.env)
      standAt p2
      holding [v, ov, iv] (setItem ov iv v)
      release [v, ov, iv] []) := by intro _; rfl) :
    PS X (.Assign [.Subscript (.Name x px) (.Constant (.int 0) j p1) p2] e pos) (tS X.fr m F0 H0 W (sAt i f)) := impPS (ps_asg h (pg_sub (pe_var (i := i) hN hv hd hcd) pe_int set_list ha) hs hw h1) fun D σ H ⟨F, ρ, k, out, R, hf, q⟩ => by
  unfold sAt at hf
  split at hf
  · rename_i d1 e1
    split at hf
    · rename_i hc
      cases isCtr_eq hc
      obtain ⟨⟨d, k1⟩, h1, hf⟩ := Option.bind_eq_some_iff.mp hf
      obtain ⟨k2, h2, hf⟩ := Option.bind_eq_some_iff.mp hf
      cases hf
      cases asI_some h2
      refine ⟨F, ρ, k, _, k1, R.rl, h1, fun v F' H' g c r => ?_⟩
      cases r
      have R1 := R.grow g c
      obtain ⟨v, e2, r⟩ := R1.rl.sh i _ e1
      obtain ⟨a, rfl, em⟩ := r.isCtr
      obtain ⟨c1, c2⟩ := c a em
      refine ⟨_, e2, a, [.int k1], 0, 0, rfl, rfl, c1, rfl, q σ F' _ g.ff ⟨?_, ?_, R.own⟩⟩
      · exact {
          sub := fun b u h => by
            rw [upd_ne (ne_of_none h c2)]
            exact R1.rl.sub b u h
          ctr := fun b eb => by
            rw [em] at eb
            cases eb
            exact ⟨upd_same, c2⟩
          len := R1.rl.len
          sh := R1.rl.sh
          ow := fun j c h hc => by
            obtain ⟨p, o, a1, a2, a3, a4, a5⟩ := R1.rl.ow j c h hc
            refine ⟨p, o, a1, a2, a3, ?_, a5⟩
            rw [upd_ne (fun z => a3 (by rw [z]; exact em))]
            exact a4
          sep := R1.rl.sep }
      · exact {
          ff := R1.gr.ff
          fh := fun b u h => by
            rw [upd_ne (ne_of_none h c2)]
            exact R1.gr.fh b u h
          nw := R1.gr.nw
          hh := fun b o hb h => by
            rw [upd_ne (fun z => hb (by rw [z]; exact em))]
            exact R1.gr.hh b o hb h }
    · cases hf
  · cases hf
end

/-! ### a def -/
@[simp] def startE (n : Nat) (ds : List Dt) : Ev := ds.map Cell.sh ++ List.replicate (n - ds.length) .un
theorem startE_get {n : Nat} {ds : List Dt} {i : Nat} {c : Cell} (h : (startE n ds)[i]? = some c) : (∃ d, ds[i]? = some d ∧ c = .sh d) ∨ c = .un := by
  unfold startE at h
  by_cases hi : i < ds.length
  · rw [List.getElem?_append_left (by simpa using hi), List.getElem?_map] at h
    cases e : ds[i]? with
    | none =>
      rw [e] at h
      cases h
    | some d =>
      rw [e] at h
      cases h
      exact .inl ⟨d, rfl, rfl⟩
  · rw [List.getElem?_append_right (by simpa using Nat.le_of_not_lt hi)] at h
    have := List.mem_of_getElem? h
    rw [List.mem_replicate] at this
    exact .inr this.2
theorem startE_ow {n : Nat} {ds : List Dt} {i : Nat} {c : Cell} (h : (startE n ds)[i]? = some c) (hc : c.isOw = true) : False := by
  rcases startE_get h with ⟨d, _, rfl⟩ | rfl <;> cases hc
theorem rl_start {K : Fr} {m : Option Addr} {F H : Hp} {k : Int} {N : List Str} {vs : List V} {ds : List Dt} (e : Ex F H) (c : Ctr m F H k) (r : RpA K m F vs ds) : Rl K m F (startE N.length ds) k (L2.start N vs) H where
  sub := e
  ctr := c
  len := by
    unfold startE L2.start
    simp [r.length]
  sh := fun i d h => by
    rcases startE_get h with ⟨d', h1, h2⟩ | h2
    · cases h2
      obtain ⟨v, hv, rv⟩ := r.get h1
      refine ⟨v, ?_, rv⟩
      unfold L2.start
      have hi := (List.getElem?_eq_some_iff.mp hv).1
      rw [List.getElem?_append_left (by simpa using hi), List.getElem?_map, hv]
      rfl
    · cases h2
  ow := fun i c h hc => (startE_ow h hc).elim
  sep := fun i j p ⟨c, h, hc, _⟩ _ => (startE_ow h hc).elim
/-- what a def gives, by its body -/
@[simp] def dDef (n sl : Nat) (body : DS) : Fn := fun ds k => if ds.length = n then (body (startE sl ds) k).bind fun o => match o with
  | .ret d k' => some (d, k')
  | .retL es k' => some (.list es, k')
  | .next _ k' => some (.none, k')
  | _ => none else none
@[simp] def dDefL (n sl : Nat) (body : DS) : FnL := fun ds k => if ds.length = n then (body (startE sl ds) k).bind fun o => match o with
  | .retL es k' => some (es, k')
  | _ => none else none
section
variable {P : Program} {w : World} {K : PySem.W.Frag} {mg : Str → Option Value} {base : Heap}
theorem fn_D {x qual : Str} {st : Stmt} {f : Addr} {fd : FuncData} {N ps : List Str} {j : Nat} (G : Fun K x qual st f fd) (S : FnScope N ps (defScope st)) (body : DS)
    (hb : ∀ (cdv : Value) (A : Around) (outer : List PySem.Env) (s : Shared) (H : Hp) (E : XK) (m : Option Addr) (F0 : Hp), Room j (A.deeper (envOfC qual (defScope st) s.heap.objs.size f cdv)) →
      PSs (cxOf CX0 P w K mg base N qual (defScope st) f cdv A outer s H E).nox (defBody st) (tS ⟨K, P, w, mg⟩ m F0 H (fun _ _ _ => False) body)) : FnOk P w K mg base CX0 (j + 1) f fd ps (spD ⟨K, P, w, mg⟩ (dDef ps.length N.length body)) := by
  refine G.ok S (fun vs H Q E h => ?_) (fun cdv A outer s H vs Q E hr h => ?_)
  · obtain ⟨m, F, k, ds, d, k', e, c, r, hf, q⟩ := h
    unfold dDef at hf
    split at hf
    · rw [r.length]
      assumption
    · cases hf
  · obtain ⟨m, F, k, ds, d, k', e, c, r, hf, q⟩ := h
    refine ⟨_, hb cdv A outer s H E m F hr, ?_⟩
    unfold dDef at hf
    split at hf
    · obtain ⟨o, h1, hf⟩ := Option.bind_eq_some_iff.mp hf
      refine ⟨F, _, k, o, ⟨rl_start e c r, .refl e, fun i p ⟨c, h, hc, _⟩ => (startE_ow h hc).elim⟩, h1, ?_⟩
      cases o with
      | ret d' k1 =>
        cases hf
        exact fun v F' H' g c' r' => q v F' H' g c' r'
      | retL es k1 =>
        cases hf
        exact fun p ws F' H' g c' hp fp h' r' => q _ (upd F' p (.lst ws)) H' (g.freeze hp h') (c'.freeze (c.ne hp)) (.lst (.inl (.inl upd_same)) (r'.mono (ex_freeze fp)))
      | next ρ k1 =>
        cases hf
        exact fun σ' F' H' _ R => q .non F' H' R.gr R.rl.ctr .non
      | _ => cases hf
    · cases hf
theorem fn_L {x qual : Str} {st : Stmt} {f : Addr} {fd : FuncData} {N ps : List Str} {j : Nat} (G : Fun K x qual st f fd) (S : FnScope N ps (defScope st)) (body : DS)
    (hb : ∀ (cdv : Value) (A : Around) (outer : List PySem.Env) (s : Shared) (H : Hp) (E : XK) (m : Option Addr) (F0 : Hp), Room j (A.deeper (envOfC qual (defScope st) s.heap.objs.size f cdv)) →
      PSs (cxOf CX0 P w K mg base N qual (defScope st) f cdv A outer s H E).nox (defBody st) (tS ⟨K, P, w, mg⟩ m F0 H (fun _ _ _ => False) body)) : FnOk P w K mg base CX0 (j + 1) f fd ps (spL ⟨K, P, w, mg⟩ (dDefL ps.length N.length body)) := by
  refine G.ok S (fun vs H Q E h => ?_) (fun cdv A outer s H vs Q E hr h => ?_)
  · obtain ⟨m, F, k, ds, d, k', e, c, r, hf, q⟩ := h
    unfold dDefL at hf
    split at hf
    · rw [r.length]
      assumption
    · cases hf
  · obtain ⟨m, F, k, ds, d, k', e, c, r, hf, q⟩ := h
    refine ⟨_, hb cdv A outer s H E m F hr, ?_⟩
    unfold dDefL at hf
    split at hf
    · obtain ⟨o, h1, hf⟩ := Option.bind_eq_some_iff.mp hf
      refine ⟨F, _, k, o, ⟨rl_start e c r, .refl e, fun i p ⟨c, h, hc, _⟩ => (startE_ow h hc).elim⟩, h1, ?_⟩
      cases o with
      | retL es k1 =>
        cases hf
        exact fun p ws F' H' g c' hp fp h' r' => q p ws F' H' g c' hp fp h' r'
      | _ => cases hf
    · cases hf
/-- a promise by another function that says at least as much -/
theorem spD_imp {K : Fr} {f g : Fn} (h : ∀ ds k d k', g ds k = some (d, k') → f ds k = some (d, k')) {vs : List V} {H : Hp} {Q : VK} {E : XK} : spD K g vs H Q E → spD K f vs H Q E := fun ⟨m, F, k, ds, d, k', e, c, r, hf, q⟩ => ⟨m, F, k, ds, d, k', e, c, r, h _ _ _ _ hf, q⟩
end
end Dn

set_option Elab.async false
set_option linter.all false
set_option maxRecDepth 100000
set_option maxHeartbeats 1000000
namespace Dn
open PySem PySem.Spec PyProof.Rows L2 Evl

/-! ### types compared -/
theorem slot_type_ne : Slot "type" (cmpInfo .NotEq).2.1 "object.__ne__" :=
  .of (owner := "object") (n := "__ne__") (by rw [typeLookup_type, builtinLookup_eq_fast]; kernel_rfl) (by decide +kernel) (by decide +kernel) (by decide +kernel)
    (by first | exact .inl (by decide +kernel) | exact .inr (by decide +kernel)) (by rw [isSubtype_type]; kernel_rfl)
theorem slot_type_ne_refl : Slot "type" (cmpInfo .NotEq).2.2 "object.__ne__" :=
  .of (owner := "object") (n := "__ne__") (by rw [typeLookup_type, builtinLookup_eq_fast]; kernel_rfl) (by decide +kernel) (by decide +kernel) (by decide +kernel)
    (by first | exact .inl (by decide +kernel) | exact .inr (by decide +kernel)) (by rw [isSubtype_type]; kernel_rfl)
theorem slot_type_eq' : Slot "type" "__eq__" "object.__eq__" := TypeEq.slot_type_eq
section
variable {prog : Program} {w : World} {A : Around} {E : Value → Shared → Prop} {s : Shared}
theorem objNe_ty {Z Y : String} {Q : Fin → Shared → Prop} (hX : ∀ s' : Shared, s'.TypeIs (.type Z) "type") (h : Q (.done (.ret (if (Value.type Z == Value.type Y) = true then .bool false else .notImplemented))) s) :
    wpAny (model prog w) A (Builtin.«object.__ne__» ⟨[.type Z, .type Y], []⟩) Q E s := by
  unfold Builtin.«object.__ne__»
  by_cases e : (Value.type Z == Value.type Y) = true
  · rw [if_pos e] at h
    repeat (first
      | with_reducible refine wpAny_cRoomFor_byValue rfl ?_
      | (refine wpAny_bind (m := callSpecialIfBound? (.type Z) (Str.ofString "__eq__") [.type Y]) (wpAny_callSpecialIfBound?_slot (hX s) slot_type_eq' (call_gives slot_type_eq' (hX s) F.entry_object_eq (F.args_object_eq_2 _ _) (TypeEq.object_eq_same rfl e) ?_)))
      | exact h
      | exact wpAny_pure h
      | (refine wpAny_bind (m := truthy (.bool _)) (wpAny_truthy_bool ?_))
      | wp_step)
  · rw [if_neg e] at h
    repeat (first
      | with_reducible refine wpAny_cRoomFor_byValue rfl ?_
      | (refine wpAny_bind (m := callSpecialIfBound? (.type Z) (Str.ofString "__eq__") [.type Y]) (wpAny_callSpecialIfBound?_slot (hX s) slot_type_eq' (call_gives slot_type_eq' (hX s) F.entry_object_eq (F.args_object_eq_2 _ _) (TypeEq.object_eq_other rfl (by simpa using e)) ?_)))
      | exact h
      | exact wpAny_pure h
      | (refine wpAny_bind (m := truthy (.bool _)) (wpAny_truthy_bool ?_))
      | wp_step)
theorem call_objNe {Z Y : String} {Q : Value → Shared → Prop} (hX : ∀ s' : Shared, s'.TypeIs (.type Z) "type") (h : Q (if (Value.type Z == Value.type Y) = true then .bool false else .notImplemented) s) :
    wpAny (model prog w) A (call (.builtin "object.__ne__") [.type Z, .type Y]) Q E s :=
  wpAny_call (codeAny_call_builtin slot_type_ne.plain F.cmpEntry_ne (slot_type_ne.check _ _ _ _ _ _ _ _ (hX s) (F.cmpArgs_ne _ _) (objNe_ty hX h)))
theorem beq_comm_ty {Z Y : String} (h : (Value.type Z == Value.type Y) = false) : (Value.type Y == Value.type Z) = false := by
  rw [Bool.eq_false_iff] at h ⊢
  intro e
  exact h (by rw [beq_iff_eq] at e ⊢; exact e.symm)
theorem ne_types {Z Y : String} {Q : Value → Shared → Prop} (hX : ∀ s' : Shared, s'.TypeIs (.type Z) "type") (hY : ∀ s' : Shared, s'.TypeIs (.type Y) "type") (h : Q (.bool (!(Value.type Z == Value.type Y))) s) : wpAny (model prog w) A (compareOp .NotEq (.type Z) (.type Y)) Q E s := by
  show wpAny _ A (richCompare .NotEq _ _) Q E s
  cases e : (Value.type Z == Value.type Y) with
  | true =>
    rw [e] at h
    exact wpAny_richCompare_same (T := "type") (hX s) (hY s) slot_type_ne (call_objNe hX (by rw [if_pos e]; exact ⟨(fun z => nomatch z), h⟩))
  | false =>
    rw [e] at h
    have h2 : ∀ (Q' : Value → Shared → Prop), Q' .notImplemented s → wpAny (model prog w) A (call (.builtin "object.__ne__") [.type Z, .type Y]) Q' E s := fun Q' q => call_objNe hX (by rw [e, if_neg Bool.false_ne_true]; exact q)
    have h3 : ∀ (Q' : Value → Shared → Prop), Q' .notImplemented s → wpAny (model prog w) A (call (.builtin "object.__ne__") [.type Y, .type Z]) Q' E s := fun Q' q => call_objNe hY (by rw [beq_comm_ty e, if_neg Bool.false_ne_true]; exact q)
    rcases hi : cmpInfo CmpOp.NotEq with ⟨sym, f, r⟩
    have h1 := slot_type_ne
    have h1r := slot_type_ne_refl
    rw [hi] at h1 h1r
    simp only [richCompare, hi, (hX s).oneThing_none]
    try with_reducible refine wpAny_holding ?_
    refine wpAny_bind (wpAny_cRoomFor_or (.inl rfl) ?_)
    refine wpAny_bind (wpAny_typeOf (hX s) (wpAny_bind (wpAny_typeOf (hY s) ?_)))
    simp only [bne_self_eq_false, Bool.false_eq_true, if_false, pure_bind, Bool.not_false, if_true]
    refine wpAny_bind (m := tryCompare (.type Z) _ (.type Y)) (wpAny_tryCompare_declines (hX s) h1 (h2 _ ⟨rfl, ?_⟩))
    refine wpAny_bind (m := tryCompare (.type Y) _ (.type Z)) (wpAny_tryCompare_declines (hY s) h1r (h3 _ ⟨rfl, ?_⟩))
    refine wpAny_bind (wpAny_rule (wpAny_bind (wpAny_of_eq (isSame_plain rfl) (wpAny_pure (by rw [e]; exact h)))))
theorem eq_types {Z Y : String} {Q : Value → Shared → Prop} (hX : ∀ s' : Shared, s'.TypeIs (.type Z) "type") (hY : ∀ s' : Shared, s'.TypeIs (.type Y) "type") (h : Q (.bool (Value.type Z == Value.type Y)) s) : wpAny (model prog w) A (compareOp .Eq (.type Z) (.type Y)) Q E s := by
  cases e : (Value.type Z == Value.type Y) with
  | true =>
    rw [e] at h
    rw [beq_iff_eq] at e
    rw [← e]
    exact TypeEq.eq_type_same hX h
  | false =>
    rw [e] at h
    exact TypeEq.eq_type_other hX hY e h
end
end Dn

set_option Elab.async false
set_option linter.all false
set_option maxRecDepth 100000
set_option maxHeartbeats 1000000
namespace Dn
open PySem PySem.Spec PyProof.Rows L2 Evl

/-! ### data that can be compared -/
mutual
theorem Rp.dp {K : Fr} {m : Option Addr} {F : Hp} : ∀ {v : V} {d : Dt}, Rp K m F v d → d.canLay0 = true → Dp K.K F v d
  | _, _, .non, _ => .non
  | _, _, .bl b, _ => .bl b
  | _, _, .int i, _ => .int i
  | _, _, .str x, _ => .str x
  | _, _, .lst h r, l => .lst h (RpA.dp r (by simpa [PyData.canLay0] using l))
  | _, _, .tup h r, l => .tup h.sq (RpA.dp r (by simpa [PyData.canLay0] using l))
  | _, _, .dK h r, l => by simp [PyData.canLay0] at l
  | _, _, .dT h r, l => by simp [dictD, PyData.canLay0] at l
  | _, _, .ctr h, l => by simp [ctrD, PyData.canLay0] at l
  | _, _, .exc _ h, l => by simp [excD, PyData.canLay0] at l
theorem RpA.dp {K : Fr} {m : Option Addr} {F : Hp} : ∀ {vs : List V} {ds : List Dt}, RpA K m F vs ds → PyData.canLayAll0 ds = true → DpAll K.K F vs ds
  | _, _, .nil, _ => .nil
  | _, _, .cons h r, l => by
    rw [PyData.canLayAll0, Bool.and_eq_true] at l
    exact .cons (Rp.dp h l.1) (RpA.dp r l.2)
end
/-- the two ends of an expression's value -/
theorem ro_bl {K : Fr} {m : Option Addr} {F H : Hp} {k : Int} {Q : VK} {b : Bool} {d : Dt} (e : Ex F H) (c : Ctr m F H k) (hd : d = .bool b) (q : ∀ v F' H', Grow m F H F' H' → Ctr m F' H' k → Rp K m F' v d → Q v H') : Q (.bl b) H := by
  subst hd
  exact q _ F H (.refl e) c (.bl b)
def okD (d : Dt) : Bool := SeqAt.shaped d
@[simp] def gEq (x y : Dt) : Option Dt := if okD x = true ∧ okD y = true then some (.bool (PyData.eqv x y)) else none
@[simp] def gNe (x y : Dt) : Option Dt := if okD x = true ∧ okD y = true then some (.bool (!PyData.eqv x y)) else none
section
variable {X : Cx} {m : Option Addr}
theorem ok_eq (hu : X.A.units + 64 < cLine) : OpR X (compareOp .Eq) (roD X.fr m gEq) := by
  intro pins s σ H x y v u Q I rx ry ⟨F, k, dx, dy, d, e, c, r1, r2, hg, q⟩
  unfold gEq at hg
  split at hg
  · rename_i h
    cases hg
    exact op_eqD hu pins s σ H x y v u Q I rx ry ⟨dx, dy, (r1.whole e).dp (SeqAt.canLay_of_shaped h.1), (r2.whole e).dp (SeqAt.canLay_of_shaped h.2), h.1, h.2, ro_bl e c rfl q⟩
  · cases hg
theorem ok_ne (hu : X.A.units + 64 < cLine) : OpR X (compareOp .NotEq) (roD X.fr m gNe) := by
  intro pins s σ H x y v u Q I rx ry ⟨F, k, dx, dy, d, e, c, r1, r2, hg, q⟩
  unfold gNe at hg
  split at hg
  · rename_i h
    cases hg
    exact op_neD hu pins s σ H x y v u Q I rx ry ⟨dx, dy, (r1.whole e).dp (SeqAt.canLay_of_shaped h.1), (r2.whole e).dp (SeqAt.canLay_of_shaped h.2), h.1, h.2, ro_bl e c rfl q⟩
  · cases hg
end

/-! ### order -/
mutual
def ltD : Dt → Dt → Option Bool
  | .int a, .int b => some (decide (a < b))
  | .str a, .str b => some (decide (a.cps.toList < b.cps.toList))
  | .tuple xs, .tuple ys => ltA xs ys
  | _, _ => none
def ltA : List Dt → List Dt → Option Bool
  | [], [] => some false
  | [], _ :: _ => some true
  | _ :: _, [] => some false
  | x :: xs, y :: ys => (ltA xs ys).bind fun r => if PyData.eqv x y = true then some r else ltD x y
end
mutual
def leD : Dt → Dt → Option Bool
  | .int a, .int b => some (decide (a ≤ b))
  | .str a, .str b => some (!decide (b.cps.toList < a.cps.toList))
  | .tuple xs, .tuple ys => leA xs ys
  | _, _ => none
def leA : List Dt → List Dt → Option Bool
  | [], _ => some true
  | _ :: _, [] => some false
  | x :: xs, y :: ys => (leA xs ys).bind fun r => if PyData.eqv x y = true then some r else leD x y
end
theorem lexAt_shift {e r : Nat → Bool} {z : Bool} : ∀ {n i : Nat}, Ob.lexAt e r z (i + 1) n = Ob.lexAt (fun j => e (j + 1)) (fun j => r (j + 1)) z i n
  | 0, _ => rfl
  | n + 1, i => by
    rw [Ob.lexAt_succ, Ob.lexAt_succ, lexAt_shift]
def eqAtL (xs ys : List Dt) (j : Nat) : Bool := PyData.eqv (xs.getD j .none) (ys.getD j .none)
def opAtL (f : Dt → Dt → Option Bool) (xs ys : List Dt) (j : Nat) : Bool := (f (xs.getD j .none) (ys.getD j .none)).getD false
theorem lex_lt : ∀ (xs ys : List Dt) (k : Bool), ltA xs ys = some k → Ob.lexAt (eqAtL xs ys) (opAtL ltD xs ys) (decide (xs.length < ys.length)) 0 (min xs.length ys.length) = k
  | [], [], k, h => by
    unfold ltA at h
    cases h
    rfl
  | [], _ :: _, k, h => by
    unfold ltA at h
    cases h
    rfl
  | _ :: _, [], k, h => by
    unfold ltA at h
    cases h
    rfl
  | x :: xs, y :: ys, k, h => by
    rw [ltA] at h
    rw [List.length_cons, List.length_cons, Nat.add_min_add_right, Ob.lexAt_succ]
    have e0 : eqAtL (x :: xs) (y :: ys) 0 = PyData.eqv x y := rfl
    have r0 : opAtL ltD (x :: xs) (y :: ys) 0 = (ltD x y).getD false := rfl
    rw [e0, r0]
    obtain ⟨k', h', h⟩ := Option.bind_eq_some_iff.mp h
    by_cases hc : PyData.eqv x y = true
    · rw [if_pos hc] at h
      cases h
      rw [if_pos hc, lexAt_shift, show decide (xs.length + 1 < ys.length + 1) = decide (xs.length < ys.length) by simp]
      exact lex_lt xs ys _ h'
    · rw [if_neg hc] at h
      rw [if_neg hc, h]
      rfl
theorem lex_le : ∀ (xs ys : List Dt) (k : Bool), leA xs ys = some k → Ob.lexAt (eqAtL xs ys) (opAtL leD xs ys) (decide (xs.length ≤ ys.length)) 0 (min xs.length ys.length) = k
  | [], ys, k, h => by
    unfold leA at h
    cases h
    simp [Ob.lexAt]
  | _ :: _, [], k, h => by
    unfold leA at h
    cases h
    rfl
  | x :: xs, y :: ys, k, h => by
    rw [leA] at h
    rw [List.length_cons, List.length_cons, Nat.add_min_add_right, Ob.lexAt_succ]
    have e0 : eqAtL (x :: xs) (y :: ys) 0 = PyData.eqv x y := rfl
    have r0 : opAtL leD (x :: xs) (y :: ys) 0 = (leD x y).getD false := rfl
    rw [e0, r0]
    obtain ⟨k', h', h⟩ := Option.bind_eq_some_iff.mp h
    by_cases hc : PyData.eqv x y = true
    · rw [if_pos hc] at h
      cases h
      rw [if_pos hc, lexAt_shift, show decide (xs.length + 1 ≤ ys.length + 1) = decide (xs.length ≤ ys.length) by simp]
      exact lex_le xs ys _ h'
    · rw [if_neg hc] at h
      rw [if_neg hc, h]
      rfl
theorem readsAll_get {h : Heap} : ∀ {vs : List Value} {ds : List Dt} {as : List Addr} {j : Nat} (hj : j < vs.length), ReadsAll h vs ds as → ∃ bs, Reads h vs[j] (ds.getD j .none) bs
  | _, _, _, 0, _, .cons r _ => ⟨_, r⟩
  | _, _, _, j + 1, hj, .cons _ r => readsAll_get (j := j) (by simpa using hj) r
theorem readsAll_len {h : Heap} : ∀ {vs : List Value} {ds : List Dt} {as : List Addr}, ReadsAll h vs ds as → vs.length = ds.length
  | _, _, _, .nil => rfl
  | _, _, _, .cons _ r => congrArg (· + 1) (readsAll_len r)
theorem lay_get : ∀ {ds : List Dt} {j : Nat}, PyData.canLayAll0 ds = true → (ds.getD j .none).canLay0 = true
  | [], _, _ => by simp [PyData.canLay0]
  | d :: ds, 0, h => by
    rw [PyData.canLayAll0, Bool.and_eq_true] at h
    exact h.1
  | d :: ds, j + 1, h => by
    rw [PyData.canLayAll0, Bool.and_eq_true] at h
    exact lay_get (ds := ds) (j := j) h.2
theorem depth_get : ∀ {ds : List Dt} {j : Nat}, (ds.getD j .none).depth ≤ PyData.depthAll ds
  | [], _ => by simp [PyData.depth]
  | d :: ds, 0 => by
    rw [PyData.depthAll]
    exact Nat.le_max_left _ _
  | d :: ds, j + 1 => by
    rw [PyData.depthAll]
    exact Nat.le_trans (depth_get (ds := ds) (j := j)) (Nat.le_max_right _ _)
theorem ltA_at : ∀ {xs ys : List Dt} {k : Bool}, ltA xs ys = some k → ∀ j, j < xs.length → j < ys.length → eqAtL xs ys j = false → ltD (xs.getD j .none) (ys.getD j .none) = some (opAtL ltD xs ys j)
  | [], _, _, _, _, h1, _, _ => by simp at h1
  | _ :: _, [], _, _, _, _, h2, _ => by simp at h2
  | x :: xs, y :: ys, k, h, 0, _, _, he => by
    rw [ltA] at h
    obtain ⟨k', h', h⟩ := Option.bind_eq_some_iff.mp h
    have e0 : eqAtL (x :: xs) (y :: ys) 0 = PyData.eqv x y := rfl
    rw [e0] at he
    rw [he, if_neg Bool.false_ne_true] at h
    show ltD x y = some ((ltD x y).getD false)
    rw [h]
    rfl
  | x :: xs, y :: ys, k, h, j + 1, h1, h2, he => by
    rw [ltA] at h
    obtain ⟨k', h', h⟩ := Option.bind_eq_some_iff.mp h
    exact ltA_at h' j (by simpa using h1) (by simpa using h2) he
theorem leA_at : ∀ {xs ys : List Dt} {k : Bool}, leA xs ys = some k → ∀ j, j < xs.length → j < ys.length → eqAtL xs ys j = false → leD (xs.getD j .none) (ys.getD j .none) = some (opAtL leD xs ys j)
  | [], _, _, _, _, h1, _, _ => by simp at h1
  | _ :: _, [], _, _, _, _, h2, _ => by simp at h2
  | x :: xs, y :: ys, k, h, 0, _, _, he => by
    rw [leA] at h
    obtain ⟨k', h', h⟩ := Option.bind_eq_some_iff.mp h
    have e0 : eqAtL (x :: xs) (y :: ys) 0 = PyData.eqv x y := rfl
    rw [e0] at he
    rw [he, if_neg Bool.false_ne_true] at h
    show leD x y = some ((leD x y).getD false)
    rw [h]
    rfl
  | x :: xs, y :: ys, k, h, j + 1, h1, h2, he => by
    rw [leA] at h
    obtain ⟨k', h', h⟩ := Option.bind_eq_some_iff.mp h
    exact leA_at h' j (by simpa using h1) (by simpa using h2) he

theorem rc_lt : ∀ (n : Nat) (da db : Dt) (A : Around) (s : Shared) (a b : Value) (as bs : List Addr) (k : Bool), da.depth < n → Reads s.heap a da as → Reads s.heap b db bs → da.canLay0 = true → db.canLay0 = true → A.units + da.depth < cLine → ltD da db = some k → Ob.RcOp .Lt A s a b k
  | 0, _, _, _, _, _, _, _, _, _, hn, _, _, _, _, _, _ => absurd hn (Nat.not_lt_zero _)
  | n + 1, da, db, A, s, a, b, as, bs, k, hn, ra, rb, la, lb, hu, h => by
    cases da with
    | int x =>
      cases db with
      | int y =>
        cases ra
        cases rb
        rw [ltD] at h
        cases h
        exact Ob.RcOp.lt_int _ _ _ _
      | _ => simp [ltD] at h
    | str x =>
      cases db with
      | str y =>
        cases ra
        cases rb
        rw [ltD] at h
        cases h
        exact fun _ _ _ _ q => PySem.P.lt_str q
      | _ => simp [ltD] at h
    | tuple xs =>
      cases db with
      | tuple ys =>
        rw [ltD] at h
        rw [PyData.canLay0] at la lb
        rw [PyData.depth] at hu hn
        cases ra with
        | tuple h1 h2 h3 h4 =>
          cases rb with
          | tuple k1 k2 k3 k4 =>
            rename_i l o vs n1 l' o' vs' n'
            have e1 : vs.size = xs.length := by
              rw [← readsAll_len h4]
              simp
            have e2 : vs'.size = ys.length := by
              rw [← readsAll_len k4]
              simp
            have hg := lex_lt xs ys k h
            rw [← hg, ← e1, ← e2]
            refine Ob.RcOp.tuples_lt ⟨o, h1, h2, n1, h3⟩ ⟨o', k1, k2, n', k3⟩ (by omega) (fun j z1 z2 => ?_) (fun j z1 z2 he => ?_)
            · obtain ⟨as', r1⟩ := readsAll_get (j := j) (by simpa using z1) h4
              obtain ⟨bs', r2⟩ := readsAll_get (j := j) (by simpa using z2) k4
              have d1 := depth_get (ds := xs) (j := j)
              exact SeqAt.eqAt_reads _ _ _ _ _ _ _ _ (by simpa using r1) (by simpa using r2) (lay_get la) (lay_get lb) (by
                show A.units + 1 + _ < _
                omega)
            · obtain ⟨as', r1⟩ := readsAll_get (j := j) (by simpa using z1) h4
              obtain ⟨bs', r2⟩ := readsAll_get (j := j) (by simpa using z2) k4
              have d1 := depth_get (ds := xs) (j := j)
              exact rc_lt n _ _ _ _ _ _ _ _ _ (by omega) (by simpa using r1) (by simpa using r2) (lay_get la) (lay_get lb) (by
                show A.units + 1 + _ < _
                omega) (ltA_at h j (by omega) (by omega) he)
      | _ => simp [ltD] at h
    | _ => simp [ltD] at h
theorem rc_le : ∀ (n : Nat) (da db : Dt) (A : Around) (s : Shared) (a b : Value) (as bs : List Addr) (k : Bool), da.depth < n → Reads s.heap a da as → Reads s.heap b db bs → da.canLay0 = true → db.canLay0 = true → A.units + da.depth < cLine → leD da db = some k → Ob.RcOp .LtE A s a b k
  | 0, _, _, _, _, _, _, _, _, _, hn, _, _, _, _, _, _ => absurd hn (Nat.not_lt_zero _)
  | n + 1, da, db, A, s, a, b, as, bs, k, hn, ra, rb, la, lb, hu, h => by
    cases da with
    | int x =>
      cases db with
      | int y =>
        cases ra
        cases rb
        rw [leD] at h
        cases h
        exact Ob.RcOp.le_int _ _ _ _
      | _ => simp [leD] at h
    | str x =>
      cases db with
      | str y =>
        cases ra
        cases rb
        rw [leD] at h
        cases h
        exact fun _ _ _ _ q => PySem.P.le_str q
      | _ => simp [leD] at h
    | tuple xs =>
      cases db with
      | tuple ys =>
        rw [leD] at h
        rw [PyData.canLay0] at la lb
        rw [PyData.depth] at hu hn
        cases ra with
        | tuple h1 h2 h3 h4 =>
          cases rb with
          | tuple k1 k2 k3 k4 =>
            rename_i l o vs n1 l' o' vs' n'
            have e1 : vs.size = xs.length := by
              rw [← readsAll_len h4]
              simp
            have e2 : vs'.size = ys.length := by
              rw [← readsAll_len k4]
              simp
            have hg := lex_le xs ys k h
            rw [← hg, ← e1, ← e2]
            refine Ob.RcOp.tuples_le ⟨o, h1, h2, n1, h3⟩ ⟨o', k1, k2, n', k3⟩ (by omega) (fun j z1 z2 => ?_) (fun j z1 z2 he => ?_)
            · obtain ⟨as', r1⟩ := readsAll_get (j := j) (by simpa using z1) h4
              obtain ⟨bs', r2⟩ := readsAll_get (j := j) (by simpa using z2) k4
              have d1 := depth_get (ds := xs) (j := j)
              exact SeqAt.eqAt_reads _ _ _ _ _ _ _ _ (by simpa using r1) (by simpa using r2) (lay_get la) (lay_get lb) (by
                show A.units + 1 + _ < _
                omega)
            · obtain ⟨as', r1⟩ := readsAll_get (j := j) (by simpa using z1) h4
              obtain ⟨bs', r2⟩ := readsAll_get (j := j) (by simpa using z2) k4
              have d1 := depth_get (ds := xs) (j := j)
              exact rc_le n _ _ _ _ _ _ _ _ _ (by omega) (by simpa using r1) (by simpa using r2) (lay_get la) (lay_get lb) (by
                show A.units + 1 + _ < _
                omega) (leA_at h j (by omega) (by omega) he)
      | _ => simp [leD] at h
    | _ => simp [leD] at h

@[simp] def gLt (x y : Dt) : Option Dt := if okD x = true ∧ okD y = true then (ltD x y).map .bool else none
@[simp] def gLe (x y : Dt) : Option Dt := if okD x = true ∧ okD y = true then (leD x y).map .bool else none
section
variable {X : Cx} {m : Option Addr}
theorem ok_lt (hu : X.A.units + 64 < cLine) : OpR X (compareOp .Lt) (roD X.fr m gLt) := by
  intro pins s σ H x y v u Q I rx ry ⟨F, k, dx, dy, d, e, c, r1, r2, hg, q⟩
  unfold gLt at hg
  split at hg
  · rename_i h
    cases hl : ltD dx dy with
    | none =>
      rw [hl] at hg
      cases hg
    | some b =>
      rw [hl] at hg
      cases hg
      obtain ⟨as, q1⟩ := Dp.reads I dx x v ((r1.whole e).dp (SeqAt.canLay_of_shaped h.1)) rx
      obtain ⟨bs, q2⟩ := Dp.reads I dy y u ((r2.whole e).dp (SeqAt.canLay_of_shaped h.2)) ry
      have hdp := SeqAt.depth_of_shaped h.1
      exact rc_lt _ _ _ X.A _ _ _ _ _ _ (Nat.lt_succ_self _) q1 q2 (SeqAt.canLay_of_shaped h.1) (SeqAt.canLay_of_shaped h.2) (by omega) hl X.prog X.w X.xe (EP X pins σ Q) ⟨.bl b, H, I, rfl, ro_bl e c rfl q⟩
  · cases hg
theorem ok_le (hu : X.A.units + 64 < cLine) : OpR X (compareOp .LtE) (roD X.fr m gLe) := by
  intro pins s σ H x y v u Q I rx ry ⟨F, k, dx, dy, d, e, c, r1, r2, hg, q⟩
  unfold gLe at hg
  split at hg
  · rename_i h
    cases hl : leD dx dy with
    | none =>
      rw [hl] at hg
      cases hg
    | some b =>
      rw [hl] at hg
      cases hg
      obtain ⟨as, q1⟩ := Dp.reads I dx x v ((r1.whole e).dp (SeqAt.canLay_of_shaped h.1)) rx
      obtain ⟨bs, q2⟩ := Dp.reads I dy y u ((r2.whole e).dp (SeqAt.canLay_of_shaped h.2)) ry
      have hdp := SeqAt.depth_of_shaped h.1
      exact rc_le _ _ _ X.A _ _ _ _ _ _ (Nat.lt_succ_self _) q1 q2 (SeqAt.canLay_of_shaped h.1) (SeqAt.canLay_of_shaped h.2) (by omega) hl X.prog X.w X.xe (EP X pins σ Q) ⟨.bl b, H, I, rfl, ro_bl e c rfl q⟩
  · cases hg
end
end Dn

set_option Elab.async false
set_option linter.all false
set_option maxRecDepth 100000
set_option maxHeartbeats 1000000
namespace Dn
open PySem PySem.Spec PyProof.Rows L2 Evl

theorem ro_int {K : Fr} {m : Option Addr} {F H : Hp} {k : Int} {Q : VK} {b : Int} {d : Dt} (e : Ex F H) (c : Ctr m F H k) (hd : d = .int b) (q : ∀ v F' H', Grow m F H F' H' → Ctr m F' H' k → Rp K m F' v d → Q v H') : Q (.int b) H := by
  subst hd
  exact q _ F H (.refl e) c (.int b)
theorem ro_str {K : Fr} {m : Option Addr} {F H : Hp} {k : Int} {Q : VK} {b : Str} {d : Dt} (e : Ex F H) (c : Ctr m F H k) (hd : d = .str b) (q : ∀ v F' H', Grow m F H F' H' → Ctr m F' H' k → Rp K m F' v d → Q v H') : Q (.str b) H := by
  subst hd
  exact q _ F H (.refl e) c (.str b)
theorem ro_tup {K : Fr} {m : Option Addr} {F H : Hp} {k : Int} {Q : VK} {vs : List V} {ds : List Dt} {d : Dt} (e : Ex F H) (c : Ctr m F H k) (r : RpA K m F vs ds) (hd : d = .tuple ds) (q : ∀ v F' H', Grow m F H F' H' → Ctr m F' H' k → Rp K m F' v d → Q v H') {p : Addr} (hp : H p = none) : Q (.ref p) (upd H p (.tup vs)) := by
  subst hd
  obtain ⟨z1, z2, z3⟩ := new_tup e c r hp
  exact q _ _ _ z1 z2 z3

@[simp] def gAdd : Dt → Dt → Option Dt
  | .int a, .int b => some (.int (a + b))
  | .str a, .str b => if a.length + b.length ≤ 1000000 then some (.str (a ++ b)) else none
  | .tuple xs, .tuple ys => if xs.length + ys.length ≤ 1000000 then some (.tuple (xs ++ ys)) else none
  | .list xs, .list ys => if xs.length + ys.length ≤ 1000000 then some (.list (xs ++ ys)) else none
  | _, _ => none
@[simp] def gCat : Dt → Dt → Option (List Dt)
  | .list xs, .list ys => if xs.length + ys.length ≤ 1000000 then some (xs ++ ys) else none
  | _, _ => none
@[simp] def gSub : Dt → Dt → Option Dt
  | .int a, .int b => some (.int (a - b))
  | _, _ => none
def repStr (x : Str) (n : Nat) : Str := ⟨(List.replicate n x.cps).foldl (· ++ ·) #[]⟩
@[simp] def gMul : Dt → Dt → Option Dt
  | .int a, .int b => if (-(2 ^ 64) < a ∧ a < 2 ^ 64) ∨ (-(2 ^ 64) < b ∧ b < 2 ^ 64) then some (.int (a * b)) else none
  | .str x, .int n => if 0 ≤ n ∧ n ≤ 1000 ∧ x.length ≤ 1000 then some (.str (repStr x n.toNat)) else none
  | _, _ => none
@[simp] def gRep : Dt → Dt → Option (List Dt)
  | .list xs, .int n => if 0 ≤ n ∧ n ≤ 1000 ∧ xs.length ≤ 1000 then some (List.replicate n.toNat xs).flatten else none
  | _, _ => none
@[simp] def gMod : Dt → Dt → Option Dt
  | .int a, .int b => if 0 < b then some (.int (a % b)) else none
  | _, _ => none
@[simp] def gFdiv : Dt → Dt → Option Dt
  | .int a, .int b => if 0 < b ∧ b < 1073741824 then some (.int (a / b)) else none
  | _, _ => none
@[simp] def gNeg : Dt → Option Dt
  | .int a => some (.int (-a))
  | _ => none
section
variable {X : Cx} {m : Option Addr}
theorem ok_sub : OpR X (binaryOp .Sub) (roD X.fr m gSub) := by
  intro pins s σ H x y v u Q I rx ry ⟨F, k, dx, dy, d, e, c, r1, r2, hg, q⟩
  unfold gSub at hg
  split at hg
  · cases hg
    exact op_sub pins s σ H x y v u Q I rx ry ⟨_, _, r1.int, r2.int, ro_int e c rfl q⟩
  · cases hg
theorem foldl_arr (a : Array Nat) : ∀ (n : Nat) (acc : Array Nat), acc.size + a.size * n = ((List.replicate n a).foldl (· ++ ·) acc).size
  | 0, acc => by simp
  | n + 1, acc => by
    rw [List.replicate_succ, List.foldl_cons, ← foldl_arr a n (acc ++ a), Array.size_append, Nat.mul_succ]
    omega
theorem ok_mul : OpR X (binaryOp .Mult) (roD X.fr m gMul) := by
  intro pins s σ H x y v u Q I rx ry ⟨F, k, dx, dy, d, e, c, r1, r2, hg, q⟩
  unfold gMul at hg
  split at hg
  · split at hg
    · cases hg
      exact op_mul pins s σ H x y v u Q I rx ry ⟨_, _, r1.int, r2.int, ‹_›, ro_int e c rfl q⟩
    · cases hg
  · rename_i z n
    split at hg
    · rename_i hb
      cases hg
      have ex := r1.str
      have ey := r2.int
      subst ex ey
      obtain ⟨t, rfl⟩ := rx
      obtain ⟨t', rfl⟩ := ry
      have hq : ∀ (w : Str) (tk : Tok) (s' : Shared), w = ⟨(List.replicate n.toNat z.cps).foldl (· ++ ·) #[]⟩ → Inv X pins σ H s' → EP X pins σ Q (.str w tk) s' := fun w tk s' ew I' => by
        subst ew
        exact ⟨.str _, H, I', ⟨_, rfl⟩, ro_str e c rfl q⟩
      refine PySem.P.mul_str ?_ (fun h1 _ => ?_) (fun h1 _ => ?_) ?_
      · rw [decide_eq_false (by omega), decide_eq_false (by omega)]
        rfl
      · have h5 : z.length * n.toNat ≤ 1000 * 1000 := Nat.mul_le_mul hb.2.2 (by omega)
        have h7 : (z.length : Int) * n = ((z.length * n.toNat : Nat) : Int) := by
          rw [Int.natCast_mul, Int.toNat_of_nonneg hb.1]
        have h8 : (z.length : Int) ≤ (2 ^ 63 - 1) / n := Int.le_ediv_of_mul_le (by omega) (by
          rw [h7]
          omega)
        omega
      · have h5 : z.length * n.toNat ≤ 1000 * 1000 := Nat.mul_le_mul hb.2.2 (by omega)
        have h6 : z.length * n.toNat ≤ sizeLine := small_line h5
        unfold PySem.Builtin.Str.tooLong
        simpa using h6
      · by_cases h1 : n < 1
        · rw [if_pos h1]
          have hn : n.toNat = 0 := by omega
          refine ⟨by decide, hq _ _ _ ?_ (I.tok _)⟩
          rw [hn]
          rfl
        · rw [if_neg h1]
          by_cases h2 : (n == 1 || z.length == 0) = true
          · rw [if_pos h2]
            refine hq _ _ _ ?_ I
            rw [Bool.or_eq_true, beq_iff_eq, beq_iff_eq] at h2
            rcases h2 with h2 | h2
            · subst h2
              simp
            · have hz : z.cps = #[] := Array.eq_empty_of_size_eq_zero h2
              rw [hz]
              have : ((List.replicate n.toNat (#[] : Array Nat)).foldl (· ++ ·) #[]) = #[] := Array.eq_empty_of_size_eq_zero (by rw [← foldl_arr]; simp)
              rw [this]
              cases z
              simp at hz
              rw [hz]
          · rw [if_neg h2]
            refine ⟨?_, hq _ _ _ rfl (I.tok _)⟩
            have h5 : z.length * n.toNat ≤ 1000 * 1000 := Nat.mul_le_mul hb.2.2 (by omega)
            show ((List.replicate n.toNat z.cps).foldl (· ++ ·) #[]).size ≤ sizeLine
            rw [← foldl_arr]
            refine small_line (Nat.le_trans ?_ h5)
            simp [Str.length]
    · cases hg
  · cases hg
theorem ok_mod : OpR X (binaryOp .Mod) (roD X.fr m gMod) := by
  intro pins s σ H x y v u Q I rx ry ⟨F, k, dx, dy, d, e, c, r1, r2, hg, q⟩
  unfold gMod at hg
  split at hg
  · split at hg
    · cases hg
      exact op_mod pins s σ H x y v u Q I rx ry ⟨_, _, r1.int, r2.int, ‹_›, ro_int e c rfl q⟩
    · cases hg
  · cases hg
theorem ok_fdiv : OpR X (binaryOp .FloorDiv) (roD X.fr m gFdiv) := by
  intro pins s σ H x y v u Q I rx ry ⟨F, k, dx, dy, d, e, c, r1, r2, hg, q⟩
  unfold gFdiv at hg
  split at hg
  · split at hg
    · cases hg
      exact op_fdiv pins s σ H x y v u Q I rx ry ⟨_, _, r1.int, r2.int, ‹_›, ro_int e c rfl q⟩
    · cases hg
  · cases hg
theorem ok_neg : UnR X (unaryOp .USub) (ruD X.fr m gNeg) := by
  intro pins s σ H x v Q I rx ⟨F, k, dx, d, e, c, r1, hg, q⟩
  unfold gNeg at hg
  split at hg
  · cases hg
    exact un_neg pins s σ H x v Q I rx ⟨_, r1.int, ro_int e c rfl q⟩
  · cases hg
/-- xs + ys, lists that are read -/
theorem ok_cat : OpR X (binaryOp .Add) (rlD X.fr m gCat) := by
  intro pins s σ H x y v u Q I rx ry ⟨F, k, dx, dy, ds, e, c, r1, r2, hg, q⟩
  unfold gCat at hg
  split at hg
  · split at hg
    · rename_i hl
      cases hg
      obtain ⟨a, xs, rfl, h1, q1⟩ := r1.lst e
      obtain ⟨b, ys, rfl, h2, q2⟩ := r2.lst e
      cases rx
      cases ry
      obtain ⟨its, rv, ⟨⟨cls, dd, data, sl⟩, n, ho, hc, hd, hda⟩, hz⟩ := I.list h1
      obtain ⟨its2, rv2, ⟨⟨cls2, dd2, data2, sl2⟩, n2, ho2, hc2, hd2, hda2⟩, hz2⟩ := I.list h2
      simp only at hc hda hc2 hda2
      subst hc hda hc2 hda2
      have hsz : xs.length + ys.length ≤ 1000000 := by rw [q1.length, q2.length]; exact hl
      refine concat_meets ⟨_, ho, rfl⟩ ⟨_, ho2, rfl⟩ noFill_list_add seq_list_add PySem.F.slot_list_add PySem.F.entry_list_add (PySem.F.args_list_add_2 _ _) (PyProof.Rows.list_addW a b its.toArray its2.toArray n n2 dd dd2 sl sl2 (by rw [List.size_toArray, List.size_toArray, ← rv.length, ← rv2.length]; exact small_line hsz)) ⟨ho, ho2, ?_⟩
      have ea : its.toArray ++ its2.toArray = (its ++ its2).toArray := by simp
      rw [ea]
      exact ⟨.ref _, _, I.lnew (t' := s.toks) (rv.append rv2) (by rw [List.length_append]; exact small_line hsz), rfl, q _ _ _ I.fresh rfl (q1.append q2)⟩
    · cases hg
  · cases hg
theorem ok_add : OpR X (binaryOp .Add) (roD X.fr m gAdd) := by
  intro pins s σ H x y v u Q I rx ry ⟨F, k, dx, dy, d, e, c, r1, r2, hg, q⟩
  unfold gAdd at hg
  split at hg
  · cases hg
    exact op_add pins s σ H x y v u Q I rx ry ⟨_, _, r1.int, r2.int, ro_int e c rfl q⟩
  · split at hg
    · cases hg
      exact op_add_str pins s σ H x y v u Q I rx ry ⟨_, _, r1.str, r2.str, small_line ‹_›, ro_str e c rfl q⟩
    · cases hg
  · split at hg
    · rename_i hl
      cases hg
      obtain ⟨a, xs, rfl, h1, q1⟩ := r1.tup
      obtain ⟨b, ys, rfl, h2, q2⟩ := r2.tup
      refine op_catA pins s σ H _ _ v u Q I rx ry ⟨a, b, xs, ys, rfl, rfl, ex_t e h1.sq, ex_t e h2.sq, by rw [q1.length, q2.length]; exact small_line hl, fun z => ?_, fun _ z => ?_, fun _ _ p hp => ?_⟩
      · subst z
        cases q1
        exact q _ F H (.refl e) c (.tup h2 q2)
      · subst z
        cases q2
        rw [List.append_nil] at q
        exact q _ F H (.refl e) c (.tup h1 q1)
      · exact ro_tup e c (q1.append q2) rfl q hp
    · cases hg
  · split at hg
    · rename_i xs ys hl
      cases hg
      refine ok_cat pins s σ H x y v u Q I rx ry ⟨F, k, _, _, xs ++ ys, e, c, r1, r2, if_pos hl, fun p vs H' hp eh ra => ?_⟩
      subst eh
      exact q _ (upd F p (.lst vs)) _ ((Grow.laid e hp).freeze hp upd_same) ((c.laid hp).freeze (c.ne hp)) (.lst (.inl (.inl upd_same)) (ra.mono (ex_freeze (ex_none e hp))))
    · cases hg
  · cases hg
end
end Dn

set_option Elab.async false
set_option linter.all false
set_option maxRecDepth 100000
set_option maxHeartbeats 1000000
namespace Dn
open PySem PySem.Spec PyProof.Rows L2 Evl

@[simp] def tyD : Dt → String
  | .none => "NoneType"
  | .bool _ => "bool"
  | .int _ => "int"
  | .str _ => "str"
  | .list _ => "list"
  | .tuple _ => "tuple"
  | .dict _ => "dict"
theorem tyD_nb (d : Dt) : (Value.type (tyD d) == Value.type "builtin_function_or_method") = false := beq_eq_false_iff_ne.mpr fun z => by
  injection z with z
  cases d <;> simp [tyD] at z
theorem tyX_of {K : Fr} {m : Option Addr} {F H : Hp} {v : V} {d : Dt} (e : Ex F H) (r : Ro K m F H v d) (hc : isObj d = false) : TyX K.K H v (.type (tyD d)) := by
  have w := r.whole e
  cases w with
  | non => exact .base .non
  | bl b => exact .base (.bl b)
  | int i => exact .base (.int i)
  | str x => exact .base (.str x)
  | lst h _ =>
    rcases h with (h | ⟨o, h⟩) | ⟨o, its, n, h1, h2, _⟩
    · exact .base (.lst h)
    · exact .base (.frz h)
    · exact .kList h1 h2
  | tup h _ =>
    rcases h.sq with (h | ⟨o, h⟩) | ⟨o, its, n, h1, h2, _⟩
    · exact .base (.tup h)
    · exact .fTuple h
    · exact .kTuple h1 h2
  | dK h _ => exact .base (.dK h)
  | dT h _ => cases hc
  | ctr h => cases hc
  | exc _ h => cases hc
@[simp] def gIsi (T : String) (d : Dt) : Option Dt := if isObj d = true then none else (kitB (tyD d) T).map .bool
@[simp] def gTyEq (T : String) (d : Dt) : Option Dt := if isObj d = true then none else some (.bool (tyD d == T))
@[simp] def gTyNe (T : String) (d : Dt) : Option Dt := if isObj d = true then none else some (.bool (!(tyD d == T)))
section
variable {X : Cx} {m : Option Addr} {a b c e : Expr} {es : List Expr} {pos : Pos}
theorem e_isi {T : String} {x : Str} {p1 p2 : Pos} {f : DE} (h : PE X e (tO X.fr m f)) (hm : X.mg "isinstance" = none) (hm2 : X.mg x = none) (hv2 : bootBuiltins x = some (.type T)) (hg : Gl X "isinstance" := by rfl) (hg2 : Gl X x := by rfl)
    (hn2 : x ≠ "__name__" := by decide) (hd2 : (x == ("__debug__" : Str)) = false := by decide) (hv : bootBuiltins "isinstance" = some (.builtin "isinstance") := by decide +kernel)
    (hs1 : starEach [.Name x p2] X.env = (false, eval (.Name x p2) X.env) :: starEach [] X.env := by rfl) (hs : starEach [e, .Name x p2] X.env = (false, eval e X.env) :: starEach [.Name x p2] X.env := by rfl) (hpl : (backTo pos (starEach [.Name x p2] X.env)).any (·.1) = false := by rfl) :
    PE X (.Call (.Name "isinstance" p1) [e, .Name x p2] [] pos) (tE X.fr m (dU (gIsi T) f)) := impPE (pe_callB call_isi hg hm hv (pa_cons h (pa_cons (pe_bltn (v := .ty T) hg2 hm2 hv2 rfl hn2 hd2) pa_nil hs1) hs) (by decide) (by decide) hs hpl) fun σ H Q ⟨F, ρ, k, d, k', R, hf, q⟩ => by
  unfold dU at hf
  obtain ⟨⟨x, k1⟩, h1, hf⟩ := Option.bind_eq_some_iff.mp hf
  obtain ⟨z, h3, hf⟩ := Option.bind_eq_some_iff.mp hf
  cases hf
  unfold gIsi at h3
  split at h3
  · cases h3
  · rename_i hc
    cases hk : kitB (tyD x) T with
    | none =>
      rw [hk] at h3
      cases h3
    | some b =>
      rw [hk] at h3
      cases h3
      exact ⟨F, ρ, k, x, k1, R, h1, fun v F' H' g c r => ⟨v, .ty T, .type (tyD x), .type T, b, rfl, .ty T, tyX_of g.fh r (by simpa using hc), kit_ty hk, q _ F' H' g c (.bl b)⟩⟩
/-- type(x), of data -/
theorem type_of {K : Fr} {pins : List (Addr × Obj)} {σ : L2.St} {H F : Hp} {s : Shared} {v : V} {u : Value} {d : Dt} (I : Inv X pins σ H s) (rx : RelV v u) (e : Ex F H) (r : Ro X.fr m F H v d) (hc : isObj d = false) : s.TypeIs u (tyD d) ∧ (Value.type (tyD d) == Value.type "builtin_function_or_method") = false := by
  have w := r.whole e
  cases w with
  | non =>
    cases rx
    exact ⟨rfl, tyD_nb _⟩
  | bl b =>
    cases rx
    exact ⟨rfl, tyD_nb _⟩
  | int i =>
    obtain ⟨k, rfl⟩ := rx
    exact ⟨typeIs_int s i k, tyD_nb _⟩
  | str x =>
    obtain ⟨k, rfl⟩ := rx
    exact ⟨typeIs_str s x k, tyD_nb _⟩
  | lst h _ =>
    cases rx
    obtain ⟨its, rv, p, _⟩ := I.list h
    exact ⟨p.isList.typeIs, tyD_nb _⟩
  | tup h _ =>
    cases rx
    obtain ⟨its, rv, p, _⟩ := I.tuple h.sq
    exact ⟨p.typeIs, tyD_nb _⟩
  | @dK a kvs ds ea h =>
    cases (show u = Value.ref a from rx)
    obtain ⟨_, _, vs, _, o, es, ep, h1, h2, _⟩ := (show ObjOk X.prog X.w H s.heap a (.dK kvs) from I.hok a _ ea)
    exact ⟨⟨o, h1, h2.1⟩, tyD_nb _⟩
  | dT h _ => cases hc
  | ctr h => cases hc
  | exc _ h => cases hc
def tyNames : List String := ["int", "str", "bool", "NoneType", "list", "tuple", "dict"]
theorem meta_of {T : String} (h : T ∈ tyNames) : ∀ s' : Shared, s'.TypeIs (.type T) "type" := by
  intro s'
  simp only [tyNames, List.mem_cons, List.not_mem_nil, or_false] at h
  rcases h with rfl | rfl | rfl | rfl | rfl | rfl | rfl
  · exact TypeEq.meta_int s'
  · exact TypeEq.meta_str s'
  · exact TypeEq.meta_bool s'
  · exact TypeEq.meta_NoneType s'
  · exact TypeEq.meta_list s'
  · exact TypeEq.meta_tuple s'
  · exact TypeEq.meta_dict s'
theorem tyD_mem (d : Dt) : tyD d ∈ tyNames := by cases d <;> simp [tyD, tyNames]
theorem tybeq {a b : String} : (Value.type a == Value.type b) = (a == b) := by
  by_cases h : a = b
  · subst h
    rw [beq_self_eq_true, beq_self_eq_true]
  · have h1 : (a == b) = false := beq_eq_false_iff_ne.mpr h
    have h2 : (Value.type a == Value.type b) = false := beq_eq_false_iff_ne.mpr fun z => h (by injection z)
    rw [h1, h2]
/-- the type of a value, as a value -/
def rTyp (K : Fr) (m : Option Addr) : List V → Hp → VK → Prop := fun xs H Q => ∃ F x d, xs = [x] ∧ Ex F H ∧ Ro K m F H x d ∧ isObj d = false ∧ Q (.ty (tyD d)) H
theorem call_typ : CallR X (.type "type") (rTyp X.fr m) := by
  intro pins s σ H xs us Q I r ⟨F, x, d, ex, e, rx, hc, q⟩
  subst ex
  obtain ⟨u, rfl, ru⟩ := vals1 r
  obtain ⟨h1, h2⟩ := type_of (K := X.fr) I ru e rx hc
  exact call_type_of h1 h2 ⟨.ty (tyD d), H, I, rfl, q⟩
def rTyC (neg : Bool) : R2 := fun x y H Q => ∃ S T, x = .ty S ∧ y = .ty T ∧ S ∈ tyNames ∧ T ∈ tyNames ∧ Q (.bl (if neg = true then !(S == T) else S == T)) H
theorem op_tyEq : OpR X (compareOp .Eq) (rTyC false) := by
  intro pins s σ H x y v u Q I rx ry ⟨S, T, ex, ey, hS, hT, q⟩
  subst ex ey
  cases rx
  cases ry
  exact eq_types (meta_of hS) (meta_of hT) ⟨.bl (S == T), H, I, by rw [tybeq]; rfl, q⟩
theorem op_tyNe : OpR X (compareOp .NotEq) (rTyC true) := by
  intro pins s σ H x y v u Q I rx ry ⟨S, T, ex, ey, hS, hT, q⟩
  subst ex ey
  cases rx
  cases ry
  exact ne_types (meta_of hS) (meta_of hT) ⟨.bl (!(S == T)), H, I, by rw [tybeq]; rfl, q⟩
theorem tyc_in {K : Fr} {neg : Bool} {T : String} (hT : T ∈ tyNames) {f : DE} {σ : L2.St} {H : Hp} {Q : VK} (w : tE K m (dU (if neg = true then gTyNe T else gTyEq T) f) σ H Q) : tOp (rTyC neg) (tCB (rTyp K m) (tCons (tO K m f) tNil)) (tC (.ty T)) σ H Q := by
  obtain ⟨F, ρ, k, d, k', R, hf, q⟩ := w
  unfold dU at hf
  obtain ⟨⟨x, k1⟩, h1, hf⟩ := Option.bind_eq_some_iff.mp hf
  obtain ⟨z, h3, hf⟩ := Option.bind_eq_some_iff.mp hf
  cases hf
  refine ⟨F, ρ, k, x, k1, R, h1, fun v F' H' g c r => ?_⟩
  cases neg with
  | true =>
    replace h3 : gTyNe T x = some d := h3
    unfold gTyNe at h3
    split at h3
    · cases h3
    · rename_i hc
      cases h3
      exact ⟨F', v, x, rfl, g.fh, r, by simpa using hc, tyD x, T, rfl, rfl, tyD_mem x, hT, q _ F' H' g c (.bl _)⟩
  | false =>
    replace h3 : gTyEq T x = some d := h3
    unfold gTyEq at h3
    split at h3
    · cases h3
    · rename_i hc
      cases h3
      exact ⟨F', v, x, rfl, g.fh, r, by simpa using hc, tyD x, T, rfl, rfl, tyD_mem x, hT, q _ F' H' g c (.bl _)⟩
theorem test_in {K : Fr} {f : DE} {t : TE} {σ : L2.St} {H : Hp} {Q : Bool → Hp → Prop} (h : ∀ Q', tE K m f σ H Q' → t σ H Q') (w : tT K m (tV f) σ H Q) : tTest t σ H Q := by
  obtain ⟨F, ρ, k, b, k', R, hf, q⟩ := w
  unfold tV at hf
  obtain ⟨⟨x, k1⟩, h1, hf⟩ := Option.bind_eq_some_iff.mp hf
  obtain ⟨z, h3, hf⟩ := Option.bind_eq_some_iff.mp hf
  cases hf
  cases asB_some h3
  exact h _ ⟨F, ρ, k, _, k1, R, h1, fun v F' H' g c r => by
    cases r
    exact ⟨_, rfl, q F' H' g c⟩⟩
theorem e_tyEq {T : String} {x : Str} {p1 p2 p3 : Pos} {f : DE} (h : PE X e (tO X.fr m f)) (hm : X.mg "type" = none) (hm2 : X.mg x = none) (hv2 : bootBuiltins x = some (.type T)) (hT : T ∈ tyNames) (hg : Gl X "type" := by rfl) (hg2 : Gl X x := by rfl)
    (hn2 : x ≠ "__name__" := by decide) (hd2 : (x == ("__debug__" : Str)) = false := by decide) (hv : bootBuiltins "type" = some (.type "type") := by decide +kernel)
    (hs : starEach [e] X.env = (false, eval e X.env) :: starEach [] X.env := by rfl) (hpl : (backTo p3 (starEach [] X.env)).any (·.1) = false := by rfl) :
    PE X (.Compare (.Call (.Name "type" p1) [e] [] p3) [.Eq] [.Name x p2] pos) (tE X.fr m (dU (gTyEq T) f)) := impPE (pe_cmpR op_tyEq (pe_callTy (call_typ (m := m)) hg hm hv (pa_cons h pa_nil hs) (by decide) (by decide) hs hpl) (pe_bltn (v := .ty T) hg2 hm2 hv2 rfl hn2 hd2) (nomark _)) fun σ H Q w => tyc_in (neg := false) hT w
theorem t_tyEq {T : String} {x : Str} {p1 p2 p3 : Pos} {f : DE} (h : PE X e (tO X.fr m f)) (hm : X.mg "type" = none) (hm2 : X.mg x = none) (hv2 : bootBuiltins x = some (.type T)) (hT : T ∈ tyNames) (hg : Gl X "type" := by rfl) (hg2 : Gl X x := by rfl)
    (hn2 : x ≠ "__name__" := by decide) (hd2 : (x == ("__debug__" : Str)) = false := by decide) (hv : bootBuiltins "type" = some (.type "type") := by decide +kernel)
    (hs : starEach [e] X.env = (false, eval e X.env) :: starEach [] X.env := by rfl) (hpl : (backTo p3 (starEach [] X.env)).any (·.1) = false := by rfl) :
    PT X (.Compare (.Call (.Name "type" p1) [e] [] p3) [.Eq] [.Name x p2] pos) (tT X.fr m (tV (dU (gTyEq T) f))) := impPT (pt_cmpR op_tyEq (pe_callTy (call_typ (m := m)) hg hm hv (pa_cons h pa_nil hs) (by decide) (by decide) hs hpl) (pe_bltn (v := .ty T) hg2 hm2 hv2 rfl hn2 hd2) (nomark _)) fun σ H Q w => test_in (fun Q' w' => tyc_in (neg := false) hT w') w
theorem e_tyNe {T : String} {x : Str} {p1 p2 p3 : Pos} {f : DE} (h : PE X e (tO X.fr m f)) (hm : X.mg "type" = none) (hm2 : X.mg x = none) (hv2 : bootBuiltins x = some (.type T)) (hT : T ∈ tyNames) (hg : Gl X "type" := by rfl) (hg2 : Gl X x := by rfl)
    (hn2 : x ≠ "__name__" := by decide) (hd2 : (x == ("__debug__" : Str)) = false := by decide) (hv : bootBuiltins "type" = some (.type "type") := by decide +kernel)
    (hs : starEach [e] X.env = (false, eval e X.env) :: starEach [] X.env := by rfl) (hpl : (backTo p3 (starEach [] X.env)).any (·.1) = false := by rfl) :
    PE X (.Compare (.Call (.Name "type" p1) [e] [] p3) [.NotEq] [.Name x p2] pos) (tE X.fr m (dU (gTyNe T) f)) := impPE (pe_cmpR op_tyNe (pe_callTy (call_typ (m := m)) hg hm hv (pa_cons h pa_nil hs) (by decide) (by decide) hs hpl) (pe_bltn (v := .ty T) hg2 hm2 hv2 rfl hn2 hd2) (nomark _)) fun σ H Q w => tyc_in (neg := true) hT w
theorem t_tyNe {T : String} {x : Str} {p1 p2 p3 : Pos} {f : DE} (h : PE X e (tO X.fr m f)) (hm : X.mg "type" = none) (hm2 : X.mg x = none) (hv2 : bootBuiltins x = some (.type T)) (hT : T ∈ tyNames) (hg : Gl X "type" := by rfl) (hg2 : Gl X x := by rfl)
    (hn2 : x ≠ "__name__" := by decide) (hd2 : (x == ("__debug__" : Str)) = false := by decide) (hv : bootBuiltins "type" = some (.type "type") := by decide +kernel)
    (hs : starEach [e] X.env = (false, eval e X.env) :: starEach [] X.env := by rfl) (hpl : (backTo p3 (starEach [] X.env)).any (·.1) = false := by rfl) :
    PT X (.Compare (.Call (.Name "type" p1) [e] [] p3) [.NotEq] [.Name x p2] pos) (tT X.fr m (tV (dU (gTyNe T) f))) := impPT (pt_cmpR op_tyNe (pe_callTy (call_typ (m := m)) hg hm hv (pa_cons h pa_nil hs) (by decide) (by decide) hs hpl) (pe_bltn (v := .ty T) hg2 hm2 hv2 rfl hn2 hd2) (nomark _)) fun σ H Q w => test_in (fun Q' w' => tyc_in (neg := true) hT w') w

/-! ### calls -/
@[simp] def gLen : List Dt → Option Dt
  | [.list ds] => if ds.length ≤ 1000000 then some (.int ds.length) else none
  | [.tuple ds] => if ds.length ≤ 1000000 then some (.int ds.length) else none
  | [.str x] => if x.length ≤ 1000000 then some (.int x.length) else none
  | [.dict ((.none, .bool true) :: l)] => if l.length ≤ 1000000 then some (.int l.length) else none
  | _ => none
/-- len of a locked dict with tuples as keys -/
theorem len_dT {X : Cx} {pins : List (Addr × Obj)} {σ : L2.St} {H : Hp} {s : Shared} {a : Addr} {o : Obj} {kvs : List (List Key × V)} {Q : VK} (I : Inv X pins σ H s) (h : H a = some (.frz o (.dT kvs))) (q : Q (.int (kvs.length : Nat)) H) : wpAny (model X.prog X.w) X.A (call (.builtin "len") [.ref a]) (EP X pins σ Q) X.xe s := by
  obtain ⟨hz, hd, xs, rel, dd⟩ := dt_rd I.hok (.inr ⟨o, h⟩)
  have hl : kvs.length = xs.length := Paired.length rel
  refine PySem.call_len_dictH hd dd ?_ ?_
  · rw [← hl]
    have : (sizeLine : Nat) < 2 ^ 62 := by decide +kernel
    omega
  · rw [← hl]
    exact ⟨.int (kvs.length : Nat), H, I.tok _, ⟨_, rfl⟩, q⟩
theorem RoA.one {K : Fr} {F H : Hp} {vs : List V} {d : Dt} (r : RoA K m F H vs [d]) : ∃ v, vs = [v] ∧ Ro K m F H v d := by
  cases r with
  | cons h r =>
    cases r
    exact ⟨_, rfl, h⟩
theorem RoA.two {K : Fr} {F H : Hp} {vs : List V} {d d' : Dt} (r : RoA K m F H vs [d, d']) : ∃ v v', vs = [v, v'] ∧ Ro K m F H v d ∧ Ro K m F H v' d' := by
  cases r with
  | cons h r =>
    cases r with
    | cons h' r =>
      cases r
      exact ⟨_, _, rfl, h, h'⟩
theorem Ro.shared_dict {K : Fr} {F H : Hp} {v : V} {l : List (Dt × Dt)} (r : Ro K m F H v (.dict l)) : Rp K m F v (.dict l) := by
  rcases r with r | ⟨p, vs, ds, e1, n, f, h, r, ed⟩
  · exact r
  · cases ed
theorem ok_len : CallR X (.builtin "len") (rcD X.fr m gLen) := by
  intro pins s σ H xs us Q I r ⟨F, k, ds, d, e, c, rs, hg, q⟩
  unfold gLen at hg
  split at hg
  · split at hg
    · rename_i hl
      cases hg
      obtain ⟨v, rfl, rv⟩ := rs.one
      obtain ⟨a, ys, rfl, h1, q1⟩ := rv.lst e
      exact call_len_seq pins s σ H _ us Q I r ⟨a, ys, rfl, .inl h1, by rw [q1.length]; exact ro_int e c rfl q⟩
    · cases hg
  · split at hg
    · rename_i hl
      cases hg
      obtain ⟨v, rfl, rv⟩ := rs.one
      obtain ⟨a, ys, rfl, h1, q1⟩ := rv.tup
      exact call_len_seq pins s σ H _ us Q I r ⟨a, ys, rfl, .inr (ex_t e h1.sq), by rw [q1.length]; exact ro_int e c rfl q⟩
    · cases hg
  · split at hg
    · rename_i hl
      cases hg
      obtain ⟨v, rfl, rv⟩ := rs.one
      cases rv.str
      exact call_len_str pins s σ H _ us Q I r ⟨_, rfl, small_line hl, ro_int e c rfl q⟩
    · cases hg
  · split at hg
    · rename_i l hl
      cases hg
      obtain ⟨v, rfl, rv⟩ := rs.one
      obtain ⟨a, o, kvs, es, rfl, hF, ra, el⟩ := Rp.dT_of (rv.shared_dict)
      have hz : l.length = kvs.length := by
        rw [el, List.length_zip]
        have := ra.length
        simp only [List.length_map] at this ⊢
        omega
      rw [Vals.ref1 r]
      refine len_dT I (e _ _ hF) ?_
      rw [← hz]
      exact ro_int e c rfl q
    · cases hg
  · cases hg
@[simp] def gInt : List Dt → Option Dt
  | [.int i] => some (.int i)
  | [.bool b] => some (.int (if b then 1 else 0))
  | _ => none
theorem ok_int : CallR X (.type "int") (rcD X.fr m gInt) := by
  intro pins s σ H xs us Q I r ⟨F, k, ds, d, e, c, rs, hg, q⟩
  unfold gInt at hg
  split at hg
  · cases hg
    obtain ⟨v, rfl, rv⟩ := rs.one
    cases rv.int
    exact call_int1 pins s σ H _ us Q I r (.inl ⟨_, rfl, ro_int e c rfl q⟩)
  · cases hg
    obtain ⟨v, rfl, rv⟩ := rs.one
    cases rv.bl
    exact call_int1 pins s σ H _ us Q I r (.inr ⟨_, rfl, ro_int e c rfl q⟩)
  · cases hg
@[simp] def asBs : List Dt → Option (List Bool)
  | [] => some []
  | .bool b :: ds => (asBs ds).map (b :: ·)
  | _ :: _ => none
theorem asBs_eq : ∀ {ds : List Dt} {bs : List Bool}, asBs ds = some bs → ds = bs.map .bool
  | [], bs, h => by
    cases h
    rfl
  | .bool b :: ds, bs, h => by
    unfold asBs at h
    cases h1 : asBs ds with
    | none =>
      rw [h1] at h
      cases h
    | some cs =>
      rw [h1] at h
      cases h
      rw [asBs_eq h1]
      rfl
  | .none :: _, _, h => by cases h
  | .int _ :: _, _, h => by cases h
  | .str _ :: _, _, h => by cases h
  | .list _ :: _, _, h => by cases h
  | .tuple _ :: _, _, h => by cases h
  | .dict _ :: _, _, h => by cases h
theorem RpA.ofBls {K : Fr} {F : Hp} : ∀ {bs : List Bool} {vs : List V}, RpA K m F vs (bs.map .bool) → vs = bs.map V.bl
  | [], _, .nil => rfl
  | b :: bs, _, .cons h r => by
    cases h
    rw [RpA.ofBls r]
    rfl
@[simp] def gAll : List Dt → Option Dt
  | [.list ds] => (asBs ds).map fun bs => .bool (bs.all id)
  | _ => none
theorem ok_all (hc : X.calm = true) : CallR X (.builtin "all") (rcD X.fr m gAll) := by
  intro pins s σ H xs us Q I r ⟨F, k, ds, d, e, c, rs, hg, q⟩
  unfold gAll at hg
  split at hg
  · rename_i ds
    cases h1 : asBs ds with
    | none =>
      rw [h1] at hg
      cases hg
    | some bs =>
      rw [h1] at hg
      cases hg
      cases asBs_eq h1
      obtain ⟨v, rfl, rv⟩ := rs.one
      obtain ⟨a, ys, rfl, h2, q1⟩ := rv.lst e
      cases q1.ofBls
      exact cr_all hc pins s σ H _ us Q I r ⟨a, bs, rfl, h2, ro_bl e c rfl q⟩
  · cases hg
end
end Dn

set_option Elab.async false
set_option linter.all false
set_option maxRecDepth 100000
set_option maxHeartbeats 1000000
namespace Dn
open PySem PySem.Spec PyProof.Rows L2 Evl

section
variable {X : Cx} {m : Option Addr} {a b c e : Expr} {es : List Expr} {pos : Pos}
@[simp] def gTuple : List Dt → Option Dt
  | [.list ds] => some (.tuple ds)
  | [.tuple ds] => some (.tuple ds)
  | _ => none
theorem ok_tuple : CallR X (.type "tuple") (rcD X.fr m gTuple) := by
  intro pins s σ H xs us Q I r ⟨F, k, ds, d, e, c, rs, hg, q⟩
  unfold gTuple at hg
  split at hg
  · cases hg
    obtain ⟨v, rfl, rv⟩ := rs.one
    obtain ⟨a, ys, rfl, h1, q1⟩ := rv.lst e
    exact call_tuple_of pins s σ H _ us Q I r ⟨a, ys, rfl, .inl ⟨h1, fun l hl => ro_tup e c q1 rfl q hl⟩⟩
  · cases hg
    obtain ⟨v, rfl, rv⟩ := rs.one
    obtain ⟨a, ys, rfl, h1, q1⟩ := rv.tup
    exact call_tuple_of pins s σ H _ us Q I r ⟨a, ys, rfl, .inr ⟨ex_t e h1.sq, q _ F H (.refl e) c (.tup h1 q1)⟩⟩
  · cases hg
@[simp] def gList : List Dt → Option (List Dt)
  | [.list ds] => some ds
  | [.tuple ds] => some ds
  | _ => none
theorem ok_list : CallR X (.type "list") (rclD X.fr m gList) := by
  intro pins s σ H xs us Q I r ⟨F, k, ds, d, e, c, rs, hg, q⟩
  unfold gList at hg
  split at hg
  · cases hg
    obtain ⟨v, rfl, rv⟩ := rs.one
    obtain ⟨a, ys, rfl, h1, q1⟩ := rv.lst e
    exact call_list_of pins s σ H _ us Q I r ⟨a, ys, rfl, .inl h1, fun l hl => q l _ _ hl rfl q1⟩
  · cases hg
    obtain ⟨v, rfl, rv⟩ := rs.one
    obtain ⟨a, ys, rfl, h1, q1⟩ := rv.tup
    exact call_list_of pins s σ H _ us Q I r ⟨a, ys, rfl, .inr (ex_t e h1.sq), fun l hl => q l _ _ hl rfl q1⟩
  · cases hg
@[simp] def gMaxI : List Dt → Option Dt
  | [.int i, .int j] => some (.int (if j > i then j else i))
  | _ => none
@[simp] def gMinI : List Dt → Option Dt
  | [.int i, .int j] => some (.int (if j < i then j else i))
  | _ => none
theorem ok_maxI (hc : X.calm = true) : CallR X (.builtin "max") (rcD X.fr m gMaxI) := by
  intro pins s σ H xs us Q I r ⟨F, k, ds, d, e, c, rs, hg, q⟩
  unfold gMaxI at hg
  split at hg
  · cases hg
    obtain ⟨v, v', rfl, rv, rv'⟩ := rs.two
    cases rv.int
    cases rv'.int
    exact call_max2 hc pins s σ H _ us Q I r ⟨_, _, rfl, ro_int e c rfl q⟩
  · cases hg
theorem ok_minI (hc : X.calm = true) : CallR X (.builtin "min") (rcD X.fr m gMinI) := by
  intro pins s σ H xs us Q I r ⟨F, k, ds, d, e, c, rs, hg, q⟩
  unfold gMinI at hg
  split at hg
  · cases hg
    obtain ⟨v, v', rfl, rv, rv'⟩ := rs.two
    cases rv.int
    cases rv'.int
    exact call_min2 hc pins s σ H _ us Q I r ⟨_, _, rfl, ro_int e c rfl q⟩
  · cases hg

/-! methods of a value -/
def rmD (K : Fr) (m : Option Addr) (g : Dt → List Dt → Option Dt) : V → List V → Hp → VK → Prop := fun x xs H Q => ∃ F k dx ds d, Ex F H ∧ Ctr m F H k ∧ Ro K m F H x dx ∧ RoA K m F H xs ds ∧ g dx ds = some d ∧ ∀ v F' H', Grow m F H F' H' → Ctr m F' H' k → Rp K m F' v d → Q v H'
@[simp] def isStr : Dt → Bool
  | .str _ => true
  | _ => false
@[simp] def dM (g : Dt → List Dt → Option Dt) (f : DE) (h : DL) : DE := fun ρ k => (f ρ k).bind fun p => if isStr p.1 = true then (h ρ p.2).bind fun q => (g p.1 q.1).bind fun d => some (d, q.2) else none
theorem isStr_eq {d : Dt} (h : isStr d = true) : ∃ x, d = .str x := by
  cases d <;> simp [isStr] at h
  exact ⟨_, rfl⟩
theorem e_m1 {id : String} {name : Str} {pa : Pos} {g : Dt → List Dt → Option Dt} {fo fa : DE} {o : Expr} (slot : Slot "str" name id) (hty : typeOf (.builtin id) = pure (.type "method_descriptor")) (hm : MtR X id (rmD X.fr m g)) (ho : PE X o (tO X.fr m fo)) (ha : PE X e (tO X.fr m fa))
    (hs : starEach [e] X.env = [(false, eval e X.env)] := by rfl) (hbase : attributeBase o name X.env (eval o X.env) = eval o X.env := by rfl) (hline : (pa.endLine == pos.line) = true := by rfl) :
    PE X (.Call (.Attribute o name pa) [e] [] pos) (tE X.fr m (dM g fo (aCons fa aNil))) := impPE (pe_m1 slot hty hm ho ha hs hbase hline) fun σ H Q ⟨F, ρ, k, d, k', R, hf, q⟩ => by
  unfold dM at hf
  obtain ⟨⟨x, k1⟩, h1, hf⟩ := Option.bind_eq_some_iff.mp hf
  simp only at hf
  split at hf
  · rename_i hx
    obtain ⟨z, rfl⟩ := isStr_eq hx
    obtain ⟨⟨ys, k2⟩, h2, hf⟩ := Option.bind_eq_some_iff.mp hf
    obtain ⟨w, h3, hf⟩ := Option.bind_eq_some_iff.mp hf
    cases hf
    unfold aCons at h2
    obtain ⟨⟨y, k3⟩, h4, h2⟩ := Option.bind_eq_some_iff.mp h2
    cases h2
    refine ⟨F, ρ, k, _, k1, R, h1, fun v1 F1 H1 g1 c1 r1 => ?_⟩
    cases r1.str
    exact ⟨⟨z, rfl⟩, F1, ρ, k1, y, k3, R.grow g1 c1, h4, fun v2 F2 H2 g2 c2 r2 => ⟨F2, k3, .str z, [y], d, g2.fh, c2, .inl (.str z), .cons r2 .nil, h3, fun v F' H' g' c' r => q v F' H' ((g1.trans c1 g2).trans c2 g') c' r⟩⟩
  · cases hf
theorem e_m0 {id : String} {name : Str} {pa : Pos} {g : Dt → List Dt → Option Dt} {fo : DE} {o : Expr} (slot : Slot "str" name id) (hty : typeOf (.builtin id) = pure (.type "method_descriptor")) (hm : MtR X id (rmD X.fr m g)) (ho : PE X o (tO X.fr m fo))
    (hbase : attributeBase o name X.env (eval o X.env) = eval o X.env := by rfl) (hline : (pa.endLine == pos.line) = true := by rfl) :
    PE X (.Call (.Attribute o name pa) [] [] pos) (tE X.fr m (dM g fo aNil)) := impPE (pe_m0 slot hty hm ho hbase hline) fun σ H Q ⟨F, ρ, k, d, k', R, hf, q⟩ => by
  unfold dM at hf
  obtain ⟨⟨x, k1⟩, h1, hf⟩ := Option.bind_eq_some_iff.mp hf
  simp only at hf
  split at hf
  · rename_i hx
    obtain ⟨z, rfl⟩ := isStr_eq hx
    obtain ⟨⟨ys, k2⟩, h2, hf⟩ := Option.bind_eq_some_iff.mp hf
    obtain ⟨w, h3, hf⟩ := Option.bind_eq_some_iff.mp hf
    cases hf
    cases h2
    refine ⟨F, ρ, k, _, k1, R, h1, fun v1 F1 H1 g1 c1 r1 => ?_⟩
    cases r1.str
    exact ⟨⟨z, rfl⟩, F1, k1, .str z, [], d, g1.fh, c1, .inl (.str z), .nil, h3, fun v F' H' g' c' r => q v F' H' (g1.trans c1 g') c' r⟩
  · cases hf
@[simp] def asSs : List Dt → Option (List Str)
  | [] => some []
  | .str b :: ds => (asSs ds).map (b :: ·)
  | _ :: _ => none
theorem asSs_eq : ∀ {ds : List Dt} {bs : List Str}, asSs ds = some bs → ds = bs.map .str
  | [], bs, h => by
    cases h
    rfl
  | .str b :: ds, bs, h => by
    unfold asSs at h
    cases h1 : asSs ds with
    | none =>
      rw [h1] at h
      cases h
    | some cs =>
      rw [h1] at h
      cases h
      rw [asSs_eq h1]
      rfl
  | .none :: _, _, h => by cases h
  | .int _ :: _, _, h => by cases h
  | .bool _ :: _, _, h => by cases h
  | .list _ :: _, _, h => by cases h
  | .tuple _ :: _, _, h => by cases h
  | .dict _ :: _, _, h => by cases h
theorem RpA.ofSs {K : Fr} {F : Hp} : ∀ {bs : List Str} {vs : List V}, RpA K m F vs (bs.map .str) → vs = bs.map V.str
  | [], _, .nil => rfl
  | b :: bs, _, .cons h r => by
    cases h
    rw [RpA.ofSs r]
    rfl
@[simp] def gJoin : Dt → List Dt → Option Dt
  | .str a, [.list ds] => (asSs ds).bind fun ys => if (ys.map (·.length)).sum + ys.length * a.length ≤ 16777216 then some (.str (Txt.join a ys)) else none
  | _, _ => none
theorem ok_join : MtR X "str.join" (rmD X.fr m gJoin) := by
  intro pins s σ H x xs v us Q I rx r ⟨F, k, dx, ds, d, e, c, ro, rs, hg, q⟩
  unfold gJoin at hg
  split at hg
  · obtain ⟨ys, h1, hg⟩ := Option.bind_eq_some_iff.mp hg
    split at hg
    · rename_i hl
      cases hg
      cases asSs_eq h1
      cases ro.str
      obtain ⟨w, rfl, rww⟩ := rs.one
      obtain ⟨p, zs, rfl, h2, q1⟩ := rww.lst e
      cases q1.ofSs
      exact mt_join pins s σ H _ _ v us Q I rx r ⟨_, p, ys, rfl, rfl, .inl h2, hl, ro_str e c rfl q⟩
    · cases hg
  · cases hg
@[simp] def gUpper : Dt → List Dt → Option Dt
  | .str a, [] => if a.length ≤ 1000000 then some (.str (Txt.upper a)) else none
  | _, _ => none
theorem ok_upper : MtR X "str.upper" (rmD X.fr m gUpper) := by
  intro pins s σ H x xs v us Q I rx r ⟨F, k, dx, ds, d, e, c, ro, rs, hg, q⟩
  unfold gUpper at hg
  split at hg
  · split at hg
    · rename_i hl
      cases hg
      cases ro.str
      cases rs
      exact mt_upper pins s σ H _ _ v us Q I rx r ⟨_, rfl, rfl, by omega, ro_str e c rfl q⟩
    · cases hg
  · cases hg
theorem e_join {pa : Pos} {o : Expr} {fo fa : DE} (ho : PE X o (tO X.fr m fo)) (ha : PE X e (tO X.fr m fa)) (hs : starEach [e] X.env = [(false, eval e X.env)] := by rfl) (hbase : attributeBase o "join" X.env (eval o X.env) = eval o X.env := by rfl) (hline : (pa.endLine == pos.line) = true := by rfl) :
    PE X (.Call (.Attribute o "join" pa) [e] [] pos) (tE X.fr m (dM gJoin fo (aCons fa aNil))) := e_m1 PySem.F.slot_str_join PySem.F.type_str_join ok_join ho ha hs hbase hline
theorem e_upper {pa : Pos} {o : Expr} {fo : DE} (ho : PE X o (tO X.fr m fo)) (hbase : attributeBase o "upper" X.env (eval o X.env) = eval o X.env := by rfl) (hline : (pa.endLine == pos.line) = true := by rfl) :
    PE X (.Call (.Attribute o "upper" pa) [] [] pos) (tE X.fr m (dM gUpper fo aNil)) := e_m0 PySem.F.slot_str_upper PySem.F.type_str_upper ok_upper ho hbase hline

/-! subscripts -/
@[simp] def gIx : Dt → Dt → Option Dt
  | .list ds, .int i => atI ds i
  | .tuple ds, .int i => atI ds i
  | .str x, .int i => if x.length ≤ 1000000 then (atI x.cps.toList i).map signD else none
  | .dict ((.none, .bool true) :: l), key => getTD l key
  | _, _ => none
theorem RpA.atI {K : Fr} {F : Hp} {vs : List V} {ds : List Dt} {i : Int} {d : Dt} (r : RpA K m F vs ds) (h : L2.atI ds i = some d) : ∃ v, L2.atI vs i = some v ∧ Rp K m F v d := by
  unfold L2.atI at h ⊢
  rw [r.length]
  cases hx : L2.ixN ds.length i with
  | none =>
    rw [hx] at h
    cases h
  | some j =>
    rw [hx] at h
    obtain ⟨v, hv, rv⟩ := r.get h
    exact ⟨v, hv, rv⟩
theorem Ro.shared_tk {K : Fr} {F H : Hp} {v : V} {d : Dt} {k : List Key} (r : Ro K m F H v d) (h : asTK d = some k) : Rp K m F v d := by
  obtain ⟨n, i, rfl, rfl⟩ := asTK_eq h
  rcases r with r | ⟨p, vs, ds, e1, n, f, h, r, ed⟩
  · exact r
  · cases ed
theorem ok_ix (hu : X.A.units + 1 < cLine) : IxR X (roD X.fr m gIx) := by
  intro value slice pins s σ H x y v u Q I rx ry ⟨F, k, dx, dy, d, e, c, r1, r2, hg, q⟩ hs
  unfold gIx at hg
  split at hg
  · obtain ⟨a, xs, rfl, h1, q1⟩ := r1.lst e
    obtain ⟨w, hw, rww⟩ := q1.atI hg
    exact ix_list value slice pins s σ H _ y v u Q I rx ry ⟨a, xs, _, w, rfl, r2.int, h1, hw, q _ F H (.refl e) c rww⟩ hs
  · obtain ⟨a, xs, rfl, h1, q1⟩ := r1.tup
    obtain ⟨w, hw, rww⟩ := q1.atI hg
    exact ix_tup value slice pins s σ H _ y v u Q I rx ry ⟨a, xs, _, w, rfl, r2.int, ex_t e h1.sq, hw, q _ F H (.refl e) c rww⟩ hs
  · split at hg
    · rename_i z i hl
      cases hc : L2.atI z.cps.toList i with
      | none =>
        rw [hc] at hg
        cases hg
      | some w =>
        rw [hc] at hg
        cases hg
        exact ix_str value slice pins s σ H x y v u Q I rx ry ⟨z, i, w, r1.str, r2.int, small_line hl, hc, ro_str e c rfl q⟩ hs
    · cases hg
  · rename_i l
    unfold getTD at hg
    obtain ⟨k0, hk, hg⟩ := Option.bind_eq_some_iff.mp hg
    obtain ⟨a, o, kvs, es, rfl, hF, ra, el⟩ := Rp.dT_of r1.shared_dict
    obtain ⟨b, rfl, hb⟩ := Rp.tk (Ro.shared_tk r2 hk) hk
    have z := ra.getZ k0
    rw [← el, ← asTK_tk hk, hg] at z
    obtain ⟨w, hw, rw'⟩ := z
    cases (show v = Value.ref a from rx)
    have gt : DGet H a (.ref b) (some w) := .inr ⟨kvs, k0, b, .inr ⟨o, e _ _ hF⟩, rfl, e _ _ hb, hw.symm⟩
    exact PyProof.Rows.tail_any (dict_typeIs I gt) PySem.F.slot_dict_getitem.lookup (d_getItem hu I gt ry fun w' s' I' rw2 => ⟨w, H, I', rw2, q _ F H (.refl e) c rw'⟩) hs
  · cases hg
def cutD (ds : List Dt) (lo hi : Option Int) : List Dt := (ds.drop (HT.sIx ds.length 0 lo)).take (HT.sIx ds.length ds.length hi - HT.sIx ds.length 0 lo)
theorem RpA.cut {K : Fr} {F : Hp} {vs : List V} {ds : List Dt} (r : RpA K m F vs ds) (lo hi : Option Int) : RpA K m F (cutV vs lo hi) (cutD ds lo hi) := by
  unfold cutV cutD
  rw [r.length]
  exact (r.drop _).take _
@[simp] def gSlE : Dt → Option Int → Option Int → Option Dt
  | .str x, lo, hi => if x.length ≤ 1000000 then some (.str (cutS x lo hi)) else none
  | .tuple ds, lo, hi => some (.tuple (cutD ds lo hi))
  | .list ds, lo, hi => some (.list (cutD ds lo hi))
  | _, _, _ => none
@[simp] def gSlL : Dt → Option Int → Option Int → Option (List Dt)
  | .list ds, lo, hi => some (cutD ds lo hi)
  | _, _, _ => none
theorem ok_slL : SlR X (rslD X.fr m gSlL) := by
  intro pins s σ H x v vl vu lo hi sl Q I rx hs pl pu ⟨F, k, dx, d, e, c, r1, hg, q⟩
  unfold gSlL at hg
  split at hg
  · cases hg
    obtain ⟨a, xs, rfl, h1, q1⟩ := r1.lst e
    exact sl_list pins s σ H _ v vl vu _ _ sl Q I rx hs pl pu ⟨a, xs, rfl, h1, fun p hp => q p _ _ hp rfl (q1.cut _ _)⟩
  · cases hg

theorem ok_slE : SlR X (rsD X.fr m gSlE) := by
  intro pins s σ H x v vl vu lo hi sl Q I rx hs pl pu ⟨F, k, dx, d, e, c, r1, hg, q⟩
  cases dx with
  | str z =>
    replace hg : (if z.length ≤ 1000000 then some (PyData.str (cutS z lo hi)) else none) = some d := hg
    split at hg
    · rename_i hl
      cases hg
      exact sl_str pins s σ H x v vl vu lo hi sl Q I rx hs pl pu ⟨_, r1.str, small_line hl, ro_str e c rfl q⟩
    · cases hg
  | tuple ds =>
    replace hg : some (PyData.tuple (cutD ds lo hi)) = some d := hg
    cases hg
    obtain ⟨a, xs, rfl, h1, q1⟩ := r1.tup
    refine sl_tupA pins s σ H _ v vl vu lo hi sl Q I rx hs pl pu ⟨a, xs, rfl, ex_t e h1.sq, fun z => ?_, fun z p hp => ro_tup e c (q1.cut _ _) rfl q hp⟩
    have ez : cutV xs lo hi = xs := by
      unfold cutV
      rw [z.1, z.2]
      simp
    have ed : cutD ds lo hi = ds := by
      unfold cutD
      rw [← q1.length, z.1, z.2, q1.length]
      simp
    rw [ed] at q
    exact q _ F H (.refl e) c (.tup h1 q1)
  | list ds =>
    replace hg : some (PyData.list (cutD ds lo hi)) = some d := hg
    cases hg
    refine ok_slL pins s σ H x v vl vu lo hi sl Q I rx hs pl pu ⟨F, k, _, cutD ds lo hi, e, c, r1, rfl, fun p vs H' hp eh ra => ?_⟩
    subst eh
    exact q _ (upd F p (.lst vs)) _ ((Grow.laid e hp).freeze hp upd_same) ((c.laid hp).freeze (c.ne hp)) (.lst (.inl (.inl upd_same)) (ra.mono (ex_freeze (ex_none e hp))))
  | _ => cases hg
/-! in, not in -/
@[simp] def gIn (x : Dt) : Dt → Option Dt
  | .list ds => if okD x = true ∧ okD (.list ds) = true then some (.bool (ds.any fun z => PyData.eqv z x)) else none
  | .tuple ds => if okD x = true ∧ okD (.tuple ds) = true then some (.bool (ds.any fun z => PyData.eqv z x)) else none
  | _ => none
@[simp] def gNotIn (x : Dt) : Dt → Option Dt
  | .list ds => if okD x = true ∧ okD (.list ds) = true then some (.bool (!ds.any fun z => PyData.eqv z x)) else none
  | .tuple ds => if okD x = true ∧ okD (.tuple ds) = true then some (.bool (!ds.any fun z => PyData.eqv z x)) else none
  | _ => none
theorem ok_in (hu : X.A.units + 65 < cLine) : OpR X (compareOp .In) (roD X.fr m gIn) := by
  intro pins s σ H x y v u Q I rx ry ⟨F, k, dx, dy, d, e, c, r1, r2, hg, q⟩
  unfold gIn at hg
  split at hg
  · split at hg
    · rename_i h
      cases hg
      exact op_inD hu pins s σ H x y v u Q I rx ry ⟨dx, _, (r1.whole e).dp (SeqAt.canLay_of_shaped h.1), (r2.whole e).dp (SeqAt.canLay_of_shaped h.2), h.1, h.2, ro_bl e c rfl q⟩
    · cases hg
  · split at hg
    · rename_i h
      cases hg
      obtain ⟨as, q1⟩ := Dp.reads I dx x v ((r1.whole e).dp (SeqAt.canLay_of_shaped h.1)) rx
      obtain ⟨bs, q2⟩ := Dp.reads I _ y u ((r2.whole e).dp (SeqAt.canLay_of_shaped h.2)) ry
      exact SeqAt.in_tuple_reads q2 q1 (SeqAt.canLay_of_shaped h.2) (SeqAt.canLay_of_shaped h.1) (PyProof.Rows.room_in_shaped h.1 hu) ⟨.bl _, H, I, rfl, ro_bl e c rfl q⟩
    · cases hg
  · cases hg
theorem ok_notIn (hu : X.A.units + 65 < cLine) : OpR X (compareOp .NotIn) (roD X.fr m gNotIn) := by
  intro pins s σ H x y v u Q I rx ry ⟨F, k, dx, dy, d, e, c, r1, r2, hg, q⟩
  unfold gNotIn at hg
  split at hg
  · split at hg
    · rename_i h
      cases hg
      exact op_notInD hu pins s σ H x y v u Q I rx ry ⟨dx, _, (r1.whole e).dp (SeqAt.canLay_of_shaped h.1), (r2.whole e).dp (SeqAt.canLay_of_shaped h.2), h.1, h.2, ro_bl e c rfl q⟩
    · cases hg
  · split at hg
    · rename_i h
      cases hg
      obtain ⟨as, q1⟩ := Dp.reads I dx x v ((r1.whole e).dp (SeqAt.canLay_of_shaped h.1)) rx
      obtain ⟨bs, q2⟩ := Dp.reads I _ y u ((r2.whole e).dp (SeqAt.canLay_of_shaped h.2)) ry
      exact SeqAt.notIn_tuple_reads q2 q1 (SeqAt.canLay_of_shaped h.2) (SeqAt.canLay_of_shaped h.1) (PyProof.Rows.room_in_shaped h.1 hu) ⟨.bl _, H, I, rfl, ro_bl e c rfl q⟩
    · cases hg
  · cases hg
/-! is None -/
@[simp] def gIsN : Dt → Option Dt
  | .none => some (.bool true)
  | _ => some (.bool false)
@[simp] def gNotN : Dt → Option Dt
  | .none => some (.bool false)
  | _ => some (.bool true)
theorem ro_isN {K : Fr} {F H : Hp} {v : V} {dx d : Dt} (e : Ex F H) (r : Ro K m F H v dx) (h : gIsN dx = some d) : d = .bool (decide (v = .non)) := by
  have w := r.whole e
  cases w <;> simp [gIsN, ctrD, excD, dictD] at h <;> simp [← h]
theorem ro_notN {K : Fr} {F H : Hp} {v : V} {dx d : Dt} (e : Ex F H) (r : Ro K m F H v dx) (h : gNotN dx = some d) : d = .bool (!decide (v = .non)) := by
  have w := r.whole e
  cases w <;> simp [gNotN, ctrD, excD, dictD] at h <;> simp [← h]
theorem isn_in {K : Fr} {f : DE} {σ : L2.St} {H : Hp} {Q : VK} (w : tE K m (dU gIsN f) σ H Q) : tIsN (tO K m f) σ H Q := by
  obtain ⟨F, ρ, k, d, k', R, hf, q⟩ := w
  unfold dU at hf
  obtain ⟨⟨x, k1⟩, h1, hf⟩ := Option.bind_eq_some_iff.mp hf
  obtain ⟨z, h3, hf⟩ := Option.bind_eq_some_iff.mp hf
  cases hf
  exact ⟨F, ρ, k, x, k1, R, h1, fun v F' H' g c r => by
    cases ro_isN g.fh r h3
    exact q _ F' H' g c (.bl _)⟩
theorem notn_in {K : Fr} {f : DE} {σ : L2.St} {H : Hp} {Q : VK} (w : tE K m (dU gNotN f) σ H Q) : tNotN (tO K m f) σ H Q := by
  obtain ⟨F, ρ, k, d, k', R, hf, q⟩ := w
  unfold dU at hf
  obtain ⟨⟨x, k1⟩, h1, hf⟩ := Option.bind_eq_some_iff.mp hf
  obtain ⟨z, h3, hf⟩ := Option.bind_eq_some_iff.mp hf
  cases hf
  exact ⟨F, ρ, k, x, k1, R, h1, fun v F' H' g c r => by
    cases ro_notN g.fh r h3
    exact q _ F' H' g c (.bl _)⟩
theorem e_isN {f : DE} {j p2} (h : PE X a (tO X.fr m f)) : PE X (.Compare a [.Is] [.Constant .none j p2] pos) (tE X.fr m (dU gIsN f)) := impPE (pe_cmp (pc_isN h) rfl) fun _ _ _ w => isn_in w
theorem e_notN {f : DE} {j p2} (h : PE X a (tO X.fr m f)) : PE X (.Compare a [.IsNot] [.Constant .none j p2] pos) (tE X.fr m (dU gNotN f)) := impPE (pe_cmp (pc_notN h) rfl) fun _ _ _ w => notn_in w
theorem t_isN {f : DE} {j p2} (h : PE X a (tO X.fr m f)) : PT X (.Compare a [.Is] [.Constant .none j p2] pos) (tT X.fr m (tV (dU gIsN f))) := impPT (pt_cmp (pc_isN h) rfl) fun _ _ _ w => test_in (fun _ w' => isn_in w') w
theorem t_notN {f : DE} {j p2} (h : PE X a (tO X.fr m f)) : PT X (.Compare a [.IsNot] [.Constant .none j p2] pos) (tT X.fr m (tV (dU gNotN f))) := impPT (pt_cmp (pc_notN h) rfl) fun _ _ _ w => test_in (fun _ w' => notn_in w') w
/-! a new list times an int -/
@[simp] def lRep (fa : DL) (fb : DE) : DL := fun ρ k => (fa ρ k).bind fun p => (fb ρ p.2).bind fun q => (gRep (.list p.1) q.1).bind fun d => some (d, q.2)
theorem RpA.rep {K : Fr} {F : Hp} {vs : List V} {ds : List Dt} (r : RpA K m F vs ds) : ∀ n : Nat, RpA K m F (List.replicate n vs).flatten (List.replicate n ds).flatten
  | 0 => .nil
  | n + 1 => by
    rw [List.replicate_succ, List.replicate_succ, List.flatten_cons, List.flatten_cons]
    exact r.append (RpA.rep r n)
theorem l_rep {fa : DL} {fb : DE} (ha : PE X a (tL X.fr m fa)) (hb : PE X b (tO X.fr m fb)) : PE X (.BinOp a .Mult b pos) (tL X.fr m (lRep fa fb)) :=
  impPE (pe_op op_rep ha hb) fun σ H Q ⟨F, ρ, k, d, k', R, hf, q⟩ => by
    unfold lRep at hf
    obtain ⟨⟨x, k1⟩, h1, hf⟩ := Option.bind_eq_some_iff.mp hf
    obtain ⟨⟨y, k2⟩, h2, hf⟩ := Option.bind_eq_some_iff.mp hf
    obtain ⟨z, h3, hf⟩ := Option.bind_eq_some_iff.mp hf
    cases hf
    unfold gRep at h3
    split at h3
    · split at h3
      · rename_i hb
        rename_i xs n ex ey
        cases h3
        cases ex
        simp only at ey
        subst ey
        refine ⟨F, ρ, k, _, k1, R, h1, fun p vs F1 H1 g1 c1 hp fp ho r1 => ⟨F1, ρ, k1, _, k2, R.grow g1 c1, h2, fun v2 F2 H2 g2 c2 r2 => ?_⟩⟩
        have hmp : m ≠ some p := R.ctr.ne hp
        have ho2 := g2.hh p _ hmp ho
        refine ⟨p, n, vs, rfl, r2.int, ho2, by omega, by omega, ?_, fun p2 hp2 => ?_⟩
        · rw [r1.length]
          have h5 : x.length * n.toNat ≤ 1000 * 1000 := Nat.mul_le_mul hb.2.2 (by omega)
          exact small_line h5
        · have g12 := g1.trans c1 g2
          exact q p2 _ F2 _ (g12.trans c2 (Grow.laid g2.fh hp2)) (c2.laid hp2) (g12.back c2 hp2) (ex_none g2.fh hp2) upd_same ((r1.mono g2.ff).rep _)
      · cases h3
    · cases h3
/-! [..][::step], step 1 or -1 -/
@[simp] def lStep (fa fb : DE) : DL := fun ρ k => (fa ρ k).bind fun p => (fb ρ p.2).bind fun q => match p.1, q.1 with
  | .list ds, .int i => if i = 1 then some (ds, q.2) else if i = -1 then some (ds.reverse, q.2) else none
  | _, _ => none
theorem l_step {p3 : Pos} {st : Expr} {fa fb : DE} (ha : PE X a (tO X.fr m fa)) (hb : PE X st (tO X.fr m fb)) (hsub : ∀ o i, subscripted (.Slice none none (some st) p3) false o i = operate [o, i] (getItem o i) := by intro _ _; rfl)
    : PE X (.Subscript a (.Slice none none (some st) p3) pos) (tL X.fr m (lStep fa fb)) := by
  refine ⟨fun pins s σ H Q I ⟨F, ρ, k, d, k', R, hf, q⟩ => ?_⟩
  unfold lStep at hf
  obtain ⟨⟨x, k1⟩, h1, hf⟩ := Option.bind_eq_some_iff.mp hf
  obtain ⟨⟨y, k2⟩, h2, hf⟩ := Option.bind_eq_some_iff.mp hf
  cases x with
  | list ds =>
    cases y with
    | int i =>
      replace hf : (if i = 1 then some (ds, k2) else if i = -1 then some (ds.reverse, k2) else none) = some (d, k') := hf
      refine Subscript_ (thn (ha.run pins s σ H (fun v H1 => ∃ F1, Grow m F H F1 H1 ∧ Ctr m F1 H1 k1 ∧ Ro X.fr m F1 H1 v (.list ds)) I ⟨F, ρ, k, _, k1, R, h1, fun v F1 H1 g c r => ⟨F1, g, c, r⟩⟩) fun v s1 ⟨x, H1, I1, r1, F1, g1, c1, q1⟩ => ?_)
      obtain ⟨a0, xs, ex, hx, qa⟩ := q1.lst g1.fh
      subst ex
      cases r1
      refine wpAny_Slice (thn (po_none.run pins s1 σ H1 (fun o H2 => o = none ∧ H2 = H1) I1 ⟨rfl, rfl⟩) fun vl s2 ⟨l, H2, I2, pl, el, e2⟩ => ?_)
      subst el e2
      refine thn (po_none.run pins s2 σ H2 (fun o H3 => o = none ∧ H3 = H2) I2 ⟨rfl, rfl⟩) fun vu s3 ⟨u, H3, I3, pu, eu, e3⟩ => ?_
      subst eu e3
      refine thn ((po_some hb).run pins s3 σ H3 (fun o H4 => o = some i ∧ ∃ F4, Grow m F1 H3 F4 H4 ∧ Ctr m F4 H4 k2) I3 ⟨F1, ρ, k1, _, k2, R.grow g1 c1, h2, fun v F4 H4 g4 c4 r4 => ⟨i, r4.int, rfl, F4, g4, c4⟩⟩) fun vs s4 ⟨o, H4, I4, ps, eo, F4, g4, c4⟩ => ?_
      subst eo
      have I5 : Inv X pins σ H4 { s4 with heap := s4.heap.push { cls := .type "slice", data := .fields #[vl, vu, vs] } } := I4.kept (t' := s4.toks) fun b ob q => Heap.get?_push_of_some _ q
      have q4 := q1.grow g4
      obtain ⟨a1, xs', ex', hx', qa'⟩ := q4.lst g4.fh
      cases ex'
      obtain ⟨its, r, ht, hz⟩ := I5.list hx'
      have hlen := r.length
      show wpAny (model X.prog X.w) X.A (subscriptTail a (.Slice none none (some st) p3) (.ref a0) (.ref s4.heap.objs.size)) (EP X pins σ Q) X.xe { s4 with heap := s4.heap.push { cls := .type "slice", data := .fields #[vl, vu, vs] } }
      refine tail_any (ops := [.ref a0, .ref s4.heap.objs.size]) ht.isList.typeIs (PySem.slot_list_getitem.lookup) ?_ (hsub _ _)
      have h0 : some i ≠ some (0 : Int) := fun z => by
        cases z
        simp at hf
      refine wpAny_getItem_list_slice ht.isList (Heap.IsSliceOf.new _ vl vu vs) pl pu ps h0 ?_ (by rw [List.size_toArray]; omega)
      have g14 := g1.trans c1 g4
      by_cases hi : i = 1
      · subst hi
        rw [if_pos rfl] at hf
        cases hf
        have e1 : slicePick its.toArray none none (some 1) = its.toArray := by
          show slicePick its.toArray none none none = its.toArray
          rw [slicePick_cut, HT.sIx_none, HT.sIx_none]
          simp
        rw [e1]
        have hn := I5.hok.fresh (Nat.le_refl _)
        refine ⟨.ref _, _, I5.laid (t' := s4.toks) (o := .lst xs') (fun b ob q => Heap.get?_push_of_some _ q) (Nat.le_refl _) ⟨hz, _, 0, r, Heap.get?_push_size _ rfl⟩, rfl, ?_⟩
        exact q _ _ F4 _ (g14.trans c4 (Grow.laid g4.fh hn)) (c4.laid hn) (g14.back c4 hn) (ex_none g4.fh hn) upd_same qa'
      · rw [if_neg hi] at hf
        by_cases hi2 : i = -1
        · subst hi2
          rw [if_pos rfl] at hf
          cases hf
          rw [PySem.W.krv_pick]
          have hn := I5.hok.fresh (Nat.le_refl _)
          refine ⟨.ref _, _, I5.laid (t' := s4.toks) (o := .lst xs'.reverse) (fun b ob q => Heap.get?_push_of_some _ q) (Nat.le_refl _) ⟨by rw [List.length_reverse]; exact hz, _, 0, r.reverse, Heap.get?_push_size _ rfl⟩, rfl, ?_⟩
          exact q _ _ F4 _ (g14.trans c4 (Grow.laid g4.fh hn)) (c4.laid hn) (g14.back c4 hn) (ex_none g4.fh hn) upd_same qa'.reverse
        · rw [if_neg hi2] at hf
          cases hf
    | _ => cases hf
  | _ => cases hf
end
end Dn

set_option Elab.async false
set_option linter.all false
set_option maxRecDepth 100000
set_option maxHeartbeats 1000000
namespace Dn
open PySem PySem.Spec PyProof.Rows L2 Evl
section
variable {X : Cx} {m : Option Addr} {a b c e : Expr} {es : List Expr} {pos : Pos}
theorem e_dnew : PE X (.Dict [] [] pos) (tE X.fr m (dC (.dict []))) := impPE pe_dnewK fun σ H Q ⟨F, ρ, k, d, k', R, hf, q⟩ => by
  cases hf
  intro p hp
  have g : Grow m F H (upd F p (.dK [])) (upd H p (.dK [])) := (Grow.laid R.sub hp).freeze hp upd_same
  exact q _ _ _ g ((R.ctr.laid hp).freeze (R.ctr.ne hp)) (.dK (kvs := []) upd_same .nil)
@[simp] def asK : Dt → Option Key
  | .int i => some (.inl i)
  | .str x => some (.inr x)
  | _ => none
theorem asK_eq {d : Dt} {k : Key} (h : asK d = some k) : d = keyD k := by
  cases d <;> simp [asK] at h <;> subst h <;> rfl
theorem Rp.key {K : Fr} {F : Hp} {v : V} {k : Key} (r : Rp K m F v (keyD k)) : v = kV k := by
  rcases k with i | x
  · cases r
    rfl
  · cases r
    rfl
@[simp] def dD1 (fk fv : DE) : DE := fun ρ k => (fk ρ k).bind fun p => (fv ρ p.2).bind fun q => (asK p.1).bind fun _ => some (.dict [(p.1, q.1)], q.2)
theorem e_d1 {fk fv : DE} (hk : PE X a (tE X.fr m fk)) (hv : PE X b (tE X.fr m fv)) : PE X (.Dict [some a] [b] pos) (tE X.fr m (dD1 fk fv)) :=
  impPE (pe_disp (pps_cons hk hv pps_nil) rfl rfl (fun z => by cases z) (by simp)) fun σ H Q ⟨F, ρ, k, d, k', R, hf, q⟩ => by
    unfold dD1 at hf
    obtain ⟨⟨x, k1⟩, h1, hf⟩ := Option.bind_eq_some_iff.mp hf
    obtain ⟨⟨y, k2⟩, h2, hf⟩ := Option.bind_eq_some_iff.mp hf
    obtain ⟨kk, h3, hf⟩ := Option.bind_eq_some_iff.mp hf
    cases hf
    intro p hp
    have g0 : Grow m F H F (upd H p (.dK [])) := Grow.laid R.sub hp
    have c0 := R.ctr.laid (o := .dK []) hp
    have hmp : m ≠ some p := R.ctr.ne hp
    refine ⟨F, ρ, k, x, k1, R.grow g0 c0, h1, fun v1 F1 H1 g1 c1 r1 => ⟨F1, ρ, k1, y, k2, (R.grow g0 c0).grow g1 c1, h2, fun v2 F2 H2 g2 c2 r2 => ?_⟩⟩
    have g02 := (g0.trans c0 g1).trans c1 g2
    have f0 : F p = none := ex_none R.sub hp
    have e2 : H2 p = some (.dK []) := g2.hh p _ hmp (g1.hh p _ hmp upd_same)
    have f1 : F1 p = none := g1.f_none f0 upd_same
    have f2 : F2 p = none := g2.f_none f1 (g1.hh p _ hmp upd_same)
    have ex := asK_eq h3
    subst ex
    have ev := (r1.mono g2.ff).key
    subst ev
    refine ⟨e2, [(kk, v2)], rfl, by simp, ?_⟩
    have em : mergeK [] [(kk, v2)] = [(kk, v2)] := rfl
    rw [em]
    have g3 : Grow m F H F2 (upd H2 p (.dK [(kk, v2)])) := g02.mut hp f2
    have c3 : Ctr m F2 (upd H2 p (.dK [(kk, v2)])) k2 := c2.mut hmp
    exact q _ _ _ (g3.freeze hp upd_same) (c3.freeze hmp) (.dK (kvs := [(kk, v2)]) (ds := [y]) upd_same (.cons (r2.mono (ex_freeze f2)) .nil))

theorem blkD {N : List Str} {sc scope : Scope} {own : List (Str × Nat)} (h : blkC N sc scope own = true) : blkC N sc scope own = true := h
theorem e_globX {x : Str} {i : Int} {pos : Pos} (hm : ∃ t, X.mg x = some (.int i t)) (hg : Gl X x := by rfl) (hd : (x == ("__debug__" : Str)) = false := by decide) : PE X (.Name x pos) (tE X.fr m (dC (.int i))) := by
  obtain ⟨t, h⟩ := hm
  exact e_globI h hg hd
/-! more comparisons -/
@[simp] def gGt : Dt → Dt → Option Dt
  | .int a, .int b => some (.bool (decide (b < a)))
  | .str a, .str b => some (.bool (decide (b.cps.toList < a.cps.toList)))
  | _, _ => none
theorem ok_gt : OpR X (compareOp .Gt) (roD X.fr m gGt) := by
  intro pins s σ H x y v u Q I rx ry ⟨F, k, dx, dy, d, e, c, r1, r2, hg, q⟩
  unfold gGt at hg
  split at hg
  · cases hg
    exact op_gt pins s σ H x y v u Q I rx ry ⟨_, _, r1.int, r2.int, ro_bl e c rfl q⟩
  · cases hg
    exact op_gt_str pins s σ H x y v u Q I rx ry ⟨_, _, r1.str, r2.str, ro_bl e c rfl q⟩
  · cases hg
theorem hu64 {j : Nat} {A : Around} (hr : Room j A) : A.units + 64 < cLine := hr.units
theorem hu65 {j : Nat} {A : Around} (hr : Room j A) : A.units + 65 < cLine := by
  have := hr.un
  omega
/-! a list comprehension given to a name -/
variable {F0 H0 : Hp} {W : WE}
theorem s_setLc (i : Nat) {y : Str} {py : Pos} {elt tg it : Expr} {ifs : List Expr} {scope : Scope} {own : List (Str × Nat)} {spos : Pos} {src : DL} {tch : List Nat} {g : DG} {t : DT} {f : DE} (hc : X.calm = true) (hN : X.N.Nodup) (hyl : X.env.scope.names.lookup y = some .local)
    (hsw : swapsWith (.ListComp elt [⟨tg, it, ifs, 0⟩] scope pos) (some (.Name y py)) spos.line X.env = pure true) (ok : blkC X.N X.env.scope scope own = true) (ht0 : ∀ j, j ∈ tch → j ∈ own.map (·.2)) (hi : PI X tg it (tIS X.fr m src))
    (hg : ∀ (s : Shared) (H : Hp) (C : Addr) (cl : List (Str × Addr)) (fp : List Addr), PG (X.blk s H scope (compEnvC scope cl C X.env) fp) tg (tGd X.fr m tch g)) (ht : ∀ (s : Shared) (H : Hp) (C : Addr) (cl : List (Str × Addr)) (fp : List Addr), PTs (X.blk s H scope (compEnvC scope cl C X.env) fp) ifs (tT X.fr m t))
    (he : ∀ (s : Shared) (H : Hp) (C : Addr) (cl : List (Str × Addr)) (fp : List Addr), PE (X.blk s H scope (compEnvC scope cl C X.env) fp) elt (tE X.fr m f)) (hy : X.N[i]? = some y := by rfl) (hs : ∀ x, foldedSetIterable it X.env x = pure x := by intro _; rfl) :
    PS X (.Assign [.Name y py] (.ListComp elt [⟨tg, it, ifs, 0⟩] scope pos) spos) (tS X.fr m F0 H0 W (sSetL i (dLc src (own.map (·.2)) g t f))) := impPS (ps_setLc hc hN hy hyl hsw hi (blkOk_by ok) hg ht he hs) fun D σ H ⟨F, ρ, k, out, R, hf, q⟩ => by
  unfold sSetL at hf
  obtain ⟨⟨d, k1⟩, h1, hf⟩ := Option.bind_eq_some_iff.mp hf
  cases hf
  refine lc_in (m := m) ht0 ⟨F, ρ, k, d, k1, R.rl, h1, fun p vs F' H' g c hp fp ho r => q _ F' H' g.ff ⟨(R.rl.grow g c).set_ow rfl fp (R.rl.ctr.ne hp) ho ⟨vs, rfl, r⟩ fun j hj => hj.known R.rl hp, R.gr.trans R.rl.ctr g, fun j q' h => ?_⟩⟩
  rcases own_set_ow h with ⟨_, e⟩ | ⟨_, h⟩
  · cases e
    exact R.fresh hp
  · exact R.own j q' h
end
end Dn

set_option Elab.async false
set_option linter.all false
set_option maxRecDepth 100000
set_option maxHeartbeats 1000000
namespace Dn
open PySem PySem.Spec PyProof.Rows L2 Evl
/-! ### the law itself: its first row makes the counter -/
def tSm (K : Fr) (W : WE) (f : DS) : TS := fun D σ H => ∃ m F0 H0, tS K m F0 H0 W f D σ H
theorem ss_any {X : Cx} {W : WE} {f : DS} {sts : List Stmt} (h : ∀ m F0 H0, PSs X sts (tS X.fr m F0 H0 W f)) : PSs X sts (tSm X.fr W f) := ⟨fun pins s σ H D I ⟨m, F0, H0, w⟩ => (h m F0 H0).run pins s σ H D I w⟩
@[simp] def lawEnv (sl i : Nat) (ns : List Int) : Ev := (startE sl [.list (ns.map .int)]).set i (.sh ctrD)
@[simp] def lawRun (sl i : Nat) (body : DS) (ns : List Int) : Option Dt := (body (lawEnv sl i ns) 0).bind fun o => match o with
  | .ret d _ => some d
  | _ => none
def spLaw (K : PySem.W.Frag) : Sp := fun vs H Q _ => ∃ (a : Addr) (ns : List Int), vs = [.ref a] ∧ SqL K H a (ns.map V.int) ∧ ns.length ≤ 63 ∧ ∀ H', Q (.bl true) H'
theorem RpA.ints {K : Fr} {m : Option Addr} {F : Hp} : ∀ {ns : List Int}, RpA K m F (ns.map V.int) (ns.map .int)
  | [] => .nil
  | n :: ns => .cons (.int n) RpA.ints
section
variable {P : Program} {w : World} {K : PySem.W.Frag} {mg : Str → Option Value} {base : Heap}
theorem fn_law {x qual : Str} {st st1 : Stmt} {sts : List Stmt} {f : Addr} {fd : FuncData} {N : List Str} {p0 : Str} {j i : Nat} (G : Fun K x qual st f fd) (S : FnScope N [p0] (defScope st)) (body : DS) (eb : defBody st = st1 :: sts) (hi : 0 < i ∧ i < N.length)
    (h1 : ∀ (cdv : Value) (A : Around) (outer : List PySem.Env) (s : Shared) (H : Hp) (E : XK), PS (cxOf CX0 P w K mg base N qual (defScope st) f cdv A outer s H E).nox st1 (tAsg (tLst (tCons (tC (.int 0)) tNil)) (gName i)))
    (hb : ∀ (cdv : Value) (A : Around) (outer : List PySem.Env) (s : Shared) (H : Hp) (E : XK) (m : Option Addr) (F0 H0 : Hp), Room j (A.deeper (envOfC qual (defScope st) s.heap.objs.size f cdv)) →
      PSs (cxOf CX0 P w K mg base N qual (defScope st) f cdv A outer s H E).nox sts (tS ⟨K, P, w, mg⟩ m F0 H0 (fun _ _ _ => False) body))
    (hl : ∀ ns : List Int, ns.length ≤ 63 → lawRun N.length i body ns = some (.bool true)) : FnOk P w K mg base CX0 (j + 1) f fd [p0] (spLaw K) := by
  refine G.ok S (fun vs H Q E h => ?_) (fun cdv A outer s H vs Q E hr h => ?_)
  · obtain ⟨a, ns, rfl, _⟩ := h
    rfl
  · obtain ⟨a, ns, rfl, hS, hlen, q⟩ := h
    rw [eb]
    refine ⟨_, pss_cons (h1 cdv A outer s H E) (ss_any (X := (cxOf CX0 P w K mg base N qual (defScope st) f cdv A outer s H E).nox) (W := fun _ _ _ => False) (f := body) fun m F0 H0 => hb cdv A outer s H E m F0 H0 hr), ?_⟩
    refine ⟨by decide, fun p hp => ?_⟩
    have hrun := hl ns hlen
    unfold lawRun at hrun
    obtain ⟨o, ho, hrun⟩ := Option.bind_eq_some_iff.mp hrun
    have e0 : Ex H H := Ex.refl H
    have c0 : Ctr none H H 0 := fun a e => nomatch e
    have r0 : RpA ⟨K, P, w, mg⟩ (some p) H [.ref a] [.list (ns.map .int)] := .cons (.lst hS RpA.ints) .nil
    have eH : Ex H (upd H p (.lst [.int 0])) := Ex.new hp
    have c1 : Ctr (some p) H (upd H p (.lst [.int 0])) 0 := fun b eb => by
      cases eb
      exact ⟨upd_same, hp⟩
    have R1 : Rl ⟨K, P, w, mg⟩ (some p) H (startE N.length [.list (ns.map .int)]) 0 (L2.start N [.ref a]) (upd H p (.lst [.int 0])) := rl_start eH c1 r0
    have R2 := R1.set_sh (i := i) (d := ctrD) (v := .ref p) (.ctr rfl)
    refine ⟨some p, H, upd H p (.lst [.int 0]), H, _, 0, o, ⟨R2, .refl eH, fun j q h => ?_⟩, ho, ?_⟩
    · obtain ⟨⟨c, h1, h2, _⟩, _⟩ := own_set_sh h
      exact (startE_ow h1 h2).elim
    · cases o with
      | ret d k =>
        cases hrun
        exact fun v F H' _ _ r => by
          cases r
          exact q H'
      | _ => cases hrun
end
end Dn

set_option Elab.async false
set_option linter.all false
set_option maxRecDepth 100000
set_option maxHeartbeats 1000000
namespace Dn
open PySem PySem.Spec PyProof.Rows L2 Evl

@[simp] theorem lcLoop_nil (ρ : Ev) (g : DG) (t : DT) (e : DE) (k : Int) : lcLoop ρ g t e [] k = some ([], k) := rfl
@[simp] theorem forLoop_nil (g : DG) (b : DS) (ρ : Ev) (k : Int) : forLoop g b [] ρ k = some (.next ρ k) := rfl
theorem lc_pure {ρ : Ev} {g : DG} {t : DT} {e : DE} {k : Int} (b : Dt → Bool) (v : Dt → Dt) : ∀ {ds : List Dt}, (∀ d ∈ ds, ∃ ρ', g ρ d = some ρ' ∧ t ρ' k = some (b d, k) ∧ (b d = true → e ρ' k = some (v d, k))) → lcLoop ρ g t e ds k = some ((ds.filter b).map v, k)
  | [], _ => rfl
  | d :: ds, h => by
    obtain ⟨ρ', h1, h2, h3⟩ := h d List.mem_cons_self
    have ih := lc_pure b v (ds := ds) fun d hd => h d (List.mem_cons_of_mem _ hd)
    cases hb : b d with
    | true => simp [lcLoop, h1, h2, hb, h3 hb, ih, List.filter_cons]
    | false => simp [lcLoop, h1, h2, hb, ih, List.filter_cons]
theorem lc_map {ρ : Ev} {g : DG} {e : DE} {k : Int} (v : Dt → Dt) {ds : List Dt} (h : ∀ d ∈ ds, ∃ ρ', g ρ d = some ρ' ∧ e ρ' k = some (v d, k)) : lcLoop ρ g tAll e ds k = some (ds.map v, k) := by
  have := lc_pure (ρ := ρ) (g := g) (t := tAll) (e := e) (k := k) (fun _ => true) v (ds := ds) fun d hd => by
    obtain ⟨ρ', h1, h2⟩ := h d hd
    exact ⟨ρ', h1, rfl, fun _ => h2⟩
  rw [this, List.filter_eq_self.mpr (fun _ _ => rfl)]
@[simp] theorem asBs_map : ∀ bs : List Bool, asBs (bs.map .bool) = some bs
  | [] => rfl
  | b :: bs => by simp [asBs_map bs]
@[simp] theorem asSs_map : ∀ bs : List Str, asSs (bs.map .str) = some bs
  | [] => rfl
  | b :: bs => by simp [asSs_map bs]
@[simp] theorem asBs_map' {α : Type} (f : α → Bool) (xs : List α) : asBs (xs.map (PyData.bool ∘ f)) = some (xs.map f) := by
  rw [← asBs_map, List.map_map]
@[simp] theorem isCtr_none : isCtr .none = false := rfl
@[simp] theorem isCtr_bool (b : Bool) : isCtr (.bool b) = false := rfl
@[simp] theorem isCtr_int (b : Int) : isCtr (.int b) = false := rfl
@[simp] theorem isCtr_str (b : Str) : isCtr (.str b) = false := rfl
@[simp] theorem isCtr_list (b : List Dt) : isCtr (.list b) = false := rfl
@[simp] theorem isCtr_tuple (b : List Dt) : isCtr (.tuple b) = false := rfl
@[simp] theorem isCtr_ctr : isCtr ctrD = true := rfl
@[simp] theorem leD_int (a b : Int) : leD (.int a) (.int b) = some (decide (a ≤ b)) := by rw [leD]
@[simp] theorem leD_str (a b : Str) : leD (.str a) (.str b) = some (!decide (b.cps.toList < a.cps.toList)) := by rw [leD]
@[simp] theorem leD_tuple (a b : List Dt) : leD (.tuple a) (.tuple b) = leA a b := by rw [leD]
@[simp] theorem ltD_int (a b : Int) : ltD (.int a) (.int b) = some (decide (a < b)) := by rw [ltD]
@[simp] theorem ltD_str (a b : Str) : ltD (.str a) (.str b) = some (decide (a.cps.toList < b.cps.toList)) := by rw [ltD]
@[simp] theorem ltD_tuple (a b : List Dt) : ltD (.tuple a) (.tuple b) = ltA a b := by rw [ltD]
@[simp] theorem leA_nil (ys : List Dt) : leA [] ys = some true := by rw [leA]
@[simp] theorem leA_cons_nil (x : Dt) (xs : List Dt) : leA (x :: xs) [] = some false := by rw [leA]
@[simp] theorem leA_cons (x y : Dt) (xs ys : List Dt) : leA (x :: xs) (y :: ys) = (leA xs ys).bind fun r => if PyData.eqv x y = true then some r else leD x y := by rw [leA]
@[simp] theorem ltA_nil_nil : ltA [] [] = some false := by rw [ltA]
@[simp] theorem ltA_nil_cons (y : Dt) (ys : List Dt) : ltA [] (y :: ys) = some true := by rw [ltA]
@[simp] theorem ltA_cons_nil (x : Dt) (xs : List Dt) : ltA (x :: xs) [] = some false := by rw [ltA]
@[simp] theorem ltA_cons (x y : Dt) (xs ys : List Dt) : ltA (x :: xs) (y :: ys) = (ltA xs ys).bind fun r => if PyData.eqv x y = true then some r else ltD x y := by rw [ltA]
@[simp] theorem eqv_none_none   : PyData.eqv .none .none = true := by rw [PyData.eqv]
@[simp] theorem eqv_none_bool  (b : Bool) : PyData.eqv .none (.bool b) = false := by rw [PyData.eqv]
@[simp] theorem eqv_none_int  (b : Int) : PyData.eqv .none (.int b) = false := by rw [PyData.eqv]
@[simp] theorem eqv_none_str  (b : Str) : PyData.eqv .none (.str b) = false := by rw [PyData.eqv]
@[simp] theorem eqv_none_list  (b : List Dt) : PyData.eqv .none (.list b) = false := by rw [PyData.eqv]
@[simp] theorem eqv_none_tuple  (b : List Dt) : PyData.eqv .none (.tuple b) = false := by rw [PyData.eqv]
@[simp] theorem eqv_none_dict  (b : List (Dt × Dt)) : PyData.eqv .none (.dict b) = false := by rw [PyData.eqv]
@[simp] theorem eqv_bool_none (a : Bool)  : PyData.eqv (.bool a) .none = false := by rw [PyData.eqv]
@[simp] theorem eqv_bool_bool (a : Bool) (b : Bool) : PyData.eqv (.bool a) (.bool b) = (a == b) := by rw [PyData.eqv]
@[simp] theorem eqv_bool_int (a : Bool) (b : Int) : PyData.eqv (.bool a) (.int b) = ((if a then 1 else 0) == b) := by rw [PyData.eqv]
@[simp] theorem eqv_bool_str (a : Bool) (b : Str) : PyData.eqv (.bool a) (.str b) = false := by rw [PyData.eqv]
@[simp] theorem eqv_bool_list (a : Bool) (b : List Dt) : PyData.eqv (.bool a) (.list b) = false := by rw [PyData.eqv]
@[simp] theorem eqv_bool_tuple (a : Bool) (b : List Dt) : PyData.eqv (.bool a) (.tuple b) = false := by rw [PyData.eqv]
@[simp] theorem eqv_bool_dict (a : Bool) (b : List (Dt × Dt)) : PyData.eqv (.bool a) (.dict b) = false := by rw [PyData.eqv]
@[simp] theorem eqv_int_none (a : Int)  : PyData.eqv (.int a) .none = false := by rw [PyData.eqv]
@[simp] theorem eqv_int_bool (a : Int) (b : Bool) : PyData.eqv (.int a) (.bool b) = (a == (if b then 1 else 0)) := by rw [PyData.eqv]
@[simp] theorem eqv_int_int (a : Int) (b : Int) : PyData.eqv (.int a) (.int b) = (a == b) := by rw [PyData.eqv]
@[simp] theorem eqv_int_str (a : Int) (b : Str) : PyData.eqv (.int a) (.str b) = false := by rw [PyData.eqv]
@[simp] theorem eqv_int_list (a : Int) (b : List Dt) : PyData.eqv (.int a) (.list b) = false := by rw [PyData.eqv]
@[simp] theorem eqv_int_tuple (a : Int) (b : List Dt) : PyData.eqv (.int a) (.tuple b) = false := by rw [PyData.eqv]
@[simp] theorem eqv_int_dict (a : Int) (b : List (Dt × Dt)) : PyData.eqv (.int a) (.dict b) = false := by rw [PyData.eqv]
@[simp] theorem eqv_str_none (a : Str)  : PyData.eqv (.str a) .none = false := by rw [PyData.eqv]
@[simp] theorem eqv_str_bool (a : Str) (b : Bool) : PyData.eqv (.str a) (.bool b) = false := by rw [PyData.eqv]
@[simp] theorem eqv_str_int (a : Str) (b : Int) : PyData.eqv (.str a) (.int b) = false := by rw [PyData.eqv]
@[simp] theorem eqv_str_str (a : Str) (b : Str) : PyData.eqv (.str a) (.str b) = (a == b) := by rw [PyData.eqv]
@[simp] theorem eqv_str_list (a : Str) (b : List Dt) : PyData.eqv (.str a) (.list b) = false := by rw [PyData.eqv]
@[simp] theorem eqv_str_tuple (a : Str) (b : List Dt) : PyData.eqv (.str a) (.tuple b) = false := by rw [PyData.eqv]
@[simp] theorem eqv_str_dict (a : Str) (b : List (Dt × Dt)) : PyData.eqv (.str a) (.dict b) = false := by rw [PyData.eqv]
@[simp] theorem eqv_list_none (a : List Dt)  : PyData.eqv (.list a) .none = false := by rw [PyData.eqv]
@[simp] theorem eqv_list_bool (a : List Dt) (b : Bool) : PyData.eqv (.list a) (.bool b) = false := by rw [PyData.eqv]
@[simp] theorem eqv_list_int (a : List Dt) (b : Int) : PyData.eqv (.list a) (.int b) = false := by rw [PyData.eqv]
@[simp] theorem eqv_list_str (a : List Dt) (b : Str) : PyData.eqv (.list a) (.str b) = false := by rw [PyData.eqv]
@[simp] theorem eqv_list_list (a : List Dt) (b : List Dt) : PyData.eqv (.list a) (.list b) = PyData.eqvAll a b := by rw [PyData.eqv]
@[simp] theorem eqv_list_tuple (a : List Dt) (b : List Dt) : PyData.eqv (.list a) (.tuple b) = false := by rw [PyData.eqv]
@[simp] theorem eqv_list_dict (a : List Dt) (b : List (Dt × Dt)) : PyData.eqv (.list a) (.dict b) = false := by rw [PyData.eqv]
@[simp] theorem eqv_tuple_none (a : List Dt)  : PyData.eqv (.tuple a) .none = false := by rw [PyData.eqv]
@[simp] theorem eqv_tuple_bool (a : List Dt) (b : Bool) : PyData.eqv (.tuple a) (.bool b) = false := by rw [PyData.eqv]
@[simp] theorem eqv_tuple_int (a : List Dt) (b : Int) : PyData.eqv (.tuple a) (.int b) = false := by rw [PyData.eqv]
@[simp] theorem eqv_tuple_str (a : List Dt) (b : Str) : PyData.eqv (.tuple a) (.str b) = false := by rw [PyData.eqv]
@[simp] theorem eqv_tuple_list (a : List Dt) (b : List Dt) : PyData.eqv (.tuple a) (.list b) = false := by rw [PyData.eqv]
@[simp] theorem eqv_tuple_tuple (a : List Dt) (b : List Dt) : PyData.eqv (.tuple a) (.tuple b) = PyData.eqvAll a b := by rw [PyData.eqv]
@[simp] theorem eqv_tuple_dict (a : List Dt) (b : List (Dt × Dt)) : PyData.eqv (.tuple a) (.dict b) = false := by rw [PyData.eqv]
@[simp] theorem eqv_dict_none (a : List (Dt × Dt))  : PyData.eqv (.dict a) .none = false := by rw [PyData.eqv]
@[simp] theorem eqv_dict_bool (a : List (Dt × Dt)) (b : Bool) : PyData.eqv (.dict a) (.bool b) = false := by rw [PyData.eqv]
@[simp] theorem eqv_dict_int (a : List (Dt × Dt)) (b : Int) : PyData.eqv (.dict a) (.int b) = false := by rw [PyData.eqv]
@[simp] theorem eqv_dict_str (a : List (Dt × Dt)) (b : Str) : PyData.eqv (.dict a) (.str b) = false := by rw [PyData.eqv]
@[simp] theorem eqv_dict_list (a : List (Dt × Dt)) (b : List Dt) : PyData.eqv (.dict a) (.list b) = false := by rw [PyData.eqv]
@[simp] theorem eqv_dict_tuple (a : List (Dt × Dt)) (b : List Dt) : PyData.eqv (.dict a) (.tuple b) = false := by rw [PyData.eqv]
@[simp] theorem eqv_dict_dict (a : List (Dt × Dt)) (b : List (Dt × Dt)) : PyData.eqv (.dict a) (.dict b) = false := by rw [PyData.eqv]
@[simp] theorem eqvAll_nil : PyData.eqvAll [] [] = true := by rw [PyData.eqvAll]
@[simp] theorem eqvAll_nil_cons (y : Dt) (ys : List Dt) : PyData.eqvAll [] (y :: ys) = false := by rw [PyData.eqvAll]
@[simp] theorem eqvAll_cons_nil (y : Dt) (ys : List Dt) : PyData.eqvAll (y :: ys) [] = false := by rw [PyData.eqvAll]
@[simp] theorem eqvAll_cons (x y : Dt) (xs ys : List Dt) : PyData.eqvAll (x :: xs) (y :: ys) = (PyData.eqv x y && PyData.eqvAll xs ys) := by rw [PyData.eqvAll]
@[simp] theorem lay_none  : PyData.none.canLay0 = true := by rw [PyData.canLay0]
@[simp] theorem depth_none  : PyData.none.depth = 0 := by rw [PyData.depth]
@[simp] theorem lay_bool (a : Bool) : (PyData.bool a).canLay0 = true := by rw [PyData.canLay0]
@[simp] theorem depth_bool (a : Bool) : (PyData.bool a).depth = 0 := by rw [PyData.depth]
@[simp] theorem lay_int (a : Int) : (PyData.int a).canLay0 = true := by rw [PyData.canLay0]
@[simp] theorem depth_int (a : Int) : (PyData.int a).depth = 0 := by rw [PyData.depth]
@[simp] theorem lay_str (a : Str) : (PyData.str a).canLay0 = PyData.strOk a := by rw [PyData.canLay0]
@[simp] theorem depth_str (a : Str) : (PyData.str a).depth = 0 := by rw [PyData.depth]
@[simp] theorem lay_list (a : List Dt) : (PyData.list a).canLay0 = PyData.canLayAll0 a := by rw [PyData.canLay0]
@[simp] theorem depth_list (a : List Dt) : (PyData.list a).depth = PyData.depthAll a + 1 := by rw [PyData.depth]
@[simp] theorem lay_tuple (a : List Dt) : (PyData.tuple a).canLay0 = PyData.canLayAll0 a := by rw [PyData.canLay0]
@[simp] theorem depth_tuple (a : List Dt) : (PyData.tuple a).depth = PyData.depthAll a + 1 := by rw [PyData.depth]
@[simp] theorem lay_dict (a : List (Dt × Dt)) : (PyData.dict a).canLay0 = false := by rw [PyData.canLay0]
@[simp] theorem depth_dict (a : List (Dt × Dt)) : (PyData.dict a).depth = PyData.depthKv a + 1 := by rw [PyData.depth]
@[simp] theorem layAll_nil : PyData.canLayAll0 [] = true := by rw [PyData.canLayAll0]
@[simp] theorem layAll_cons (x : Dt) (xs : List Dt) : PyData.canLayAll0 (x :: xs) = (x.canLay0 && PyData.canLayAll0 xs) := by rw [PyData.canLayAll0]
@[simp] theorem depthAll_nil : PyData.depthAll [] = 0 := by rw [PyData.depthAll]
@[simp] theorem depthAll_cons (x : Dt) (xs : List Dt) : PyData.depthAll (x :: xs) = max x.depth (PyData.depthAll xs) := by rw [PyData.depthAll]
theorem okD_eq (d : Dt) : okD d = (d.canLay0 && decide (d.depth ≤ 64)) := rfl
theorem okAll {n : Nat} : ∀ {ds : List Dt}, (∀ d ∈ ds, d.canLay0 = true ∧ d.depth ≤ n) → PyData.canLayAll0 ds = true ∧ PyData.depthAll ds ≤ n
  | [], _ => by simp
  | d :: ds, h => by
    obtain ⟨h1, h2⟩ := h d List.mem_cons_self
    obtain ⟨h3, h4⟩ := okAll (ds := ds) fun e he => h e (List.mem_cons_of_mem _ he)
    simp [h1, h3, h2, h4]
    omega
theorem okL {ds : List Dt} (h : ∀ d ∈ ds, d.canLay0 = true ∧ d.depth ≤ 63) : okD (.list ds) = true := by
  obtain ⟨h1, h2⟩ := okAll h
  simp [okD_eq, h1]
  omega
theorem okT {ds : List Dt} (h : ∀ d ∈ ds, d.canLay0 = true ∧ d.depth ≤ 63) : okD (.tuple ds) = true := by
  obtain ⟨h1, h2⟩ := okAll h
  simp [okD_eq, h1]
  omega
@[simp] theorem eqvAll_empty (xs : List Dt) : PyData.eqvAll xs [] = xs.isEmpty := by cases xs <;> simp
@[simp] theorem atI_0 {α : Type} (a : α) (l : List α) : L2.atI (a :: l) 0 = some a := by
  have := L2.atI_nat (xs := a :: l) (j := 0) (v := a) rfl
  exact this
@[simp] theorem atI_1 {α : Type} (a b : α) (l : List α) : L2.atI (a :: b :: l) 1 = some b := by
  have := L2.atI_nat (xs := a :: b :: l) (j := 1) (v := b) rfl
  exact this
@[simp] theorem okD_nil : okD (.list []) = true := by simp [okD_eq]
@[simp] theorem okD_int (i : Int) : okD (.int i) = true := by simp [okD_eq]
@[simp] theorem okD_bool (i : Bool) : okD (.bool i) = true := by simp [okD_eq]
@[simp] theorem okD_none : okD .none = true := by simp [okD_eq]
end Dn

set_option Elab.async false
set_option linter.all false
set_option maxRecDepth 100000
set_option maxHeartbeats 1000000
/-! Promises of defs that are run where no repr is under way (guards known to be none) -/
namespace Dn
open PySem PySem.Spec PyProof.Rows L2 Evl

/-- a def's promise, under an empty list of guards -/
structure FnG (P : Program) (w : World) (K : PySem.W.Frag) (mg : Str → Option Value) (base : Heap) (C : CXT) (j : Nat) (fa : Addr) (fd : FuncData) (ps : List Str) (sp : Sp) : Prop where
  few : ∀ vs H Q E, sp vs H Q E → vs.length = ps.length
  go : ∀ (A : Around) (out : List Env) (s : Shared) (H : Hp) (ag : Args) (us : List Value) (vs : List V) (Q : VK) (E : XK), A.guards = some [] → Room j A → Env0 P w K mg base A out s H → BindsTo s fd ag (ps.zip us) → Vals vs us → sp vs H Q E → codeAny (model P w) A (.call (.ref fa) ag) (CR C out P w H s Q E) s
section
variable {P : Program} {w : World} {K : PySem.W.Frag} {mg : Str → Option Value} {base : Heap} {C : CXT} {i j : Nat} {fa : Addr} {fd : FuncData} {ps : List Str} {sp : Sp}
theorem FnG.of (F : FnOk P w K mg base C j fa fd ps sp) : FnG P w K mg base C j fa fd ps sp := ⟨F.len, fun A out s H ag us vs Q E _ => F.run A out s H ag us vs Q E⟩
theorem FnG.mono (F : FnG P w K mg base C i fa fd ps sp) (h : i ≤ j) : FnG P w K mg base C j fa fd ps sp := ⟨F.few, fun A out s H ag us vs Q E g r => F.go A out s H ag us vs Q E g (r.mono h)⟩
/-- from the body, as the text has it -/
theorem fnG_body {qual name : Str} {pm : Arguments} {body : List Stmt} {sc : Scope} {v1 v2 v3 v4 v5 v6 v7 : Value} {o1 o2 : Option Addr} {sl : Array (Option Value)} {N : List Str} (lk : K.lookup fa = some ⟨v7, o2, .func (PySem.W.fnOf name qual pm body sc v1 v2 v3 v4 o1 v5 v6), sl⟩) (hcd : PySem.W.codeIn K v5 qual = true)
    (S : FnScope N ps sc) (few : ∀ vs H Q E, sp vs H Q E → vs.length = ps.length)
    (hb : ∀ (A : Around) (out : List Env) (s : Shared) (H : Hp) (vs : List V) (Q : VK) (E : XK), A.guards = some [] → Room j (A.deeper (envOfC qual sc s.heap.objs.size fa v5)) → sp vs H Q E →
      ∃ t, PSs (cxOf C P w K mg base N qual sc fa v5 A out s H E) body t ∧ t { nx := fun _ H' => Q .non H', rt := Q } (start N vs) H) :
    FnG P w K mg base C (j + 1) fa (PySem.W.fnOf name qual pm body sc v1 v2 v3 v4 o1 v5 v6) ps sp where
  few := few
  go := fun A out s H ag us vs Q E gd rm e0 bd rv hs => by
    obtain ⟨t, ht, hq⟩ := hb A out s H vs Q E gd (rm.deeper _) hs
    have stay : ∀ b o, base.get? b = some o → s.heap.get? b = some o := fun b o z => (e0.bs b o z).1
    have kin := e0.mod.kin.keeps stay
    refine codeAny_call_function rm.depth (kin _ _ lk) rfl S.co S.gen rfl (PySem.W.codeRec_of kin hcd) (bd _ _ _ _ (wpAny_newFunctionEnv_cells S.kind (fun y hy => ?_) fun env he s1 x => ?_))
    · obtain ⟨n, v⟩ := y
      exact (S.par n (List.of_mem_zip hy).1).imp id fun q => ⟨q, PySem.W.cellsFrom_some _ _ _ (.inl q)⟩
    · subst he
      have J : Inv (cxOf C P w K mg base N qual sc fa v5 A out s H E) [] (start N vs) H s1 := inv_start S rm.hd e0 (few _ _ _ _ hs) rv x
      refine ⟨(e0.mod.nolimit.keeps stay).keeps x.toInCall.keep, codeAny_func (wpAny_mono (ht.run [] s1 (start N vs) H _ J hq) (fun fl s' z => ?_) fun _ _ z => z)⟩
      cases fl with
      | brk => exact (z.elim fun _ z => z.elim fun _ z => z.2 : False).elim
      | cont => exact (z.elim fun _ z => z.elim fun _ z => z.2 : False).elim
      | next =>
        obtain ⟨σ', H', J', q⟩ := z
        exact ⟨.non, H', J'.os, J'.bare, J'.base, J'.hok, rfl, q⟩
      | ret u =>
        obtain ⟨v, σ', H', J', r, q⟩ := z
        exact ⟨v, H', J'.os, J'.bare, J'.base, J'.hok, r, q⟩
/-- the same for a def as Fun knows it, no exception leaving it -/
theorem fnG_ok {x qual : Str} {st : Stmt} {N : List Str} (F : Fun K x qual st fa fd) (S : FnScope N ps (defScope st)) (few : ∀ vs H Q E, sp vs H Q E → vs.length = ps.length)
    (hb : ∀ (cdv : Value) (A : Around) (out : List Env) (s : Shared) (H : Hp) (vs : List V) (Q : VK) (E : XK), (A.deeper (envOfC qual (defScope st) s.heap.objs.size fa cdv)).guards = some [] → Room j (A.deeper (envOfC qual (defScope st) s.heap.objs.size fa cdv)) → sp vs H Q E →
      ∃ t, PSs (cxOf CX0 P w K mg base N qual (defScope st) fa cdv A out s H E).nox (defBody st) t ∧ t { nx := fun _ H' => Q .non H', rt := Q } (start N vs) H) : FnG P w K mg base CX0 (j + 1) fa fd ps sp := by
  obtain ⟨oc, od, kV, doc, pm, an, cdv, ct, osl, rfl, lk, hcd⟩ := F.ex
  refine fnG_body lk hcd S few fun A out s H vs Q E gd rm hs => ?_
  obtain ⟨t, h, q⟩ := hb cdv A out s H vs Q E gd rm hs
  exact ⟨t, h.nox, q⟩
end
section
variable {X : Cx} {C : CXT} {k : Nat} {fa : Addr} {fd : FuncData} {ps : List Str} {sp : Sp} {E : XK}
/-- a call of such a def -/
theorem pe_callG {x : Str} {p pos : Pos} {e : Expr} {es : List Expr} {t : TA} (F : FnG X.prog X.w X.K X.mg X.base C k fa fd ps sp) (gd : X.A.guards = some []) (hr : Room k X.A) (hm : X.mg x = some (.ref fa)) (hk : PySem.W.keepIn X.K (.ref fa) = true) (hb : Binds X.K fd ps []) (hx : Passes C X E)
    (ha : PA X (e :: es) t) (hg : Gl X x := by rfl) (hdb : (x == ("__debug__" : Str)) = false := by decide) (he : starEach (e :: es) X.env = (false, eval e X.env) :: starEach es X.env := by rfl) (hpl : (backTo pos (starEach es X.env)).any (·.1) = false := by rfl) :
    PE X (.Call (.Name x p) (e :: es) [] pos) (tCall sp [] E t) := by
  refine ⟨fun pins s σ H Q I h => wpAny_Call_Name_kw (ld_glob I hg hm ?_ hdb)⟩
  refine PySem.W.callWith_K (h₀ := X.base) I.ok.mod.kin hk (thn (ha.run pos pins s σ H _ I h) fun us s1 ⟨vs, H1, I1, r, q⟩ => ⟨I1.kIn, ?_⟩) he hpl
  have q' : sp vs H1 Q E := by
    have z : sp (vs ++ []) H1 Q E := q
    rw [List.append_nil] at z
    exact z
  have len : us.length = ps.length := by
    rw [← r.length]
    exact F.few _ _ _ _ q'
  have bd := hb s1 us I1.kIn (by rw [List.append_nil]; exact len)
  rw [List.append_nil] at bd
  refine wpAny_call (codeAny_mono (F.go X.A X.stack s1 H1 ⟨us, []⟩ us vs Q E gd hr I1.env0 bd r q') fun rs s' hq => ?_)
  cases rs with
  | error e => exact hx pins σ H1 s1 e s' I1 hq
  | ok fl =>
    cases fl with
    | ret u => exact I1.after hq
    | next => exact hq.elim
    | brk => exact hq.elim
    | cont => exact hq.elim
end

/-! ### the top -/
/-- what is tracked at the top: the script, where it is none of the module's own -/
def topH (K : PySem.W.Frag) (a : Addr) (o : Obj) (ns : List Int) : Hp := fun b => if b = a ∧ K.lookup a = none then some (.frz o (.lst (ns.map V.int))) else none
theorem topH_some {K : PySem.W.Frag} {a b : Addr} {o : Obj} {ns : List Int} {u : HO} (h : topH K a o ns b = some u) : b = a ∧ K.lookup a = none ∧ u = .frz o (.lst (ns.map V.int)) := by
  unfold topH at h
  split at h
  · rename_i z
    cases h
    exact ⟨z.1, z.2, rfl⟩
  · cases h
theorem topH_only {K : PySem.W.Frag} {a : Addr} {o : Obj} {ns : List Int} : Only (topH K a o ns) := fun b => by
  cases q : topH K a o ns b with
  | none => exact .inl rfl
  | some u => exact .inr ⟨_, _, by rw [(topH_some q).2.2]⟩
theorem law_topG {P : Program} {w : World} {K : PySem.W.Frag} {mg mb : Str → Option Value} {C : CXT} {k : Nat} {fa a : Addr} {fd : FuncData} {x : Str} {sp : Sp} {s₁ : Shared} {vs : List Value} {ns : List Int} (KX : K.In s₁.heap) (gm : s₁.heap.Ns mainGlobals mg) (gb : s₁.heap.Ns builtinsNs mb)
    (bt : ∀ x : Str, x ≠ "__name__" → mb x = bootBuiltins x) (nl : s₁.heap.NoLimit) (gn : s₁.gens = #[]) (ha : s₁.heap.get? a = some { cls := .type "list", data := .seq vs.toArray }) (hi : IntsAre vs ns) (hl : ns.length ≤ sizeLine) (rm : Room k callerA)
    (F : ∀ base : Heap, K.In base → base.Ns mainGlobals mg → FnG P w K mg base C k fa fd [x] sp) (bd : ∀ (s : Shared) (u : Value), BindsTo s fd ⟨[u], []⟩ [(x, u)]) (hsp : ∀ H : Hp, Only H → SqL K H a (ns.map V.int) → sp [.ref a] H (fun v _ => v = .bl true) fun _ _ _ => False)
    (hC : ∀ H e s', C [] H s₁ (fun _ _ _ => False) e s' → False) : codeAny (model P w) callerA (.call (.ref fa) ⟨[.ref a], []⟩) (fun r s' => r = .ok (.ret (.bool true)) ∧ OldK s₁.heap s'.heap ∧ s'.os = s₁.os ∧ AllBare s'.gens) s₁ := by
  have rv : Vals (ns.map V.int) vs := vals_ints hi
  let ob : Obj := { cls := .type "list", data := .seq vs.toArray }
  let H := topH K a ob ns
  have ln : (ns.map V.int).length ≤ sizeLine := by
    rw [List.length_map]
    exact hl
  have ok : HOk P w H s₁.heap := fun b u z => by
    obtain ⟨rfl, _, rfl⟩ := topH_some z
    exact ⟨ha, ln, vs, _, rv, ha⟩
  have sq : SqL K H a (ns.map V.int) := by
    cases hk : K.lookup a with
    | none => exact .inl (.inr ⟨ob, if_pos ⟨rfl, hk⟩⟩)
    | some o =>
      have z := KX a o hk
      rw [ha] at z
      cases z
      exact .inr ⟨_, vs.toArray, _, hk, rfl, rfl, rfl, by rw [List.size_toArray, ← rv.length]; exact ln, by simpa using rv⟩
  have hid : ∀ {b : Addr} {o : Obj}, s₁.heap.get? b = some o → H b = none → (hidT s₁.heap H).get? b = some o := fun z n => hidT_get z n
  have nsp : ∀ {b : Addr} {m : Str → Option Value}, s₁.heap.Ns b m → (hidT s₁.heap H).Ns b m := fun {b m} ⟨o, es, ep, z, d, r⟩ => ⟨o, es, ep, hid z (by
    cases q : H b with
    | none => rfl
    | some u =>
      obtain ⟨rfl, _, _⟩ := topH_some q
      rw [ha] at z
      cases z
      cases (show Data.seq vs.toArray _ = Data.dict es ep from d)), d, r⟩
  have kin : K.In (hidT s₁.heap H) := fun b o z => hid (KX b o z) (by
    cases q : H b with
    | none => rfl
    | some u =>
      obtain ⟨rfl, hk, _⟩ := topH_some q
      rw [hk] at z
      cases z)
  have e0 : Env0 P w K mg (hidT s₁.heap H) callerA [] s₁ H := {
    frames := rfl
    mod := ⟨kin, nsp gm, ⟨mb, nsp gb, bt⟩, nl.elim fun mc z => ⟨mc, nsp z.1, z.2⟩⟩
    bs := fun _ _ z => of_hidT z
    bsz := Nat.le_of_eq (hidT_size _ _)
    funs := trivial
    frf := fun b z => by cases z
    hok := ok
    bare := .of_eq gn }
  refine codeAny_mono ((F _ kin (nsp gm)).go callerA [] s₁ H ⟨[.ref a], []⟩ [.ref a] [.ref a] _ _ rfl rm e0 (bd s₁ (.ref a)) (.cons rfl .nil) (hsp H topH_only sq)) fun r s' z => ?_
  cases r with
  | error e => exact (hC H e s' z).elim
  | ok fl =>
    cases fl with
    | next => exact z.elim
    | brk => exact z.elim
    | cont => exact z.elim
    | ret u =>
      obtain ⟨v, H', os, bare, un, ok', rr, q⟩ := z
      cases (show v = .bl true from q)
      cases (show u = Value.bool true from rr)
      refine ⟨rfl, OldK.of_keep fun b o y => ?_, os, bare⟩
      cases q : H b with
      | none => exact un.keep b o y q (fun z => by cases z) (fun z => by cases z)
      | some u =>
        obtain ⟨rfl, _, rfl⟩ := topH_some q
        rw [ha] at y
        cases y
        exact (ok' b _ (un.frzs b _ _ q)).1
/-- what k_head leaves, from the law's promise -/
theorem walk_ofG {l : PySem.W.OpenLaw} {n k : Nat} {q : Program} {loose : List Str} {XP : (Str → Option Value) → Heap → Prop} {YP : World → Heap → Prop} {d : DefRec} {K : Params → PySem.W.Frag} {C : World → CXT} {sp : World → Sp} {x : Str} (hn : l.most = some n) (hs : n ≤ sizeLine) (hd : d.params.defaults = []) (rm : Room k callerA)
    (hY : ∀ (w : World) (h : Heap), YP w h → (K w.params).In h)
    (F : ∀ (w : World) (mg : Str → Option Value) (fa : Addr) (h : Heap), (K w.params).In h → h.Ns mainGlobals mg → mg d.name = some (.ref fa) → ∃ fd : FuncData, (∀ (s : Shared) (u : Value), BindsTo s fd ⟨[u], []⟩ [(x, u)]) ∧ ∀ base : Heap, (K w.params).In base → base.Ns mainGlobals mg → FnG l.prog w (K w.params) mg base (C w) k fa fd [x] (sp w))
    (hsp : ∀ (w : World) (H : Hp) (a : Addr) (ns : List Int), ns.length ≤ n → Only H → SqL (K w.params) H a (ns.map V.int) → sp w [.ref a] H (fun v _ => v = .bl true) fun _ _ _ => False) (hC : ∀ (w : World) (H : Hp) (s : Shared) (e : Value) (s' : Shared), C w [] H s (fun _ _ _ => False) e s' → False) :
    PySem.W.WalkO q loose XP YP l.row.toRowW d [] (fun f vs => PySem.call f vs) :=
  Att.attach_call hn hd fun w s₀ s₁ mg mb fa o pm cd doc a vs ns G Y ho hd hcd hmg hobj hints hlen hg => by
    obtain ⟨fd, bd, hF⟩ := F w mg fa _ (hY w _ Y) G.T.g hmg
    exact law_topG (hY w _ Y) G.T.g G.T.b G.T.builtins G.T.nolimit hg hobj hints (Nat.le_trans hlen hs) rm hF bd (fun H o s => hsp w H a ns hlen o s) fun H e s' => hC w H s₁ e s'
end Dn

set_option Elab.async false
set_option linter.all false
set_option maxRecDepth 100000
set_option maxHeartbeats 1000000
/-! repr, sorted and min of data -/
namespace Dn
open PySem PySem.Spec PyProof.Rows L2 Evl

/-! ### the signs of a shown text -/
def okS (x : Str) : Prop := ∀ c ∈ x.cps.toList, c < 0x110000
theorem okS_iff {x : Str} : PyData.strOk x = true ↔ okS x := by
  unfold PyData.strOk okS
  rw [← Array.all_toList, List.all_eq_true]
  simp
theorem okS_append {a b : Str} (ha : okS a) (hb : okS b) : okS (a ++ b) := fun c hc => by
  have e : (a ++ b).cps = a.cps ++ b.cps := rfl
  rw [e, Array.toList_append] at hc
  rcases List.mem_append.mp hc with h | h
  · exact ha c h
  · exact hb c h
theorem char_ok (d : Char) : d.toNat < 0x110000 := by
  rcases d.valid with h | h
  · exact Nat.lt_trans h (by decide)
  · exact h.2
theorem okS_ofString (x : String) : okS (Str.ofString x) := fun c hc => by
  rw [Str.ofString_eq_toList] at hc
  simp only [List.toList_toArray, List.mem_map] at hc
  obtain ⟨d, _, rfl⟩ := hc
  exact char_ok d
theorem okS_join {z : Str} (hz : okS z) : ∀ {ts : List Str}, (∀ t ∈ ts, okS t) → okS (Str.join z ts)
  | [], _ => fun c hc => by
    have e : (Str.join z []).cps = #[] := rfl
    rw [e] at hc
    cases hc
  | [x], h => h x List.mem_cons_self
  | x :: y :: r, h => okS_append (okS_append (h x List.mem_cons_self) hz) (okS_join hz fun t ht => h t (List.mem_cons_of_mem _ ht))
theorem okS_textFrom : ∀ (ts : List Str) (k : Nat) (acc : Str), okS acc → (∀ t ∈ ts, okS t) → okS (textFrom k acc ts)
  | [], k, acc, ha, _ => by
    rw [textFrom]
    exact ha
  | t :: ts, k, acc, ha, h => by
    rw [textFrom]
    refine okS_textFrom ts (k + 1) _ (okS_append (okS_append ha ?_) (h t List.mem_cons_self)) fun u hu => h u (List.mem_cons_of_mem _ hu)
    exact okS_ofString _
theorem repl_ok {n a c : Nat} (ha : a < 0x110000) (h : c ∈ List.replicate n a) : c < 0x110000 := by
  rw [List.mem_replicate] at h
  rw [h.2]
  exact ha
theorem reprChar_ok {q c d : Nat} (hc : c < 0x110000) (hd : d ∈ Builtin.Str.reprChar q c) : d < 0x110000 := by
  have hx : ∀ w, d ∈ (List.replicate (w - ((Nat.toDigits 16 c).map Char.toNat).length) 48 ++ (Nat.toDigits 16 c).map Char.toNat) → d < 0x110000 := fun w h => by
    rcases List.mem_append.mp h with h | h
    · exact repl_ok (by decide) h
    · obtain ⟨e, _, rfl⟩ := List.mem_map.mp h
      exact char_ok e
  have two : ∀ a b : Nat, a < 0x110000 → b < 0x110000 → d ∈ [a, b] → d < 0x110000 := fun a b ha hb h => by
    rcases List.mem_cons.mp h with rfl | h
    · exact ha
    · rcases List.mem_cons.mp h with rfl | h
      · exact hb
      · cases h
  unfold Builtin.Str.reprChar at hd
  simp only at hd
  split at hd
  · exact two _ _ (by decide) hc hd
  split at hd
  · exact two _ _ (by decide) (by decide) hd
  split at hd
  · exact two _ _ (by decide) (by decide) hd
  split at hd
  · exact two _ _ (by decide) (by decide) hd
  split at hd
  · rcases List.mem_cons.mp hd with rfl | h
    · exact hc
    · cases h
  split at hd
  · rcases List.mem_append.mp hd with h | h
    · exact two _ _ (by decide) (by decide) h
    · exact hx 2 h
  split at hd
  · rcases List.mem_append.mp hd with h | h
    · exact two _ _ (by decide) (by decide) h
    · exact hx 4 h
  · rcases List.mem_append.mp hd with h | h
    · exact two _ _ (by decide) (by decide) h
    · exact hx 8 h
theorem okS_fold {q : Nat} : ∀ {l : List Nat} {acc : Array Nat}, (∀ c ∈ l, c < 0x110000) → (∀ c ∈ acc.toList, c < 0x110000) → ∀ c ∈ (l.foldl (fun out c => out ++ (Builtin.Str.reprChar q c).toArray) acc).toList, c < 0x110000
  | [], _, _, ha => ha
  | d :: l, acc, h, ha => okS_fold (l := l) (fun c hc => h c (List.mem_cons_of_mem _ hc)) fun c hc => by
    rw [Array.toList_append] at hc
    rcases List.mem_append.mp hc with z | z
    · exact ha c z
    · exact reprChar_ok (h d List.mem_cons_self) (by simpa using z)
theorem okS_repr {x : Str} (h : okS x) : okS (reprText x) := fun c hc => by
  have hq : reprQuote x < 0x110000 := by
    unfold reprQuote
    split <;> decide
  unfold reprText at hc
  rw [Array.toList_push] at hc
  rcases List.mem_append.mp hc with z | z
  · rw [← Array.foldl_toList] at z
    exact okS_fold (l := x.cps.toList) (acc := #[reprQuote x]) h (fun c hc => by
      rcases List.mem_cons.mp hc with rfl | hc
      · exact hq
      · cases hc) c z
  · rcases List.mem_cons.mp z with rfl | z
    · exact hq
    · cases z
mutual
theorem okS_shown : ∀ {d : Dt}, d.canLay0 = true → okS d.shown
  | .none, _ => by
    rw [PyData.shown]
    exact okS_ofString _
  | .bool b, _ => by
    rw [PyData.shown]
    split <;> exact okS_ofString _
  | .int i, _ => by
    rw [PyData.shown]
    exact okS_ofString _
  | .str x, h => by
    rw [PyData.shown]
    rw [PyData.canLay0] at h
    exact okS_repr (okS_iff.mp h)
  | .list xs, h => by
    rw [PyData.shown]
    rw [PyData.canLay0] at h
    exact okS_append (okS_textFrom _ _ _ (okS_ofString _) (okS_all h)) (okS_ofString _)
  | .tuple xs, h => by
    rw [PyData.shown]
    rw [PyData.canLay0] at h
    exact okS_append (okS_append (okS_ofString _) (okS_join (okS_ofString _) (okS_all h))) (okS_ofString _)
  | .dict _, h => by simp [PyData.canLay0] at h
theorem okS_all : ∀ {ds : List Dt}, PyData.canLayAll0 ds = true → ∀ t ∈ PyData.shownAll ds, okS t
  | [], _, t, ht => by
    rw [PyData.shownAll] at ht
    cases ht
  | d :: ds, h, t, ht => by
    rw [PyData.canLayAll0, Bool.and_eq_true] at h
    rw [PyData.shownAll] at ht
    rcases List.mem_cons.mp ht with rfl | ht
    · exact okS_shown h.1
    · exact okS_all h.2 t ht
end
theorem shown_ok {d : Dt} (h : d.canLay0 = true) : okD (.str d.shown) = true := by
  show (PyData.canLay0 (.str d.shown) && decide ((PyData.str d.shown).depth ≤ 64)) = true
  rw [PyData.canLay0, PyData.depth, okS_iff.mpr (okS_shown h)]
  rfl

/-! ### repr -/
def reprOk (d : Dt) : Bool := d.layable0 && d.showable && d.intsShort 13
@[simp] def gRepr : List Dt → Option Dt
  | [.list ds] => if reprOk (.list ds) = true then some (.str (PyData.list ds).shown) else none
  | [.tuple ds] => if reprOk (.tuple ds) = true then some (.str (PyData.tuple ds).shown) else none
  | _ => none
section
variable {X : Cx} {m : Option Addr}
theorem repr_run {pins : List (Addr × Obj)} {σ : L2.St} {H : Hp} {s : Shared} {F : Hp} {k : Int} {v : V} {u : Value} {d : Dt} {Q : VK} (gd : X.A.guards = some []) (hu : X.A.units + 65 < cLine) (I : Inv X pins σ H s) (e : Ex F H) (c : Ctr m F H k) (r : Ro X.fr m F H v d) (rv : RelV v u) {a : Addr} (hu' : u = .ref a)
    (h : reprOk d = true) (q : ∀ v F' H', Grow m F H F' H' → Ctr m F' H' k → Rp X.fr m F' v (.str d.shown) → Q v H') : wpAny (model X.prog X.w) X.A (call (.builtin "repr") [u]) (EP X pins σ Q) X.xe s := by
  unfold reprOk at h
  rw [Bool.and_eq_true, Bool.and_eq_true] at h
  have hl : (PyData.canLay0 d && decide (PyData.depth d ≤ 64) && decide (PyData.weight d ≤ 2 ^ 20)) = true := h.1.1
  rw [Bool.and_eq_true, Bool.and_eq_true] at hl
  have hd := of_decide_eq_true hl.1.2
  obtain ⟨as, q1⟩ := Dp.reads I d v u ((r.whole e).dp hl.1.1) rv
  subst hu'
  refine repr_of_reads' q1 h.1.2 (PyData.noDict_hsm (PyData.hasDict_of_canLay d hl.1.1)) gd (by omega) (fun _ _ z => z) (fun h' t tk hk => ?_) (Nat.le_trans (PyData.shown_le_of_layable0 h.1.1 h.2) (by decide))
  exact ⟨.str d.shown, H, I.kept hk, ⟨_, rfl⟩, q _ F H (.refl e) c (.str _)⟩
theorem ok_repr (gd : X.A.guards = some []) (hu : X.A.units + 65 < cLine) : CallR X (.builtin "repr") (rcD X.fr m gRepr) := by
  intro pins s σ H xs us Q I r ⟨F, k, ds, d, e, c, rs, hg, q⟩
  unfold gRepr at hg
  split at hg
  · split at hg
    · rename_i h
      cases hg
      obtain ⟨v, rfl, rv⟩ := rs.one
      obtain ⟨u, rfl, ru⟩ := Vals.one r
      obtain ⟨a, ys, rfl, _, _⟩ := rv.lst e
      exact repr_run gd hu I e c rv ru (a := a) ru h q
    · cases hg
  · split at hg
    · rename_i h
      cases hg
      obtain ⟨v, rfl, rv⟩ := rs.one
      obtain ⟨u, rfl, ru⟩ := Vals.one r
      obtain ⟨a, ys, rfl, _, _⟩ := rv.tup
      exact repr_run gd hu I e c rv ru (a := a) ru h q
    · cases hg
  · cases hg
end
end Dn

set_option Elab.async false
set_option linter.all false
set_option maxRecDepth 100000
set_option maxHeartbeats 1000000
/-! sorted and min of data -/
namespace Dn
open PySem PySem.Spec PyProof.Rows L2 Evl

def isTup1 : Dt → Bool
  | .tuple (_ :: _) => true
  | _ => false
def isPlain : Dt → Bool
  | .none => false
  | .tuple _ => false
  | _ => true
/-- data that can be compared with one another -/
def alikeB (ds : List Dt) : Bool := ds.all fun d => ds.all fun e => PySem.W.alike d e
def sortOk (ds : List Dt) : Bool := alikeB ds && (ds.all isTup1 || ds.all isPlain) && ds.all (fun d => okD d) && decide (ds.length ≤ 1000000)
theorem alikeB_all {ds : List Dt} (h : alikeB ds = true) : PySem.W.AllAlike ds := fun d hd e he => List.all_eq_true.mp (List.all_eq_true.mp h d hd) e he
theorem sortable_of {ds : List Dt} (h : (ds.all isTup1 || ds.all isPlain) = true) : PySem.W.Sortable ds := by
  rcases (Bool.or_eq_true _ _).mp h with h | h
  · refine .inl fun d hd => ?_
    have z := List.all_eq_true.mp h d hd
    cases d with
    | tuple xs =>
      cases xs with
      | nil => cases z
      | cons x r => exact ⟨x, r, rfl⟩
    | _ => cases z
  · refine .inr fun d hd => ?_
    have z := List.all_eq_true.mp h d hd
    cases d <;> first | (cases z; done) | exact ⟨(nomatch ·), fun _ => (nomatch ·)⟩
section
variable {X : Cx} {m : Option Addr} {pins : List (Addr × Obj)} {σ : L2.St} {H F : Hp} {s : Shared}
/-- values that stand for data -/
def StandD (K : Fr) (m : Option Addr) (F : Hp) (h : Heap) (u : Value) (d : Dt) : Prop := ∃ x : V, RelV x u ∧ Rp K m F x d
theorem each_stand {K : Fr} {h : Heap} : ∀ {xs : List V} {us : List Value} {ds : List Dt}, Vals xs us → RpA K m F xs ds → PySem.W.EachIs (StandD K m F h) us ds
  | _, _, _, .nil, .nil => .nil
  | _, _, _, .cons r rs, .cons q qs => .cons ⟨_, r, q⟩ (each_stand rs qs)
theorem stand_each {K : Fr} {h : Heap} : ∀ {us : List Value} {ds : List Dt}, PySem.W.EachIs (StandD K m F h) us ds → ∃ xs, Vals xs us ∧ RpA K m F xs ds
  | _, _, .nil => ⟨[], .nil, .nil⟩
  | _, _, .cons ⟨x, r, q⟩ t => by
    obtain ⟨xs, rs, qs⟩ := stand_each t
    exact ⟨x :: xs, .cons r rs, .cons q qs⟩
theorem each_reads (I : Inv X pins σ H s) (e : Ex F H) : ∀ {xs : List V} {us : List Value} {ds : List Dt}, Vals xs us → RpA X.fr m F xs ds → (∀ d ∈ ds, okD d = true) → PySem.W.EachIs (fun v d => ∃ as, Reads s.heap v d as) us ds
  | _, _, _, .nil, .nil, _ => .nil
  | _, _, _, .cons r rs, .cons q qs, h => .cons (Dp.reads I _ _ _ ((q.mono e).dp (SeqAt.canLay_of_shaped (h _ List.mem_cons_self))) r) (each_reads I e rs qs fun d hd => h d (List.mem_cons_of_mem _ hd))
end
def leDt : Dt → Dt → Bool := PySem.W.dataLe false fun d => d
@[simp] def gSorted : List Dt → Option (List Dt)
  | [.list ds] => if sortOk ds = true then some (ds.mergeSort leDt) else none
  | _ => none
section
variable {X : Cx} {m : Option Addr}
theorem ok_sorted (hu : X.A.units + 67 < cLine) : CallR X (.builtin "sorted") (rclD X.fr m gSorted) := by
  intro pins s σ H xs us Q I r ⟨F, k, ds, es, e, c, rs, hg, q⟩
  unfold gSorted at hg
  split at hg
  · rename_i ds
    split at hg
    · rename_i h
      cases hg
      unfold sortOk at h
      rw [Bool.and_eq_true, Bool.and_eq_true, Bool.and_eq_true] at h
      obtain ⟨⟨⟨h1, h2⟩, h3⟩, h4⟩ := h
      have h3 := List.all_eq_true.mp h3
      have h4 := of_decide_eq_true h4
      obtain ⟨v, rfl, rv⟩ := rs.one
      obtain ⟨a, ys, rfl, hl, qa⟩ := rv.lst e
      obtain ⟨its, rvs, hli, hz⟩ := I.list hl
      rw [Vals.ref1 r]
      have el : (ds.mergeSort leDt).length = ds.length := List.length_mergeSort ds
      have id1 : ds.map (fun d => d) = ds := by simp
      refine PySem.W.sorted_data (enc := fun d => d) (bs := ds) hli.isList (each_stand (h := s.heap) rvs qa) (each_reads I e rvs qa h3) (by rw [id1]; exact alikeB_all h1) (by rw [id1]; exact sortable_of h2) (small_line h4) (fun d hd => ?_) fun out ho eo => ?_
      · have z := SeqAt.depth_of_shaped (h3 d hd)
        show X.A.units + 2 + d.depth < cLine
        omega
      · obtain ⟨zs, rz, qz⟩ := stand_each eo
        obtain ⟨ep, he⟩ := PyProof.Rows.sortedAll_at s.heap its out.toArray
        have hn := I.hok.fresh (a := s.heap.objs.size + 1) (Nat.le_succ _)
        have hlen : zs.length ≤ sizeLine := by
          rw [qz.length]
          exact Nat.le_trans (Nat.le_of_eq el) (small_line h4)
        exact ⟨.ref _, _, I.laid (t' := s.toks) (o := .lst zs) (fun _ _ => PyProof.Rows.sortedAll_old) (Nat.le_succ _) ⟨hlen, out, ep, rz, he⟩, rfl, q _ zs _ hn rfl qz⟩
    · cases hg
  · cases hg

/-! min -/
def minOk (ds : List Dt) : Bool := alikeB ds && ds.all (fun d => okD d) && ds.all fun d => match d with
  | .none => false
  | _ => true
theorem minOk_alike {ds : List Dt} (h : minOk ds = true) : PySem.W.AlikeAll ds ∧ ∀ d ∈ ds, okD d = true := by
  unfold minOk at h
  rw [Bool.and_eq_true, Bool.and_eq_true] at h
  refine ⟨⟨fun x hx y hy => alikeB_all h.1.1 x hx y hy, fun x hx z => ?_⟩, List.all_eq_true.mp h.1.2⟩
  have := List.all_eq_true.mp h.2 x hx
  rw [z] at this
  cases this
theorem depthAll_le {n : Nat} : ∀ {ds : List Dt}, (∀ d ∈ ds, d.depth ≤ n) → PyData.depthAll ds ≤ n
  | [], _ => by
    rw [PyData.depthAll]
    exact Nat.zero_le _
  | d :: ds, h => by
    rw [PyData.depthAll]
    exact Nat.max_le.mpr ⟨h d List.mem_cons_self, depthAll_le fun e he => h e (List.mem_cons_of_mem _ he)⟩
theorem each_all {h : Heap} {us : List Value} {ds : List Dt} (e : PySem.W.EachIs (fun v d => ∃ as, Reads h v d as) us ds) : ∃ as, ReadsAll h us ds as := by
  have z := PySem.W.each_readsAll (enc := fun d => d) (h := h) e
  simpa using z
@[simp] def noList : Dt → Bool
  | .list _ => false
  | _ => true
theorem Ro.shared {K : Fr} {m : Option Addr} {F H : Hp} {v : V} {d : Dt} (r : Ro K m F H v d) (h : noList d = true) : Rp K m F v d := by
  rcases r with r | ⟨p, vs, ds, _, _, _, _, _, rfl⟩
  · exact r
  · cases h
@[simp] def gMin : List Dt → Option Dt
  | [.list (x :: xs)] => if minOk (x :: xs) = true then some (PySem.W.minD x xs) else none
  | [.tuple (x :: xs)] => if minOk (x :: xs) = true then some (PySem.W.minD x xs) else none
  | [x, y] => if minOk [x, y] = true ∧ noList x = true ∧ noList y = true then some (PySem.W.minD x [y]) else none
  | _ => none
/-- the item that is told stands for the least datum -/
theorem min_item {pins : List (Addr × Obj)} {σ : L2.St} {H F : Hp} {s : Shared} {k : Int} {Q : VK} {zs : List V} {us : List Value} {ds : List Dt} {d : Dt} {i : Nat} {v : Value} {h' : Heap} {tk : Tok} {bs : List Addr} (I : Inv X pins σ H s) (e : Ex F H) (c : Ctr m F H k) (r : Vals zs us) (q : RpA X.fr m F zs ds)
    (hs : ∀ d ∈ ds, okD d = true) (hv : us[i]? = some v) (hr : Reads h' v d bs) (hk : ∀ b o, s.heap.get? b = some o → h'.get? b = some o) (hQ : ∀ v F' H', Grow m F H F' H' → Ctr m F' H' k → Rp X.fr m F' v d → Q v H') : EP X pins σ Q v { s with heap := h', toks := tk } := by
  have hi : i < us.length := (List.getElem?_eq_some_iff.mp hv).1
  rw [← r.length, q.length] at hi
  obtain ⟨w, hw, rw1⟩ := q.get (i := i) (d := ds[i]) (by rw [List.getElem?_eq_getElem hi])
  obtain ⟨u, hu, ru⟩ := r.get hw
  rw [hv] at hu
  cases hu
  obtain ⟨as, ra⟩ := Dp.reads I ds[i] w v ((rw1.mono e).dp (SeqAt.canLay_of_shaped (hs _ (List.getElem_mem hi)))) ru
  obtain ⟨ed, _⟩ := PyProof.Rows.reads_det (fun b o z _ => hk b o z) ra hr
  exact ⟨w, H, I.kept hk, ru, hQ w F H (.refl e) c (by rw [ed]; exact rw1)⟩
theorem min_twoH {prog : Program} {w : World} {A : Around} {E : Value → Shared → Prop} {s : Shared} {a b : Value} {x y : Dt} {as : List Addr} {Q : Value → Shared → Prop} (hh : A.handled = none) (hr : ReadsAll s.heap [a, b] [x, y] as) (ha : PySem.W.AlikeAll [x, y]) (hu : A.units + 1 + PyData.depthAll [x, y] < cLine)
    (h : ∀ (i : Nat) v h' tk bs, ([a, b] : List Value)[i]? = some v → Reads h' v (PySem.W.minD x [y]) bs → (∀ b o, s.heap.get? b = some o → h'.get? b = some o) → Q v { s with heap := h', toks := tk }) : wpAny (model prog w) A (call (.builtin "min") [a, b]) Q E s := by
  refine call_function_tree F.kind_min F.plain_min F.entry_min (F.args_min2 _ _) (show wpAny _ A.in1 (Builtin.Builtins.bindParams "min" ["key", "default"] 0 ⟨[], []⟩ >>= _) _ _ s from wpAny_bind (wpAny_of_eq (show Builtin.Builtins.bindParams "min" ["key", "default"] 0 ⟨[], []⟩ = pure [none, none] from rfl) ?_))
  let s1 : Shared := { s with heap := s.heap.push { cls := .type "tuple", data := .seq #[a, b] } }
  have k1 : ∀ b o, s.heap.get? b = some o → s1.heap.get? b = some o := fun _ _ z => Heap.get?_push_of_some _ z
  have ht : s1.heap.IsTuple s.heap.objs.size #[a, b] := ⟨_, Heap.get?_push_size _ rfl, rfl, _, rfl⟩
  have hr1 : ReadsAll s1.heap (#[a, b] : Array Value).toList [x, y] as := PyProof.Rows.ReadsAll.keeps k1 hr
  have hn : (toString "min" ++ toString ".loop" : String) = "min.loop" := by decide
  refine (show wpAny _ A.in1 (newTuple [a, b] >>= _) _ _ s from wpAny_bind (wpAny_newObj_type (wpAny_bind (PySem.W.iter_tupleW (A := A.in1) (s := s1) hh ht fun s₂ e W st hfp hw hk => ?_))))
  refine wpAny_bind (wpAny_newObj_type ?_)
  rw [hn]
  refine wpAny_pure ⟨plainId_quiet F.plain_min_loop _, codeAny_min_loop_firstH W s1.heap hw (fun i j => PySem.W.dataLt (([x, y] : List Dt).getD i .none) (([x, y] : List Dt).getD j .none)) (PySem.W.cmpIn_lt (A := A.in1) hr1 ha hu) s₂.heap.objs.size (fun z => Nat.lt_irrefl _ (hfp _ z)) (fresh_in hk) _ (Nat.zero_lt_succ 1) (fun b o z => Heap.get?_push_of_some _ (hk b o z))
    (W.frame 0 s₂ _ s₂.toks st (Nat.le_refl _) fun b _ o z => Heap.get?_push_of_some _ z) (Heap.get?_push_size _ rfl) fun v s' hP mv => ?_⟩
  obtain ⟨h', tk, rfl, hk'⟩ := PySem.W.moved_old e rfl (Moved.drop_new (tk := s₂.toks) mv (Nat.le_refl _))
  obtain ⟨bs, rr, _, _, _⟩ := PySem.W.readsAll_atA hr1 _ v hP
  have e2 := (PySem.W.argBest_fold PySem.W.dataLt PyData.none x [y] 1 (Nat.le_refl _)).2
  refine h _ v h' tk bs (by simpa using hP) ?_ fun b o z => hk' b o (k1 b o z)
  have rr' := PyProof.Rows.Reads.keeps hk' rr
  have e3 : ([x, y] : List Dt).getD (argBest (fun i j => PySem.W.dataLt (([x, y] : List Dt).getD i .none) (([x, y] : List Dt).getD j .none)) 1) PyData.none = PySem.W.minD x [y] := e2
  rw [← e3]
  exact rr'
theorem ok_min (hh : X.A.handled = none) (hu : X.A.units + 66 < cLine) : CallR X (.builtin "min") (rcD X.fr m gMin) := by
  intro pins s σ H xs us Q I r ⟨F, k, ds, d, e, c, rs, hg, q⟩
  unfold gMin at hg
  split at hg
  · rename_i x zs
    split at hg
    · rename_i h
      cases hg
      obtain ⟨h1, h2⟩ := minOk_alike h
      obtain ⟨v, rfl, rv⟩ := rs.one
      obtain ⟨a, ys, rfl, hl, qa⟩ := rv.lst e
      obtain ⟨its, rvs, hli, hz⟩ := I.list hl
      rw [Vals.ref1 r]
      obtain ⟨as, ra⟩ := each_all (each_reads I e rvs qa h2)
      have hd := depthAll_le (n := 64) fun d hd => SeqAt.depth_of_shaped (h2 d hd)
      refine PySem.W.min_list_data hh hli.isList (by simpa using ra) h1 (by omega) fun i v h' tk bs hv hr hk => ?_
      exact min_item I e c rvs qa h2 (by simpa using hv) hr hk q
    · cases hg
  · rename_i x zs
    split at hg
    · rename_i h
      cases hg
      obtain ⟨h1, h2⟩ := minOk_alike h
      obtain ⟨v, rfl, rv⟩ := rs.one
      obtain ⟨a, ys, rfl, hl, qa⟩ := rv.tup
      obtain ⟨its, rvs, hli, hz⟩ := I.tuple (ex_t e hl.sq)
      rw [Vals.ref1 r]
      obtain ⟨as, ra⟩ := each_all (each_reads I e rvs qa h2)
      have hd := depthAll_le (n := 64) fun d hd => SeqAt.depth_of_shaped (h2 d hd)
      refine PySem.W.min_tuple_data hh hli (by simpa using ra) h1 (by omega) fun i v h' tk bs hv hr hk => ?_
      exact min_item I e c rvs qa h2 (by simpa using hv) hr hk q
    · cases hg
  · rename_i x y
    split at hg
    · rename_i h
      cases hg
      obtain ⟨h1, h2⟩ := minOk_alike h.1
      obtain ⟨v, v', rfl, rv, rv'⟩ := rs.two
      have qa : RpA X.fr m F [v, v'] [x, y] := .cons (rv.shared h.2.1) (.cons (rv'.shared h.2.2) .nil)
      obtain ⟨as, ra⟩ := each_all (each_reads I e r qa h2)
      have hd := depthAll_le (n := 64) fun d hd => SeqAt.depth_of_shaped (h2 d hd)
      obtain ⟨u, u', rfl, ru, ru'⟩ := Vals.two r
      exact min_twoH hh ra h1 (by omega) fun i v h' tk bs hv hr hk => min_item I e c r qa h2 hv hr hk q
    · cases hg
  · cases hg
end
end Dn

set_option Elab.async false
set_option linter.all false
set_option maxRecDepth 100000
set_option maxHeartbeats 1000000
/-! sets of keys held alone; what never comes; lists unpacked; insert; stars -/
namespace Dn
open PySem PySem.Spec PyProof.Rows L2 Evl

section
variable {X : Cx} {m : Option Addr} {F0 H0 : Hp} {W : WE} {a b c e tg it : Expr} {es : List Expr} {pos : Pos} {st : Stmt} {sts : List Stmt}
/-! what never comes -/
@[simp] def sBad : DS := fun _ _ => none
theorem s_bad : PS X st (tS X.fr m F0 H0 W sBad) := ⟨fun pins s σ H D I ⟨F, ρ, k, out, R, hf, q⟩ => nomatch hf⟩

/-! sets -/
def memD (d : Dt) (ks : List Dt) : Bool := ks.any fun z => PyData.eqv z d
def addD (d : Dt) (ks : List Dt) : List Dt := if memD d ks = true then ks else ks ++ [d]
theorem keyD_eqv (j k : Key) : PyData.eqv (keyD j) (keyD k) = true ↔ j = k := by
  rcases j with i | x <;> rcases k with i' | x' <;> simp [keyD, PyData.eqv]
theorem memD_iff {k : Key} {kk : List Key} : memD (keyD k) (kk.map keyD) = true ↔ k ∈ kk := by
  unfold memD
  rw [List.any_eq_true]
  constructor
  · rintro ⟨z, hz, e⟩
    obtain ⟨j, hj, rfl⟩ := List.mem_map.mp hz
    rw [← (keyD_eqv j k).mp e]
    exact hj
  · intro h
    exact ⟨_, List.mem_map.mpr ⟨k, h, rfl⟩, (keyD_eqv k k).mpr rfl⟩
@[simp] def sNewS (i : Nat) : DS := fun ρ k => some (.next (ρ.set i (.os [])) k)
theorem s_newS (i : Nat) {x : Str} {pos' p pos2 : Pos} (hN : X.N.Nodup) (hm : X.mg "set" = none) (hb : bootBuiltins "set" = some (.type "set")) (hi : X.N[i]? = some x := by rfl) (hx : Loc X.env.scope x := by first | exact .inl rfl | exact .inr rfl) (hg : Gl X "set" := by rfl)
    (hs : swapsWith (.Call (.Name "set" p) [] [] pos2) (some (.Name x pos')) pos.line X.env = pure false := by rfl) (hf : X.fn x = true ∨ X.env.scope.names.lookup x = some .local := by first | exact .inl rfl | exact .inr rfl | assumption) :
    PS X (.Assign [.Name x pos'] (.Call (.Name "set" p) [] [] pos2) pos) (tS X.fr m F0 H0 W (sNewS i)) := impPS (ps_set hN hi hx (pe_callTy0 cr_set0K hg hm hb) hs hf) fun D σ H ⟨F, ρ, k, out, R, hf, q⟩ => by
  cases hf
  refine ⟨rfl, fun p hp => ?_⟩
  have g : Grow m F H F (upd H p (SetK X.prog X.w p (fun _ => false) 0)) := Grow.laid R.rl.sub hp
  have c := R.rl.ctr.laid (o := SetK X.prog X.w p (fun _ => false) 0) hp
  refine q _ F _ (Ex.refl F) ⟨(R.rl.grow g c).set_ow rfl (ex_none R.rl.sub hp) (R.rl.ctr.ne hp) upd_same ⟨fun _ => false, [], rfl, List.nodup_nil, rfl, fun j => by simp⟩ fun j hj => hj.known R.rl hp, R.gr.trans R.rl.ctr g, fun j q' h => ?_⟩
  rcases own_set_ow h with ⟨_, e⟩ | ⟨_, h⟩
  · cases e
    exact R.fresh hp
  · exact R.own j q' h
@[simp] def sAddS (i : Nat) (f : DE) : DS := fun ρ k => (f ρ k).bind fun p => match ρ[i]? with
  | some (.os ks) => (asK p.1).bind fun _ => if ks.length ≤ 4000 then some (.next (ρ.set i (.os (addD p.1 ks))) p.2) else none
  | _ => none
theorem s_addS (i : Nat) {x : Str} {px pa pos2 : Pos} {f : DE} (he : PE X e (tE X.fr m f)) (hN : X.N[i]? = some x := by rfl) (hv : Vis X.env.scope x := by first | exact Or.inl rfl | exact Or.inr (Or.inl rfl) | exact Or.inr (Or.inr rfl)) (hd : (x == ("__debug__" : Str)) = false := by decide) (hcd : (x == ("__classdict__" : Str)) = false := by decide)
    (hbase : attributeBase (.Name x px) "add" X.env (eval (.Name x px) X.env) = eval (.Name x px) X.env := by rfl)
    (hfew : ((backTo pos2 (starEach (e :: []) X.env)).all (fun x => !x.1) && (backToKw pos2 (keywordEach [] X.env)).all (fun x => x.1.isSome)
      && decide ((e :: []).length + ([] : List Keyword).length + (if ([] : List Keyword).isEmpty then 0 else 1) < 30)) = true := by rfl)
    (hline : (pa.endLine == pos2.line) = true := by rfl) (hst : starEach (e :: []) X.env = (false, eval e X.env) :: starEach [] X.env := by rfl) (hpl : (backTo pos2 (starEach [] X.env)).any (·.1) = false := by rfl)
    (hs : swapsWith (.Call (.Attribute (.Name x px) "add" pa) [e] [] pos2) none pos.line X.env = pure false := by rfl) :
    PS X (.Expr (.Call (.Attribute (.Name x px) "add" pa) [e] [] pos2) pos) (tS X.fr m F0 H0 W (sAddS i f)) :=
  impPS (ps_expr (pe_saddK (pe_var (i := i) hN hv hd hcd) (p_cons he p_nil hst) hbase hfew hline hst hpl) hs) fun D σ H ⟨F, ρ, k, out, R, hf, q⟩ => by
    unfold sAddS at hf
    obtain ⟨⟨d, k1⟩, h1, hf⟩ := Option.bind_eq_some_iff.mp hf
    cases hc : ρ[i]? with
    | none =>
      rw [hc] at hf
      cases hf
    | some cl =>
      rw [hc] at hf
      cases cl with
      | os ks =>
        obtain ⟨kk, h2, hf⟩ := Option.bind_eq_some_iff.mp hf
        replace hf : (if ks.length ≤ 4000 then some (Out.next (ρ.set i (.os (addD d ks))) k1) else none) = some out := hf
        split at hf
        · rename_i hlen
          cases hf
          have ex := asK_eq h2
          simp only at ex
          subst ex
          obtain ⟨p, o, h3, hF, hmp, hH, S, kl, rfl, nd, rfl, hS⟩ := R.rl.ow i _ hc rfl
          refine ⟨_, h3, ⟨p, S, _, rfl, hH⟩, F, ρ, k, [keyD kk], k1, R.rl, by rw [aCons, h1]; rfl, fun vs F' H' g c ra => ?_⟩
          cases ra with
          | cons rk rn =>
            cases rn
            cases rk.key
            have hH' := g.hh p _ hmp hH
            have e1 : SetK X.prog X.w p (fun j => S j || decide (j = kk)) (if S kk = true then kl.length else kl.length + 1) = SetK X.fr.P X.fr.w p (fun j => S j || decide (j = kk)) (if S kk = true then kl.length else kl.length + 1) := rfl
            refine ⟨p, kk, S, _, rfl, rfl, hH', by rw [List.length_map] at hlen; exact Nat.lt_of_le_of_lt (Nat.succ_le_succ hlen) (by decide), ?_⟩
            refine q σ F' _ g.ff ((R.grow g c).mut hc rfl h3 rfl ?_)
            have hmem : memD (keyD kk) (kl.map keyD) = true ↔ S kk = true := memD_iff.trans (hS kk).symm
            unfold addD
            by_cases hk : S kk = true
            · rw [if_pos (hmem.mpr hk), if_pos hk]
              refine ⟨_, kl, rfl, nd, rfl, fun j => ?_⟩
              rw [Bool.or_eq_true, hS j, decide_eq_true_eq]
              exact ⟨fun z => z.elim id fun z => by rw [z]; exact (hS kk).mp hk, .inl⟩
            · rw [if_neg fun z => hk (hmem.mp z), if_neg hk]
              refine ⟨_, kl ++ [kk], by simp, ?_, by rw [List.length_append]; rfl, fun j => ?_⟩
              · rw [List.nodup_append]
                exact ⟨nd, by simp, fun z hz w hw => by
                  rw [List.mem_singleton] at hw
                  rintro rfl
                  exact hk ((hS _).mpr (hw ▸ hz))⟩
              · rw [Bool.or_eq_true, hS j, decide_eq_true_eq, List.mem_append, List.mem_singleton]
        · cases hf
      | _ => cases hf
/-- name in seen -/
@[simp] def dInS (neg : Bool) (i : Nat) (f : DE) : DE := fun ρ k => (f ρ k).bind fun p => match ρ[i]? with
  | some (.os ks) => (asK p.1).bind fun _ => some (.bool (if neg = true then !memD p.1 ks else memD p.1 ks), p.2)
  | _ => none
theorem inS_in {neg : Bool} {i : Nat} {f : DE} {σ : L2.St} {H : Hp} {Q : VK} (w : tE X.fr m (dInS neg i f) σ H Q) : tOp (rSInK X.prog X.w neg) (tE X.fr m f) (tVar i) σ H Q := by
  obtain ⟨F, ρ, k, d, k', R, hf, q⟩ := w
  unfold dInS at hf
  obtain ⟨⟨x, k1⟩, h1, hf⟩ := Option.bind_eq_some_iff.mp hf
  cases hc : ρ[i]? with
  | none =>
    rw [hc] at hf
    cases hf
  | some cl =>
    rw [hc] at hf
    cases cl with
    | os ks =>
      obtain ⟨kk, h2, hf⟩ := Option.bind_eq_some_iff.mp hf
      cases hf
      have ex := asK_eq h2
      simp only at ex
      subst ex
      obtain ⟨p, o, h3, hF, hmp, hH, S, kl, rfl, nd, rfl, hS⟩ := R.ow i _ hc rfl
      refine ⟨F, ρ, k, _, k1, R, h1, fun v F' H' g c r => ⟨_, h3, ?_⟩⟩
      cases r.key
      have eb : memD (keyD kk) (kl.map keyD) = S kk := Bool.eq_iff_iff.mpr (memD_iff.trans (hS kk).symm)
      simp only [eb] at q
      exact ⟨kk, p, S, _, rfl, rfl, g.hh p _ hmp hH, q _ F' H' g c (.bl _)⟩
    | _ => cases hf
theorem e_inS (i : Nat) {x : Str} {px : Pos} {f : DE} (ha : PE X a (tE X.fr m f)) (hN : X.N[i]? = some x := by rfl) (hv : Vis X.env.scope x := by first | exact Or.inl rfl | exact Or.inr (Or.inl rfl) | exact Or.inr (Or.inr rfl)) (hd : (x == ("__debug__" : Str)) = false := by decide) (hcd : (x == ("__classdict__" : Str)) = false := by decide) :
    PE X (.Compare a [.In] [.Name x px] pos) (tE X.fr m (dInS false i f)) := impPE (pe_cmpR or_sinK ha (pe_var (i := i) hN hv hd hcd) rfl) fun _ _ _ w => inS_in w
theorem t_inS (i : Nat) {x : Str} {px : Pos} {f : DE} (ha : PE X a (tE X.fr m f)) (hN : X.N[i]? = some x := by rfl) (hv : Vis X.env.scope x := by first | exact Or.inl rfl | exact Or.inr (Or.inl rfl) | exact Or.inr (Or.inr rfl)) (hd : (x == ("__debug__" : Str)) = false := by decide) (hcd : (x == ("__classdict__" : Str)) = false := by decide) :
    PT X (.Compare a [.In] [.Name x px] pos) (tT X.fr m (tV (dInS false i f))) := impPT (pt_cmpR or_sinK ha (pe_var (i := i) hN hv hd hcd) rfl) fun σ H Q ⟨F, ρ, k, b, k', R, hf, q⟩ => by
  unfold tV at hf
  obtain ⟨⟨w, k0⟩, h0, hf⟩ := Option.bind_eq_some_iff.mp hf
  obtain ⟨b, hb, hf⟩ := Option.bind_eq_some_iff.mp hf
  cases hf
  cases asB_some hb
  exact inS_in (Q := fun x H' => ∃ k, x = .bl k ∧ Q k H') ⟨F, ρ, k, _, k0, R, h0, fun v F' H' g' c' r => by
    cases r
    exact ⟨_, rfl, q F' H' g' c'⟩⟩
/-- len(seen) -/
@[simp] def dLenS (i : Nat) : DE := fun ρ k => match ρ[i]? with
  | some (.os ks) => some (.int ks.length, k)
  | _ => none
theorem call_lenS : CallR X (.builtin "len") (fun xs H Q => ∃ (a : Addr) (S : Key → Bool) (n : Nat), xs = [.ref a] ∧ H a = some (SetK X.prog X.w a S n) ∧ Q (.int n) H) := by
  intro pins s σ H xs us Q I r ⟨a, S, n, ex, ha, q⟩
  subst ex
  rw [Vals.ref1 r]
  obtain ⟨o, es, ep, t, ho, hx, hd, _, _, hb, hf, rfl⟩ := setK_get I ha
  have z : es.size < 4096 := hb
  exact call_len_set ho hx hd hf (by omega) ⟨.int es.size, H, I.tok _, ⟨_, rfl⟩, q⟩
theorem e_lenS (i : Nat) {x : Str} {p px : Pos} (hm : X.mg "len" = none) (hb : bootBuiltins "len" = some (.builtin "len")) (hN : X.N[i]? = some x := by rfl) (hv : Vis X.env.scope x := by first | exact Or.inl rfl | exact Or.inr (Or.inl rfl) | exact Or.inr (Or.inr rfl)) (hd : (x == ("__debug__" : Str)) = false := by decide) (hcd : (x == ("__classdict__" : Str)) = false := by decide)
    (hg : Gl X "len" := by rfl) (hs : starEach [.Name x px] X.env = (false, eval (.Name x px) X.env) :: starEach [] X.env := by rfl) (hpl : (backTo pos (starEach [] X.env)).any (·.1) = false := by rfl) :
    PE X (.Call (.Name "len" p) [.Name x px] [] pos) (tE X.fr m (dLenS i)) := impPE (pe_callB call_lenS hg hm hb (pa_cons (pe_var (i := i) hN hv hd hcd) pa_nil hs) (by decide) (by decide) hs hpl) fun σ H Q ⟨F, ρ, k, d, k', R, hf, q⟩ => by
  unfold dLenS at hf
  split at hf
  · rename_i ks hc
    cases hf
    obtain ⟨p, o, h3, hF, hmp, hH, S, kl, rfl, nd, rfl, hS⟩ := R.ow i _ hc rfl
    refine ⟨_, h3, p, S, _, rfl, hH, ?_⟩
    have z := q (.int (kl.map keyD).length) F H (.refl R.sub) R.ctr (.int _)
    rw [List.length_map] at z
    exact z
  · cases hf
end
end Dn

set_option Elab.async false
set_option linter.all false
set_option maxRecDepth 100000
set_option maxHeartbeats 1000000
/-! lists unpacked; insert; stars -/
namespace Dn
open PySem PySem.Spec PyProof.Rows L2 Evl

@[simp] def gLstG (n : Nat) (gs : DGs) : DG := fun ρ d => match d with
  | .list ds => if ds.length = n then gs ρ ds else none
  | _ => none
section
variable {X : Cx} {m : Option Addr} {F0 H0 : Hp} {W : WE} {a b c e tg it : Expr} {es : List Expr} {pos : Pos} {st : Stmt} {sts : List Stmt}
theorem g_lst {k n : Nat} {t : List Nat} {gs : DGs} (hc : X.calm = true) (h : PGs X es (tGs X.fr m t gs)) (hn : (assignEach es X.env).length = n := by rfl) (hst : (assignEach es X.env).findIdx? (·.1) = none := by rfl) : PG X (.Tuple es k pos) (tGd X.fr m t (gLstG n gs)) :=
  impPG (pg_unl (n := n) hc h hn hst) fun v σ H Q ⟨F, ρ, k, d, ρ', R, r, hg, q⟩ => by
    unfold gLstG at hg
    cases d with
    | list ds =>
      simp only at hg
      split at hg
      · rename_i hl
        cases r with
        | lst ht r => exact ⟨_, _, rfl, ex_l R.sub ht, by rw [r.length]; exact hl, F, ρ, k, ds, ρ', R, r, hg, q⟩
      · cases hg
    | _ => cases hg
@[simp] def gInsert : List Dt → List Dt → Option (List Dt)
  | ds, [.int i, d] => if ds.length < 1000000 ∧ 0 ≤ i ∧ i ≤ 1000000 then some (ds.take i.toNat ++ [d] ++ ds.drop i.toNat) else none
  | _, _ => none
theorem s_insert (i : Nat) {x : Str} {px pa pos2 : Pos} {f g : DE} (ha : PE X a (tE X.fr m f)) (he : PE X e (tE X.fr m g)) (hN : X.N[i]? = some x := by rfl) (hv : Vis X.env.scope x := by first | exact Or.inl rfl | exact Or.inr (Or.inl rfl) | exact Or.inr (Or.inr rfl)) (hd : (x == ("__debug__" : Str)) = false := by decide) (hcd : (x == ("__classdict__" : Str)) = false := by decide)
    (hbase : attributeBase (.Name x px) "insert" X.env (eval (.Name x px) X.env) = eval (.Name x px) X.env := by rfl)
    (hfew : ((backTo pos2 (starEach (a :: [e]) X.env)).all (fun x => !x.1) && (backToKw pos2 (keywordEach [] X.env)).all (fun x => x.1.isSome)
      && decide ((a :: [e]).length + ([] : List Keyword).length + (if ([] : List Keyword).isEmpty then 0 else 1) < 30)) = true := by rfl)
    (hline : (pa.endLine == pos2.line) = true := by rfl) (hst : starEach (a :: [e]) X.env = (false, eval a X.env) :: starEach [e] X.env := by rfl) (hst2 : starEach [e] X.env = (false, eval e X.env) :: starEach [] X.env := by rfl) (hpl : (backTo pos2 (starEach [e] X.env)).any (·.1) = false := by rfl)
    (hs : swapsWith (.Call (.Attribute (.Name x px) "insert" pa) [a, e] [] pos2) none pos.line X.env = pure false := by rfl) :
    PS X (.Expr (.Call (.Attribute (.Name x px) "insert" pa) [a, e] [] pos2) pos) (tS X.fr m F0 H0 W (sMut i gInsert (aCons f (aCons g aNil)))) :=
  s_mut i PySem.F.plainAttrs_list PySem.F.slot_list_insert PySem.F.type_list_insert mt_insert (fun F l xs ds es args vs H Q r ra h hH q => by
    unfold gInsert at h
    split at h
    · split at h
      · rename_i hb
        cases h
        cases ra with
        | cons r1 rn =>
          cases rn with
          | cons r2 rn =>
            cases rn
            cases r1
            exact ⟨l, xs, _, _, rfl, rfl, hH, by rw [r.length]; exact Nat.lt_of_lt_of_le hb.1 (small_line (Nat.le_refl _)), hb.2.1, by omega, q _ (((r.take _).append (.cons r2 .nil)).append (r.drop _))⟩
      · cases h
    · cases h) (p_cons ha (p_cons he p_nil hst2) hst) hN hv hd hcd hbase hfew hline hst hpl hs
/-! a star in a display -/
@[simp] def gSeqD : Dt → Option (List Dt)
  | .list ds => some ds
  | .tuple ds => some ds
  | _ => none
@[simp] def aStar (f : DE) (g : DL) : DL := fun ρ k => (f ρ k).bind fun p => (gSeqD p.1).bind fun xs => (g ρ p.2).bind fun q => some (xs ++ q.1, q.2)
theorem p_star {p : Pos} {f : DE} {g : DL} (h : PE X e (tE X.fr m f)) (h2 : PA X es (tAr X.fr m g)) (hs : starEach (.Starred e p :: es) X.env = (true, eval e X.env) :: starEach es X.env := by rfl) : PA X (.Starred e p :: es) (tAr X.fr m (aStar f g)) :=
  impPA (StX.pa_star h h2 hs) fun σ H Q ⟨F, ρ, k, ds, k', R, hf, q⟩ => by
    unfold aStar at hf
    obtain ⟨⟨x, k1⟩, h1, hf⟩ := Option.bind_eq_some_iff.mp hf
    obtain ⟨xs, h3, hf⟩ := Option.bind_eq_some_iff.mp hf
    obtain ⟨⟨y, k2⟩, h2, hf⟩ := Option.bind_eq_some_iff.mp hf
    cases hf
    refine ⟨F, ρ, k, x, k1, R, h1, fun v1 F1 H1 g1 c1 r1 => ?_⟩
    have fin : ∀ {ws : List V} {Q2 : List V → Hp → Prop}, RpA X.fr m F1 ws xs → (∀ us F' H', Grow m F H F' H' → Ctr m F' H' k2 → RpA X.fr m F' us (xs ++ y) → Q2 us H') → tAr X.fr m g σ H1 fun ys H2 => Q2 (ws ++ ys) H2 := fun {ws Q2} rw1 q2 =>
      ⟨F1, ρ, k1, y, k2, R.grow g1 c1, h2, fun v2 F2 H2 g2 c2 r2 => q2 _ F2 H2 (g1.trans c1 g2) c2 ((rw1.mono g2.ff).append r2)⟩
    cases x with
    | list ys =>
      cases h3
      cases r1 with
      | lst hl r => exact ⟨_, _, rfl, .inr (ex_l g1.fh hl), fin r q⟩
    | tuple ys =>
      cases h3
      cases r1 with
      | tup hl r => exact ⟨_, _, rfl, .inl (ex_t g1.fh hl.sq), fin r q⟩
    | _ => cases h3
end
end Dn

set_option Elab.async false
set_option linter.all false
set_option maxRecDepth 100000
set_option maxHeartbeats 1000000
/-! [::step] of lists and tuples, step 1 or -1 -/
namespace Dn
open PySem PySem.Spec PyProof.Rows L2 Evl

section
variable {prog : Program} {w : World} {A : Around} {E : Value → Shared → Prop} {s : Shared}
theorem parts_step {sl : Addr} {vs : Value} {k : Int} {n : Nat} {Q : Int × Int × Nat → Shared → Prop} (hs : s.heap.IsSliceOf sl .none .none vs) (ps : IsPart vs (some k)) (hk : k = 1 ∨ k = -1)
    (h : Q ((if k = 1 then 0 else (n : Int) - 1), k, n) s) : wpAny (model prog w) A (Builtin.Slice.sliceApplied (.ref sl) (pure (n : Int))) Q E s := by
  obtain ⟨os, hos, hcs, hds⟩ := id hs
  unfold Builtin.Slice.sliceApplied Builtin.Slice.sliceFields
  refine wpAny_bind (wpAny_bind (wpAny_field hos hds (x := .none) rfl (wpAny_bind (wpAny_field hos hds (x := .none) rfl (wpAny_bind (wpAny_field hos hds (x := vs) rfl (wpAny_pure ?_)))))))
  refine wpAny_bind (HT.slicePart_ ps ?_)
  have h0 : ((k : Int) == 0) = false := by
    rcases hk with rfl | rfl <;> decide
  show wpAny _ _ (if (k == 0) = true then _ else _) _ _ s
  rw [h0, if_neg Bool.false_ne_true]
  refine wpAny_bind (HT.slicePart_ .none (wpAny_bind (HT.slicePart_ .none (wpAny_bind (wpAny_pure ?_)))))
  show wpAny _ _ (match Builtin.Slice.sliceAdjust none none k (n : Int) with | (lo, hi) => pure (lo, k, Builtin.Slice.slicePlaces lo hi k)) _ _ s
  have e : ((Builtin.Slice.sliceAdjust none none k (n : Int)).1, k, Builtin.Slice.slicePlaces (Builtin.Slice.sliceAdjust none none k (n : Int)).1 (Builtin.Slice.sliceAdjust none none k (n : Int)).2 k) = ((if k = 1 then 0 else (n : Int) - 1), k, n) := by
    rcases hk with rfl | rfl
    · simp only [Builtin.Slice.sliceAdjust, Builtin.Slice.slicePlaces]
      by_cases hn : 0 < n
      · simp; omega
      · have : n = 0 := by omega
        subst this
        simp
    · simp only [Builtin.Slice.sliceAdjust, Builtin.Slice.slicePlaces]
      by_cases hn : 0 < n
      · simp; omega
      · have : n = 0 := by omega
        subst this
        simp
  exact wpAny_pure (by
    show Q ((Builtin.Slice.sliceAdjust none none k (n : Int)).1, k, Builtin.Slice.slicePlaces (Builtin.Slice.sliceAdjust none none k (n : Int)).1 (Builtin.Slice.sliceAdjust none none k (n : Int)).2 k) s
    rw [e]
    exact h)
theorem pick_back (xs : Array Value) : ((List.range xs.size).filterMap fun (m : Nat) => xs[(((xs.size : Int) - 1) + (m : Int) * (-1)).toNat]?) = xs.toList.reverse := by
  have go : ∀ k, k ≤ xs.size → ((List.range k).filterMap fun (m : Nat) => xs[(((xs.size : Int) - 1) + (m : Int) * (-1)).toNat]?) = xs.toList.reverse.take k := by
    intro k
    induction k with
    | zero => intro _; simp
    | succ k ih =>
      intro hk
      have e : (((xs.size : Int) - 1) + (k : Int) * (-1)).toNat = xs.size - 1 - k := by omega
      have e2 : xs.toList.reverse[k]? = xs[xs.size - 1 - k]? := by
        rw [List.getElem?_reverse (by rw [Array.length_toList]; omega), Array.length_toList, Array.getElem?_toList]
      have e3 : xs[xs.size - 1 - k]? = some xs[xs.size - 1 - k] := Array.getElem?_eq_getElem (by omega)
      rw [List.range_succ, List.filterMap_append, ih (by omega), List.take_add_one, e2]
      simp only [List.filterMap_cons, e, e3, List.filterMap_nil, Option.toList]
  rw [go _ (Nat.le_refl _), List.take_of_length_le (by simp)]
theorem tuple_step {t sl : Addr} {items : Array Value} {vs : Value} {k : Int} {Q : Value → Shared → Prop} (ht : IsTup s.heap t items) (hs : s.heap.IsSliceOf sl .none .none vs) (ps : IsPart vs (some k)) (hk : k = 1 ∨ k = -1) (hz : items.size ≤ sizeLine) (h1 : k = 1 → Q (.ref t) s)
    (h2 : k = -1 → Q (.ref s.heap.objs.size) { s with heap := s.heap.push { cls := .type "tuple", data := .seq items.toList.reverse.toArray } }) : wpAny (model prog w) A (getItem (.ref t) (.ref sl)) Q E s := by
  obtain ⟨os, hos, hcs, hds⟩ := id hs
  have hT : s.TypeIs (.ref sl) "slice" := ⟨os, hos, hcs⟩
  unfold getItem
  refine wpAny_holding ?_
  refine wpAny_bind (wpAny_sequenceKey ht.typeIs (by decide) ?_)
  refine wpAny_bind (wpAny_callSpecial?_slot (name := Str.ofString "__getitem__") ht.typeIs PyProof.Rows.slot_tuple_getitem (wpAny_call_entry PyProof.Rows.slot_tuple_getitem ht.typeIs entry_tuple_getitem ?_ (args_tuple_getitem _ _)))
  refine (show wpAny _ _ (Builtin.Tuple.tupleItemsOf (.ref t) >>= _) _ _ s from wpAny_bind (tupleItemsOf_ ht (wpAny_bind (wpAny_typeOf hT ?_))))
  rw [if_pos (by decide)]
  refine wpAny_bind (parts_step (n := items.size) hs ps hk ?_)
  rcases hk with rfl | rfl
  · show wpAny _ _ (if ((0 : Int) == 0 && (1 : Int) == 1 && items.size == items.size) = true then _ else _) _ _ s
    rw [if_pos (by simp)]
    refine wpAny_bind ?_
    refine (show wpAny _ _ (typeOf (.ref t) >>= fun T => pure (T == .type "tuple")) _ _ s from wpAny_bind (wpAny_typeOf ht.typeIs (wpAny_pure ?_)))
    first
      | rw [if_pos (by decide)]
      | simp only [beq_self_eq_true, if_true]
    first
      | exact wpAny_bind (wpAny_rule (wpAny_pure ⟨_, rfl, wpAny_pure (h1 rfl)⟩))
      | exact wpAny_bind (wpAny_rule (wpAny_bind (wpAny_pure (wpAny_pure ⟨_, rfl, wpAny_pure (h1 rfl)⟩))))
  · show wpAny _ _ (if (((items.size : Int) - 1) == 0 && (-1 : Int) == 1 && items.size == items.size) = true then _ else _) _ _ s
    rw [if_neg (by simp)]
    have ep : ((List.range items.size).filterMap fun (m : Nat) => items[(((items.size : Int) - 1) + (m : Int) * (-1)).toNat]?).toArray = items.toList.reverse.toArray := by rw [pick_back]
    have hso : sizeOk (.seq items.toList.reverse.toArray) := by
      show items.toList.reverse.toArray.size ≤ sizeLine
      simpa using hz
    refine (show wpAny _ _ (Builtin.Tuple.tupleExact ((List.range items.size).filterMap fun (m : Nat) => items[(((items.size : Int) - 1) + (m : Int) * (-1)).toNat]?).toArray >>= _) _ _ s from ?_)
    rw [ep]
    first
      | exact wpAny_bind (m := Builtin.Tuple.tupleExact _) (wpAny_newObj_type (wpAny_pure ⟨_, rfl, wpAny_pure (h2 rfl)⟩) hso)
      | exact wpAny_bind (m := Builtin.Tuple.tupleExact _) (wpAny_newObj_type (wpAny_bind (wpAny_pure (wpAny_pure ⟨_, rfl, wpAny_pure (h2 rfl)⟩))) hso)
      | exact wpAny_bind (wpAny_bind (m := Builtin.Tuple.tupleExact _) (wpAny_newObj_type (wpAny_pure (wpAny_pure ⟨_, rfl, wpAny_pure (h2 rfl)⟩)) hso))
      | exact wpAny_bind (wpAny_bind (m := Builtin.Tuple.tupleExact _) (wpAny_newObj_type (wpAny_pure ⟨_, rfl, wpAny_pure (h2 rfl)⟩) hso))
end
/-! the reading -/
@[simp] def gStep : Dt → Dt → Option Dt
  | .list ds, .int i => if i = 1 then some (.list ds) else if i = -1 then some (.list ds.reverse) else none
  | .tuple ds, .int i => if i = 1 then some (.tuple ds) else if i = -1 then some (.tuple ds.reverse) else none
  | _, _ => none
section
variable {X : Cx} {m : Option Addr} {a b c e : Expr} {es : List Expr} {pos : Pos}
theorem e_step {p3 : Pos} {st : Expr} {fa fb : DE} (ha : PE X a (tO X.fr m fa)) (hb : PE X st (tO X.fr m fb)) (hsub : ∀ o i, subscripted (.Slice none none (some st) p3) false o i = operate [o, i] (getItem o i) := by intro _ _; rfl) :
    PE X (.Subscript a (.Slice none none (some st) p3) pos) (tE X.fr m (dB gStep fa fb)) := by
  refine ⟨fun pins s σ H Q I ⟨F, ρ, k, d, k', R, hf, q⟩ => ?_⟩
  unfold dB at hf
  obtain ⟨⟨x, k1⟩, h1, hf⟩ := Option.bind_eq_some_iff.mp hf
  obtain ⟨⟨y, k2⟩, h2, hf⟩ := Option.bind_eq_some_iff.mp hf
  obtain ⟨z, h3, hf⟩ := Option.bind_eq_some_iff.mp hf
  cases hf
  cases x with
  | list ds =>
    have hl : ∃ es, d = .list es ∧ lStep fa fb ρ k = some (es, k2) := by
      cases y with
      | int i =>
        replace h3 : (if i = 1 then some (PyData.list ds) else if i = -1 then some (PyData.list ds.reverse) else none) = some d := h3
        have e : lStep fa fb ρ k = (if i = 1 then some (ds, k2) else if i = -1 then some (ds.reverse, k2) else none) := by
          unfold lStep
          rw [h1]
          show ((fb ρ k1).bind _) = _
          rw [h2]
          rfl
        rw [e]
        by_cases hi : i = 1
        · rw [if_pos hi] at h3 ⊢
          cases h3
          exact ⟨_, rfl, rfl⟩
        · rw [if_neg hi] at h3 ⊢
          by_cases hj : i = -1
          · rw [if_pos hj] at h3 ⊢
            cases h3
            exact ⟨_, rfl, rfl⟩
          · rw [if_neg hj] at h3
            cases h3
      | _ => cases h3
    obtain ⟨es, rfl, hl⟩ := hl
    have hd : lD (lStep fa fb) ρ k = some (.list es, k2) := by
      unfold lD
      rw [hl]
      rfl
    exact (e_l (l_step ha hb hsub)).run pins s σ H Q I ⟨F, ρ, k, _, k2, R, hd, q⟩
  | tuple ds =>
    cases y with
    | int i =>
      have hi : i = 1 ∨ i = -1 := by
        simp only [gStep] at h3
        split at h3
        · exact .inl ‹_›
        · split at h3
          · exact .inr ‹_›
          · cases h3
      refine Subscript_ (thn (ha.run pins s σ H (fun v H1 => ∃ F1, Grow m F H F1 H1 ∧ Ctr m F1 H1 k1 ∧ Ro X.fr m F1 H1 v (.tuple ds)) I ⟨F, ρ, k, _, k1, R, h1, fun v F1 H1 g c r => ⟨F1, g, c, r⟩⟩) fun v s1 ⟨x, H1, I1, r1, F1, g1, c1, q1⟩ => ?_)
      obtain ⟨a0, xs, ex, hx, qa⟩ := q1.tup
      subst ex
      cases r1
      refine wpAny_Slice (thn (po_none.run pins s1 σ H1 (fun o H2 => o = none ∧ H2 = H1) I1 ⟨rfl, rfl⟩) fun vl s2 ⟨l, H2, I2, pl, el, e2⟩ => ?_)
      subst el e2
      refine thn (po_none.run pins s2 σ H2 (fun o H3 => o = none ∧ H3 = H2) I2 ⟨rfl, rfl⟩) fun vu s3 ⟨u, H3, I3, pu, eu, e3⟩ => ?_
      subst eu e3
      refine thn ((po_some hb).run pins s3 σ H3 (fun o H4 => o = some i ∧ ∃ F4, Grow m F1 H3 F4 H4 ∧ Ctr m F4 H4 k2) I3 ⟨F1, ρ, k1, _, k2, R.grow g1 c1, h2, fun v F4 H4 g4 c4 r4 => ⟨i, r4.int, rfl, F4, g4, c4⟩⟩) fun vs s4 ⟨o, H4, I4, ps, eo, F4, g4, c4⟩ => ?_
      subst eo
      have I5 : Inv X pins σ H4 { s4 with heap := s4.heap.push { cls := .type "slice", data := .fields #[vl, vu, vs] } } := I4.kept (t' := s4.toks) fun b ob q => Heap.get?_push_of_some _ q
      have hx4 : SqT X.K H4 a0 xs := ex_t (g4.ff.trans g4.fh) hx.sq
      have qa4 := qa.mono g4.ff
      obtain ⟨its, r, ht, hz⟩ := I5.tuple hx4
      have g14 := g1.trans c1 g4
      show wpAny (model X.prog X.w) X.A (subscriptTail a (.Slice none none (some st) p3) (.ref a0) (.ref s4.heap.objs.size)) (EP X pins σ Q) X.xe { s4 with heap := s4.heap.push { cls := .type "slice", data := .fields #[vl, vu, vs] } }
      refine tail_any (ops := [.ref a0, .ref s4.heap.objs.size]) ht.typeIs (PyProof.Rows.slot_tuple_getitem.lookup) ?_ (hsub _ _)
      cases pl
      cases pu
      refine tuple_step ht (Heap.IsSliceOf.new _ .none .none vs) ps hi (by rw [List.size_toArray, ← r.length]; exact hz) (fun e1 => ?_) (fun e1 => ?_)
      · subst e1
        simp at h3
        subst h3
        exact ⟨.ref a0, H4, I5, rfl, q _ F4 H4 g14 c4 (.tup (hx.mono g4.ff) qa4)⟩
      · subst e1
        simp at h3
        subst h3
        have hn := I5.hok.fresh (Nat.le_refl _)
        have hsz : xs.reverse.length ≤ sizeLine := by
          rw [List.length_reverse]
          exact hz
        refine ⟨.ref _, _, I5.laid (t' := s4.toks) (o := .tup xs.reverse) (fun b ob q => Heap.get?_push_of_some _ q) (Nat.le_refl _) ⟨hsz, its.reverse, r.reverse, IsTup.new _ _⟩, rfl, ?_⟩
        obtain ⟨z1, z2, z3⟩ := new_tup g4.fh c4 qa4.reverse hn
        exact q _ _ _ (g14.trans c4 z1) z2 z3
    | _ => simp at h3
  | _ => simp at h3
end
end Dn

set_option Elab.async false
set_option linter.all false
set_option maxRecDepth 100000
set_option maxHeartbeats 1000000
/-! defs and calls under no guards -/
namespace Dn
open PySem PySem.Spec PyProof.Rows L2 Evl

section
variable {X : Cx} {m : Option Addr} {a b c e : Expr} {es : List Expr} {pos : Pos}
theorem e_callG {j : Nat} {fa : Addr} {fd : FuncData} {ps : List Str} {f : Fn} {g : DL} {x : Str} {p : Pos} (G : FnG X.prog X.w X.K X.mg X.base CX0 j fa fd ps (spD X.fr f)) (gd : X.A.guards = some []) (hr : Room j X.A) (hm : X.mg x = some (.ref fa)) (hk : PySem.W.keepIn X.K (.ref fa) = true)
    (hb : Binds X.K fd ps []) (ha : PA X (e :: es) (tAr X.fr m g)) (hg : Gl X x := by rfl) (hdb : (x == ("__debug__" : Str)) = false := by decide) (he : starEach (e :: es) X.env = (false, eval e X.env) :: starEach es X.env := by rfl) (hpl : (backTo pos (starEach es X.env)).any (·.1) = false := by rfl) :
    PE X (.Call (.Name x p) (e :: es) [] pos) (tE X.fr m (dCall f g)) := impPE (pe_callG G gd hr hm hk hb pass0 ha hg hdb he hpl) fun σ H Q ⟨F, ρ, k, d, k', R, hf, q⟩ => by
  unfold dCall at hf
  obtain ⟨⟨ds, k1⟩, h1, hf⟩ := Option.bind_eq_some_iff.mp hf
  refine ⟨F, ρ, k, ds, k1, R, h1, fun vs F1 H1 g1 c1 r => ?_⟩
  show spD X.fr f (vs ++ []) H1 Q E0
  rw [List.append_nil]
  exact ⟨m, F1, k1, ds, d, k', g1.fh, c1, r, hf, fun v F' H' g' c' r' => q v F' H' (g1.trans c1 g') c' r'⟩
theorem l_callG {j : Nat} {fa : Addr} {fd : FuncData} {ps : List Str} {f : FnL} {g : DL} {x : Str} {p : Pos} (G : FnG X.prog X.w X.K X.mg X.base CX0 j fa fd ps (spL X.fr f)) (gd : X.A.guards = some []) (hr : Room j X.A) (hm : X.mg x = some (.ref fa)) (hk : PySem.W.keepIn X.K (.ref fa) = true)
    (hb : Binds X.K fd ps []) (ha : PA X (e :: es) (tAr X.fr m g)) (hg : Gl X x := by rfl) (hdb : (x == ("__debug__" : Str)) = false := by decide) (he : starEach (e :: es) X.env = (false, eval e X.env) :: starEach es X.env := by rfl) (hpl : (backTo pos (starEach es X.env)).any (·.1) = false := by rfl) :
    PE X (.Call (.Name x p) (e :: es) [] pos) (tL X.fr m (dCallL f g)) := impPE (pe_callG G gd hr hm hk hb pass0 ha hg hdb he hpl) fun σ H Q ⟨F, ρ, k, d, k', R, hf, q⟩ => by
  unfold dCallL at hf
  obtain ⟨⟨ds, k1⟩, h1, hf⟩ := Option.bind_eq_some_iff.mp hf
  refine ⟨F, ρ, k, ds, k1, R, h1, fun vs F1 H1 g1 c1 r => ?_⟩
  show spL X.fr f (vs ++ []) H1 Q E0
  rw [List.append_nil]
  exact ⟨m, F1, k1, ds, d, k', g1.fh, c1, r, hf, fun p ws F' H' g' c' hp fp h' r' => q p ws F' H' (g1.trans c1 g') c' (g1.back c1 hp) fp h' r'⟩
end
theorem hu67 {j : Nat} {A : Around} (hr : Room j A) : A.units + 67 < cLine := by
  have := hr.un
  omega
theorem hu66 {j : Nat} {A : Around} (hr : Room j A) : A.units + 66 < cLine := by
  have := hr.un
  omega
section
variable {P : Program} {w : World} {K : PySem.W.Frag} {mg : Str → Option Value} {base : Heap}
theorem fnG_D {x qual : Str} {st : Stmt} {f : Addr} {fd : FuncData} {N ps : List Str} {j : Nat} (G : Fun K x qual st f fd) (S : FnScope N ps (defScope st)) (body : DS)
    (hb : ∀ (cdv : Value) (A : Around) (outer : List PySem.Env) (s : Shared) (H : Hp) (E : XK) (m : Option Addr) (F0 : Hp), (A.deeper (envOfC qual (defScope st) s.heap.objs.size f cdv)).guards = some [] → Room j (A.deeper (envOfC qual (defScope st) s.heap.objs.size f cdv)) →
      PSs (cxOf CX0 P w K mg base N qual (defScope st) f cdv A outer s H E).nox (defBody st) (tS ⟨K, P, w, mg⟩ m F0 H (fun _ _ _ => False) body)) : FnG P w K mg base CX0 (j + 1) f fd ps (spD ⟨K, P, w, mg⟩ (dDef ps.length N.length body)) := by
  refine fnG_ok G S (fun vs H Q E h => ?_) (fun cdv A outer s H vs Q E gd hr h => ?_)
  · obtain ⟨m, F, k, ds, d, k', e, c, r, hf, q⟩ := h
    unfold dDef at hf
    split at hf
    · rw [r.length]
      assumption
    · cases hf
  · obtain ⟨m, F, k, ds, d, k', e, c, r, hf, q⟩ := h
    refine ⟨_, hb cdv A outer s H E m F gd hr, ?_⟩
    unfold dDef at hf
    split at hf
    · obtain ⟨o, h1, hf⟩ := Option.bind_eq_some_iff.mp hf
      refine ⟨F, _, k, o, ⟨rl_start e c r, .refl e, fun i p ⟨c, h, hc, _⟩ => (startE_ow h hc).elim⟩, h1, ?_⟩
      cases o with
      | ret d' k1 =>
        cases hf
        exact fun v F' H' g c' r' => q v F' H' g c' r'
      | retL es k1 =>
        cases hf
        exact fun p ws F' H' g c' hp fp h' r' => q _ (upd F' p (.lst ws)) H' (g.freeze hp h') (c'.freeze (c.ne hp)) (.lst (.inl (.inl upd_same)) (r'.mono (ex_freeze fp)))
      | next ρ k1 =>
        cases hf
        exact fun σ' F' H' _ R => q .non F' H' R.gr R.rl.ctr .non
      | _ => cases hf
    · cases hf
theorem fnG_L {x qual : Str} {st : Stmt} {f : Addr} {fd : FuncData} {N ps : List Str} {j : Nat} (G : Fun K x qual st f fd) (S : FnScope N ps (defScope st)) (body : DS)
    (hb : ∀ (cdv : Value) (A : Around) (outer : List PySem.Env) (s : Shared) (H : Hp) (E : XK) (m : Option Addr) (F0 : Hp), (A.deeper (envOfC qual (defScope st) s.heap.objs.size f cdv)).guards = some [] → Room j (A.deeper (envOfC qual (defScope st) s.heap.objs.size f cdv)) →
      PSs (cxOf CX0 P w K mg base N qual (defScope st) f cdv A outer s H E).nox (defBody st) (tS ⟨K, P, w, mg⟩ m F0 H (fun _ _ _ => False) body)) : FnG P w K mg base CX0 (j + 1) f fd ps (spL ⟨K, P, w, mg⟩ (dDefL ps.length N.length body)) := by
  refine fnG_ok G S (fun vs H Q E h => ?_) (fun cdv A outer s H vs Q E gd hr h => ?_)
  · obtain ⟨m, F, k, ds, d, k', e, c, r, hf, q⟩ := h
    unfold dDefL at hf
    split at hf
    · rw [r.length]
      assumption
    · cases hf
  · obtain ⟨m, F, k, ds, d, k', e, c, r, hf, q⟩ := h
    refine ⟨_, hb cdv A outer s H E m F gd hr, ?_⟩
    unfold dDefL at hf
    split at hf
    · obtain ⟨o, h1, hf⟩ := Option.bind_eq_some_iff.mp hf
      refine ⟨F, _, k, o, ⟨rl_start e c r, .refl e, fun i p ⟨c, h, hc, _⟩ => (startE_ow h hc).elim⟩, h1, ?_⟩
      cases o with
      | retL es k1 =>
        cases hf
        exact fun p ws F' H' g c' hp fp h' r' => q p ws F' H' g c' hp fp h' r'
      | _ => cases hf
    · cases hf
end
end Dn

set_option Elab.async false
set_option linter.all false
set_option maxRecDepth 100000
set_option maxHeartbeats 2000000
/-! list comprehensions of any count of clauses: a clause's loop, by what a turn does -/
namespace Dn
open PySem PySem.Spec PyProof.Rows L2 Evl

/-- how a turn of the clause i goes: act is what stands behind the store and the tests -/
def TurnIs (E : Expr) (i : Nat) (tg src : Expr) (ifs : List Expr) (acc : Value) (env : Env) (act : Sem PySem.Fin → Sem PySem.Fin) : Prop := ∀ it, compTurn E i it acc env = (do
  standAt src.pos
  match ← pyNext it with
  | none => pure (.done .next)
  | some v =>
    letOwnedTupleGo tg it v
    assign tg env v
    let mut ok := true
    for c in ifs do
      if ok then ok ← isTrue c env (eval c env)
    if ok = true then act (again (.compLoop E i it acc env)) else again (.compLoop E i it acc env))
section
variable {prog : Program} {w : World} {A : Around} {R : Result → Shared → Prop} {s : Shared} {elt tg src : Expr} {gens : List Comprehension} {scope : Scope} {pos : Pos} {i : Nat} {ifs : List Expr} {it acc : Value} {env : Env} {act : Sem PySem.Fin → Sem PySem.Fin}
theorem loop_act (ht : TurnIs (.ListComp elt gens scope pos) i tg src ifs acc env act) (Iv : Nat → Shared → Prop)
    (turn : ∀ n s, Iv n s → wpAny (model prog w) A (pyNext it) (fun r s₁ => match r with
      | none => R (.ok .next) s₁
      | some v => wpAny (model prog w) A (letOwnedTupleGo tg it v) (fun _ s₂ => wpAny (model prog w) A (assign tg env v) (fun _ s₃ =>
          wpAny (model prog w) A (forIn ifs true fun c r => if r = true then do let ok ← isTrue c env (eval c env); pure (ForInStep.yield ok) else pure (ForInStep.yield r)) (fun ok s₄ =>
            if ok = true then ∀ (k : Sem PySem.Fin) (QF : PySem.Fin → Shared → Prop) (EF : Value → Shared → Prop), (∀ s₅, (∃ m, m < n ∧ Iv m s₅) → wpAny (model prog w) A k QF EF s₅) → wpAny (model prog w) A (act k) QF EF s₄ else ∃ m, m < n ∧ Iv m s₄) (fun _ _ => False) s₃) (fun _ _ => False) s₂) (fun _ _ => False) s₁) (fun _ _ => False) s)
    (n : Nat) (h : Iv n s) : codeAny (model prog w) A (.compLoop (.ListComp elt gens scope pos) i it acc env) R s := by
  refine codeAny_loop rfl Iv (fun n s hI => ?_) n h
  show wpAny (model prog w) A ((compTurn (.ListComp elt gens scope pos) i it acc env).onRaise fun x => noteFrame x env >>= fun _ => theTreesLotGoes x) _ _ s
  apply wpAny_noted
  rw [ht it]
  refine wpAny_bind (wpAny_standAt (wpAny_bind (thnF (turn n s hI) fun r s₁ h₁ => ?_)))
  cases r with
  | none => exact wpAny_pure h₁
  | some v =>
    refine wpAny_bind (thnF h₁ fun _ s₂ h₂ => wpAny_bind (thnF h₂ fun _ s₃ h₃ => wpAny_bind (thnF h₃ fun ok s₄ h₄ => ?_)))
    cases ok with
    | false => exact wpAny_pure ⟨rfl, h₄⟩
    | true => exact h₄ _ _ _ fun s₅ h₅ => wpAny_pure ⟨rfl, h₅⟩
/-- the start of a clause -/
theorem start_any (hq : ((clausesOf (.ListComp elt gens scope pos))[i]?).elim false (fun g => g.is_async != 0) = false) (h0 : codeAny (model prog w) A (.compLoop (.ListComp elt gens scope pos) i it acc env) R s) (h : wpAny (model prog w) A (pyIter it) (fun it' s' => codeAny (model prog w) A (.compLoop (.ListComp elt gens scope pos) i it' acc env) R s') (notedBy (model prog w) A env fun x s' => R (.error x) s') s) :
    codeAny (model prog w) A (.compStart (.ListComp elt gens scope pos) i it acc env) R s := by
  apply codeAny_of_tree
  show wpAny (model prog w) _ ((compStart (.ListComp elt gens scope pos) i it acc env).onRaise fun x => noteFrame x env >>= fun _ => standAt theWindowsPlace) _ _ s
  apply wpAny_notedAt
  unfold compStart
  rw [hq, if_neg Bool.false_ne_true]
  refine (show wpAny _ _ (ask >>= _) _ _ s from wpAny_bind (wpAny_askSetting (wpAny_ite ?_)))
  split
  · first
      | exact wpAny_bind (wpAny_pure (wpAny_pure (And.intro rfl h0)))
      | exact wpAny_pure (And.intro rfl h0)
  · refine wpAny_bind (wpAny_rule ?_)
    cases (clausesOf (.ListComp elt gens scope pos))[i]? with
    | none => exact wpAny_bind (wpAny_mono h (fun it' s' h' => wpAny_pure (And.intro rfl h')) fun _ _ x => x)
    | some g => exact wpAny_bind (wpAny_standAt (wpAny_bind (wpAny_mono h (fun it' s' h' => wpAny_pure (And.intro rfl h')) fun _ _ x => x)))
end

/-! ### what a turn does, and a clause's loop -/
/-- act, run where the block stands, reaches Nx; the slots come back but for those of vs -/
def ActR (X : Cx) (act : Sem PySem.Fin → Sem PySem.Fin) (ta : L2.St → Hp → (Hp → Prop) → Prop) (vs : List Nat) : Prop := ∀ (pins : List (Addr × Obj)) (s : Shared) (σ : L2.St) (H : Hp) (Nx : Hp → Prop) (k : Sem PySem.Fin) (QF : PySem.Fin → Shared → Prop) (EF : Value → Shared → Prop), Inv X pins σ H s → ta σ H Nx →
  (∀ s', (∃ σ' H', Inv X pins σ' H' s' ∧ L2.wipe σ' vs = L2.wipe σ vs ∧ Nx H') → wpAny (model X.prog X.w) X.A k QF EF s') → wpAny (model X.prog X.w) X.A (act k) QF EF s
/-- one clause: its source J, its target, its tests, then ta -/
def clTail (g : TG) (tt : TT) (ta : L2.St → Hp → (Hp → Prop) → Prop) (vs : List Nat) (σ : L2.St) (Nx : Hp → Prop) (J : It) (H4 : Hp) : Prop := ∃ W : Nat → Nat → Hp → Prop, (∃ m, W 0 m H4) ∧ ∀ j k H, W j k H →
  (J.stop j H ∧ Nx H) ∨ (J.go j H ∧ ∃ N1 : Hp → Prop, (∀ H', N1 H' → ∃ k', k' < k ∧ W (j + 1) k' H') ∧ ∀ x H', J.yld j H x H' → g x (L2.wipe σ vs) H' fun σ3 H5 => L2.wipe σ3 vs = L2.wipe σ vs ∧ tt σ3 H5 fun b H6 => if b = true then ta σ3 H6 N1 else N1 H6)
section
variable {X : Cx} {elt tg src : Expr} {gens : List Comprehension} {scope : Scope} {pos : Pos} {i : Nat} {ifs : List Expr} {acc : Value} {act : Sem PySem.Fin → Sem PySem.Fin} {g : TG} {tt : TT} {ta : L2.St → Hp → (Hp → Prop) → Prop} {vs : List Nat}
theorem wipe_len_eq {σ σ' : L2.St} {vs : List Nat} (h : L2.wipe σ' vs = L2.wipe σ vs) : σ'.length = σ.length := by
  rw [← wipe_length σ' vs, h, wipe_length]
theorem loop_clause (hc : X.calm = true) (hxe : X.xe = fun _ _ => False) (ht : TurnIs (.ListComp elt gens scope pos) i tg src ifs acc X.env act) (pg : PG X tg g) (pt : PTs X ifs tt) (pa : ActR X act ta vs) {it : Addr} {fp : List Addr} {tn : Nat → Heap → Prop} {J : It} (T : Turn X.prog X.w X.K tg J fp it tn)
    {pins : List (Addr × Obj)} {s : Shared} {σ : L2.St} {H : Hp} {Nx : Hp → Prop} {R : Result → Shared → Prop} (I : Inv X pins (L2.wipe σ vs) H s) (st : tn 0 s.heap) (ff : ∀ b ∈ fp, FpOk X pins H b) (q : clTail g tt ta vs σ Nx J H) (fin : ∀ s' H', Inv X pins (L2.wipe σ vs) H' s' → Nx H' → R (.ok .next) s') :
    codeAny (model X.prog X.w) X.A (.compLoop (.ListComp elt gens scope pos) i (.ref it) acc X.env) R s := by
  obtain ⟨W, ⟨m0, w0⟩, turn⟩ := q
  have stat : ∀ {H' : Hp}, (∀ b ∈ fp, H' b = none) → ∀ b ∈ fp, FpOk X pins H' b := fun hn b hb => ⟨hn b hb, (ff b hb).2⟩
  refine loop_act ht (fun n s' => ∃ j H', Inv X pins (L2.wipe σ vs) H' s' ∧ tn j s'.heap ∧ (∀ b ∈ fp, H' b = none) ∧ W j n H') ?_ m0 ⟨0, H, I, st, fun b hb => (ff b hb).1, w0⟩
  rintro n s1 ⟨j, H1, I1, st1, n1, w1⟩
  rcases turn j n H1 w1 with ⟨stop, nx⟩ | ⟨go, N1, hN1, step⟩
  · refine thnF (T.done X rfl rfl rfl hc j pins s1 _ H1 (fun _ _ => False) I1 (stat n1) st1 stop) fun r s2 ⟨hr, I2⟩ => ?_
    subst hr
    exact fin s2 H1 I2 nx
  · refine thnF (T.item X rfl rfl rfl hc j pins s1 _ H1 (fun _ _ => False) I1 (stat n1) st1 go) fun r s2 ⟨u, hr, h2⟩ => ?_
    subst hr
    refine thnF h2 fun _ s3 ⟨x, H3, I3, r3, y3, st3, n3⟩ => ?_
    have I3p := I3.pinned (stat n3) (T.obj _ _ st3)
    have pgr := pg.run _ s3 _ H3 x u _ I3p r3 (step x H3 y3)
    rw [hxe] at pgr
    refine thnF pgr fun _ s4 ⟨σ4, H4, I4, hw4, q4⟩ => ?_
    have ptr := pt.run _ s4 σ4 H4 _ I4 q4
    rw [hxe] at ptr
    refine thnF ptr fun b s5 ⟨H5, I5, q5⟩ => ?_
    have endT : ∀ {σ' : L2.St} {s' : Shared} {H' : Hp}, Inv X (pins ++ pinsAt fp s3.heap) σ' H' s' → L2.wipe σ' vs = L2.wipe σ vs → N1 H' → ∃ m, m < n ∧ ∃ j H', Inv X pins (L2.wipe σ vs) H' s' ∧ tn j s'.heap ∧ (∀ b ∈ fp, H' b = none) ∧ W j m H' := fun {σ' s' H'} I' hw nx => by
      obtain ⟨m', hm, w'⟩ := hN1 H' nx
      have pin : ∀ b ∈ fp, ∀ o, s3.heap.get? b = some o → s'.heap.get? b = some o ∧ H' b = none := fun b hb o e => by
        have z := I'.pin (b, o) (List.mem_append_right _ (List.mem_append_right _ (mem_pinsAt hb e)))
        exact ⟨z.1, z.2.1⟩
      refine ⟨m', hm, j + 1, H', I'.unpinned.weak (by rw [← hw, wipe_length]) (fun j v e => by rw [← hw] at e; exact (wipe_some e).1), T.keep _ _ _ st3 fun b hb o e => (pin b hb o e).1, fun b hb => ?_, w'⟩
      obtain ⟨o, e, _⟩ := T.obj _ _ st3 b hb
      exact (pin b hb o e).2
    cases b with
    | false => exact endT I5 hw4 q5
    | true => exact fun kk QF EF hk => pa _ s5 σ4 H5 N1 kk QF EF I5 q5 fun s6 ⟨σ6, H6, I6, hw6, nx⟩ => hk s6 (endT I6 (hw6.trans hw4) nx)
/-- the last clause: the element, appended -/
theorem act_append {D : Addr} {te : TE} (hxe : X.xe = fun _ _ => False) (pe : PE X elt te) : ActR X (fun k => do
      let _ ← (do let _ ← call (.builtin "list.append") [.ref D, ← eval elt X.env])
      k) (fun σ H Nx => te σ H fun y H7 => ∃ ac, H7 D = some (.lst ac) ∧ ac.length < sizeLine ∧ Nx (upd H7 D (.lst (ac ++ [y])))) vs := by
  intro pins s σ H Nx k QF EF I h hk
  have per := pe.run pins s σ H _ I h
  rw [hxe] at per
  refine wpAny_bind (wpAny_bind (thnF per fun z s1 ⟨y, H1, I1, r1, ac, hD, hz, nx⟩ => wpAny_bind (app_ok I1 hD hz r1 fun s2 I2 => wpAny_pure (hk s2 ⟨σ, _, I2, rfl, nx⟩))))
/-- a further clause's loop as what a turn of the clause ahead does -/
theorem act_clause {wi : TI} {vs1 : List Nat} (hc : X.calm = true) (hxe : X.xe = fun _ _ => False) (hq : ((clausesOf (.ListComp elt gens scope pos))[i]?).elim false (fun g => g.is_async != 0) = false) (hs : ∀ x, foldedSetIterable src X.env x = pure x) (ht : TurnIs (.ListComp elt gens scope pos) i tg src ifs acc X.env act)
    (pi : PI X tg src wi) (pg : PG X tg g) (pt : PTs X ifs tt) (pa : ActR X act ta vs1) (hv : ∀ j ∈ vs1, j ∈ vs) :
    ActR X (fun k => do
      let x ← eval src X.env
      standAt src.pos
      let x ← foldedSetIterable src X.env x
      let _ ← runOwn (.compStart (.ListComp elt gens scope pos) i (← holding [x] (pyIter x)) acc X.env) X.env
      k) (fun σ H Nx => wi σ H (clTail g tt ta vs1 σ Nx)) vs := by
  intro pins s σ H Nx k QF EF I h hk
  have pir := pi.run pins s σ H _ I h
  rw [hxe] at pir
  refine wpAny_bind (thnF pir fun x s1 h1 => wpAny_bind (wpAny_standAt (wpAny_bind (wpAny_of_eq (hs x) (wpAny_bind (wpAny_holding (thnF h1 fun itv s2 h2 => ?_)))))))
  obtain ⟨it, fp, tn, J, H2, e, I2, T, st2, f2, q⟩ := h2
  subst e
  have out : ∀ s' H', Inv X pins (L2.wipe σ vs1) H' s' → Nx H' → ∃ σ' H', Inv X pins σ' H' s' ∧ L2.wipe σ' vs = L2.wipe σ vs ∧ Nx H' := fun s' H' I' nx => ⟨_, H', I', by
    apply List.ext_getElem?
    intro j
    have a := wipe_get (σ := L2.wipe σ vs1) (j := j) (vs := vs)
    have b := wipe_get (σ := σ) (j := j) (vs := vs)
    rw [wipe_length] at a
    rw [a, b]
    by_cases hj : j ∈ vs ∧ j < σ.length
    · rw [if_pos hj, if_pos hj]
    · rw [if_neg hj, if_neg hj, wipe_get, if_neg fun z => hj ⟨hv j z.1, z.2⟩], nx⟩
  have lp : codeAny (model X.prog X.w) X.A (.compLoop (.ListComp elt gens scope pos) i (.ref it) acc X.env) (fun r s' => r = .ok .next ∧ ∃ σ' H', Inv X pins σ' H' s' ∧ L2.wipe σ' vs = L2.wipe σ vs ∧ Nx H') s2 :=
    loop_clause hc hxe ht pg pt pa T (I2.weak (wipe_length _ _) fun j v e => (wipe_some e).1) st2 f2 q fun s' H' I' nx => ⟨rfl, out s' H' I' nx⟩
  have sp := start_any hq lp (T.self X.A 0 s2 _ _ st2 lp)
  refine wpAny_bind (wpAny_runOwn ?_)
  rw [Around.mark_none]
  refine codeAny_mono sp fun r s' ⟨hr, z⟩ => ?_
  subst hr
  exact hk s' z
end
end Dn

set_option Elab.async false
set_option linter.all false
set_option maxRecDepth 100000
set_option maxHeartbeats 2000000
/-! a list comprehension, its first clause by what a turn does -/
namespace Dn
open PySem PySem.Spec PyProof.Rows L2 Evl

def tLcN (wi : TI) (g : TG) (tt : TT) (ta : Addr → L2.St → Hp → (Hp → Prop) → Prop) (vs : List Nat) : TE := fun σ H Q => wi σ H fun J H1 => ∀ D, H1 D = none → clTail g tt (ta D) vs σ (fun H' => Q (.ref D) H') J (upd H1 D (.lst []))
section
variable {X : Cx} {elt tg src : Expr} {ifs : List Expr} {rest : List Comprehension} {scope : Scope} {own : List (Str × Nat)} {pos : Pos} {wi : TI} {g : TG} {tt : TT} {ta : Addr → L2.St → Hp → (Hp → Prop) → Prop} {act : Value → Env → Sem PySem.Fin → Sem PySem.Fin}
theorem pe_lcN (hc : X.calm = true) (hN : X.N.Nodup) (pi : PI X tg src wi) (ok : BlkOk X.N X.env.scope scope own) (hs : ∀ x, foldedSetIterable src X.env x = pure x) (ht : ∀ acc env, TurnIs (.ListComp elt (⟨tg, src, ifs, 0⟩ :: rest) scope pos) 0 tg src ifs acc env (act acc env))
    (hg : ∀ (s : Shared) (H : Hp) (C : Addr) (cl : List (Str × Addr)) (fp : List Addr), PG (X.blk s H scope (compEnvC scope cl C X.env) fp) tg g) (hp : ∀ (s : Shared) (H : Hp) (C : Addr) (cl : List (Str × Addr)) (fp : List Addr), PTs (X.blk s H scope (compEnvC scope cl C X.env) fp) ifs tt)
    (ha : ∀ (D : Addr) (s : Shared) (H : Hp) (C : Addr) (cl : List (Str × Addr)) (fp : List Addr), ActR (X.blk s H scope (compEnvC scope cl C X.env) fp) (act (.ref D) (compEnvC scope cl C X.env)) (ta D) (own.map (·.2))) :
    PE X (.ListComp elt (⟨tg, src, ifs, 0⟩ :: rest) scope pos) (tLcN wi g tt ta (own.map (·.2))) := by
  refine ⟨fun pins s σ H Q I h => ?_⟩
  rw [eval_ListComp]
  have free : ∀ y ∈ scope.names, y.2 = .free → ∃ c, X.env.cells.lookup y.1 = some c := fun y hy e => (ok.free y hy e).elim (fun k => I.ok.has _ (.inl k)) fun k => I.ok.has _ (.inr k)
  refine wpAny_comprehension_free (use := none) (g := ⟨tg, src, ifs, 0⟩) (gs := rest) rfl hs (closure_ok free) ok.kind (fun y hy e => by rw [ok.uniq y hy, e]) (thn (pi.run pins s σ H _ I h) fun xv s1 h1 => thn h1 fun itv s2 h2 => ?_)
  obtain ⟨it, fp, tn, J, H2, e, I2, T, st2, f2, q⟩ := h2
  subst e
  refine wpAny_newObj_type (newEnv_comp ?_) (Nat.zero_le _)
  have sz : ∀ b ∈ fp, b < s2.heap.objs.size := fun b hb => by
    obtain ⟨o, e, _⟩ := T.obj _ _ st2 b hb
    exact Heap.lt_size e
  -- the new list stands at D
  obtain ⟨D, hD⟩ : ∃ D, D = s2.heap.objs.size := ⟨_, rfl⟩
  rw [← hD]
  have hDn : H2 D = none := I2.hok.fresh (Nat.le_of_eq hD.symm)
  have qD := q D hDn
  let s3 : Shared := { s2 with heap := s2.heap.push { cls := .type "list", data := .seq ([] : List Value).toArray } }
  let H3 : Hp := upd H2 D (.lst [])
  have k3 : ∀ b o, s2.heap.get? b = some o → s3.heap.get? b = some o := fun b o z => Heap.get?_push_of_some _ z
  have I3 : Inv X pins σ H3 s3 := I2.laid (t' := s2.toks) k3 (Nat.le_of_eq hD.symm) ⟨Nat.zero_le _, [], 0, .nil, by rw [hD]; exact Heap.get?_push_size _ rfl⟩
  have f3 : ∀ b ∈ fp, FpOk X pins H3 b ∧ b < s3.heap.objs.size := fun b hb => by
    have hl := sz b hb
    refine ⟨⟨?_, (f2 b hb).2⟩, by show b < (s2.heap.push _).objs.size; rw [Heap.size_push]; exact Nat.lt_succ_of_lt hl⟩
    show upd H2 D (.lst []) b = none
    rw [upd_ne (by rw [hD]; exact Nat.ne_of_lt hl)]
    exact (f2 b hb).1
  have I4 := block_start I3 ok hN f3
  let cl := cellsFrom (s3.heap.objs.size + 1) scope.names (cloFrom X.env.cells scope.names [])
  let ce : Env := compEnvC scope cl s3.heap.objs.size X.env
  let s4 : Shared := { s3 with heap := pushCells (s3.heap.push { cls := .type "dict", data := .dict #[] }) scope.names }
  have st4 : tn 0 s4.heap := T.keep _ _ _ st2 fun b _ o z => pushCells_keeps _ _ _ _ (Heap.get?_push_of_some _ (k3 b o z))
  have ff : ∀ b ∈ fp, FpOk (X.blk s3 H3 scope ce fp) [] H3 b := fun b hb => ⟨(f3 b hb).1.1, (I4.ok.exf b hb).1, I4.ok.exfs b hb, .inl hb, fun x c z => (I4.ok.exf b hb).2 x c z, fun p z => by cases (show p ∈ ([] : List (Addr × Obj)) from z)⟩
  have lp : codeAny (model X.prog X.w) X.A (.compLoop (.ListComp elt (⟨tg, src, ifs, 0⟩ :: rest) scope pos) 0 (.ref it) (.ref D) ce) (compPost (model X.prog X.w) X.A X.xe none (EP X pins σ Q) (.ref D) s3.heap.objs.size) s4 := by
    refine loop_clause (X := X.blk s3 H3 scope ce fp) (vs := own.map (·.2)) hc rfl (ht (.ref D) ce) (hg s3 H3 s3.heap.objs.size cl fp) (hp s3 H3 s3.heap.objs.size cl fp) (ha D s3 H3 s3.heap.objs.size cl fp) T (pins := []) (σ := σ) (H := H3) (Nx := fun H' => Q (.ref D) H') I4 st4 ff qD fun s5 H5 I5 nx => ?_
    have I6 : Inv X pins σ H5 s5 := I3.call' (ch := fp) I5.os I5.base I5.hok I5.bare fun b hb => ⟨(f3 b hb).1.2.2.2.1, (f3 b hb).1.2.1, (f3 b hb).1.2.2.2.2.1, (f3 b hb).1.2.2.2.2.2⟩
    have nC : H5 s3.heap.objs.size = none := I5.free
    obtain ⟨m, hn, _⟩ := I5.loc
    obtain ⟨z0, z1, z2, z3, z4, z5⟩ := I3.fpOk (Nat.le_refl _) nC
    refine ⟨m, hn, fun h'' sb => ⟨.ref D, H5, I6.turned (t' := s5.toks) (fun b o hb z => (sb.2 b hb).trans z) z0 z1 z3 z4 z5, rfl, nx⟩⟩
  exact codeAny_compStart_list lp (T.self X.A 0 s4 _ _ st4 lp)
end
end Dn

set_option Elab.async false
set_option linter.all false
set_option maxRecDepth 100000
set_option maxHeartbeats 2000000
/-! comprehensions of several clauses, by what is computed -/
namespace Dn
open PySem PySem.Spec PyProof.Rows L2 Evl

/-- as Grow, but the one list D may change -/
structure GrowB (m : Option Addr) (D : Addr) (F H F' H' : Hp) : Prop where
  ff : Ex F F'
  fh : Ex F' H'
  nw : ∀ a, F' a ≠ none → F a ≠ none ∨ H a = none ∨ ∃ xs, H a = some (.tup xs)
  hh : ∀ a o, m ≠ some a → a ≠ D → H a = some o → H' a = some o
section
variable {K : Fr} {m : Option Addr} {D : Addr} {F H F1 H1 F2 H2 : Hp} {ρ : Ev} {k k1 k2 : Int} {σ : L2.St}
theorem Grow.b (g : Grow m F H F1 H1) : GrowB m D F H F1 H1 := ⟨g.ff, g.fh, g.nw, fun a o e _ h => g.hh a o e h⟩
theorem GrowB.refl (e : Ex F H) : GrowB m D F H F H := (Grow.refl e).b
theorem GrowB.trans (g : GrowB m D F H F1 H1) (c : Ctr m F1 H1 k) (hD : ∃ xs, H1 D = some (.lst xs)) (g2 : GrowB m D F1 H1 F2 H2) : GrowB m D F H F2 H2 where
  ff := g.ff.trans g2.ff
  fh := g2.fh
  nw := fun a h => by
    obtain ⟨ys, hD⟩ := hD
    rcases g2.nw a h with h1 | h1 | ⟨xs, h1⟩
    · exact g.nw a h1
    · refine .inr (.inl ?_)
      cases q : H a with
      | none => rfl
      | some o =>
        by_cases e : m = some a
        · rw [(c a e).1] at h1
          cases h1
        · by_cases e2 : a = D
          · subst e2
            rw [hD] at h1
            cases h1
          · rw [g.hh a o e e2 q] at h1
            cases h1
    · cases q : H a with
      | none => exact .inr (.inl rfl)
      | some o =>
        by_cases e : m = some a
        · rw [(c a e).1] at h1
          cases h1
        · by_cases e2 : a = D
          · subst e2
            rw [hD] at h1
            cases h1
          · rw [g.hh a o e e2 q] at h1
            cases h1
            exact .inr (.inr ⟨xs, rfl⟩)
  hh := fun a o e e2 h => g2.hh a o e e2 (g.hh a o e e2 h)
theorem GrowB.f_none (g : GrowB m D F H F1 H1) {p : Addr} {o : HO} (hf : F p = none) (hh : H p = some o) (ht : o.isTup = false := by rfl) : F1 p = none := by
  cases q : F1 p with
  | none => rfl
  | some u =>
    rcases g.nw p (by
      rw [q]
      intro z
      cases z) with z | z | ⟨xs, z⟩
    · exact absurd hf z
    · rw [hh] at z
      cases z
    · rw [hh] at z
      cases z
      cases ht
theorem GrowB.mutD {o : HO} (g : GrowB m D F H F1 H1) (fD : F1 D = none) : GrowB m D F H F1 (upd H1 D o) where
  ff := g.ff
  fh := fun a u h => by
    rw [upd_ne (ne_of_none h fD)]
    exact g.fh a u h
  nw := g.nw
  hh := fun a u e e2 h => by
    rw [upd_ne e2]
    exact g.hh a u e e2 h
theorem Rl.growB (R : Rl K m F ρ k σ H) (hn : ∀ i, ¬ Own ρ σ i D) (g : GrowB m D F H F1 H1) (c : Ctr m F1 H1 k1) : Rl K m F1 ρ k1 σ H1 where
  sub := g.fh
  ctr := c
  len := R.len
  sh := fun i d h => by
    obtain ⟨v, e, r⟩ := R.sh i d h
    exact ⟨v, e, r.mono g.ff⟩
  ow := fun i c h hc => by
    obtain ⟨p, o, e, f, n, h', r⟩ := R.ow i c h hc
    have ne : p ≠ D := fun z => hn i ⟨c, h, hc, by rw [← z]; exact e⟩
    exact ⟨p, o, e, g.f_none f h' r.nt, n, g.hh p o n ne h', r.mono g.ff⟩
  sep := R.sep
theorem own_wipe {vs : List Nat} {i : Nat} {p : Addr} : ∀ {vs : List Nat}, Own (wipeE ρ vs) (L2.wipe σ vs) i p → Own ρ σ i p
  | [], h => h
  | v :: vs, h => own_wipe (vs := vs) (own_set_un h)
end
/-! ### computations -/
abbrev DA := Ev → Int → Option (List Dt × Int)
def clLoop (ρ : Ev) (g : DG) (t : DT) (a : DA) : List Dt → Int → Option (List Dt × Int)
  | [], k => some ([], k)
  | d :: ds, k => (g ρ d).bind fun ρ' => (t ρ' k).bind fun q => if q.1 = true then (a ρ' q.2).bind fun r => (clLoop ρ g t a ds r.2).bind fun s => some (r.1 ++ s.1, s.2) else clLoop ρ g t a ds q.2
@[simp] def aOne (e : DE) : DA := fun ρ k => (e ρ k).bind fun r => some ([r.1], r.2)
@[simp] def aCl (src : DL) (vs : List Nat) (g : DG) (t : DT) (a : DA) : DA := fun ρ k => (src ρ k).bind fun p => clLoop (wipeE ρ vs) g t a p.1 p.2
@[simp] def dLcN (a : DA) : DL := fun ρ k => (a ρ k).bind fun r => if r.1.length ≤ 1000000 then some r else none
/-- what stands behind a clause's tests adds out to the list at D -/
def AcD (K : Fr) (m : Option Addr) (D : Addr) (a : DA) (ta : L2.St → Hp → (Hp → Prop) → Prop) : Prop := ∀ (σ : L2.St) (H : Hp) (Nx : Hp → Prop) (F : Hp) (ρ : Ev) (k k' : Int) (acc out : List Dt) (av : List V), Rl K m F ρ k σ H → (∀ i, ¬ Own ρ σ i D) → F D = none → m ≠ some D → H D = some (.lst av) → RpA K m F av acc →
  acc.length + out.length ≤ 1000000 → a ρ k = some (out, k') → (∀ F' H' av', GrowB m D F H F' H' → Ctr m F' H' k' → F' D = none → H' D = some (.lst av') → RpA K m F' av' (acc ++ out) → Nx H') → ta σ H Nx
section
variable {K : Fr} {m : Option Addr} {D : Addr}
theorem acd_one {e : DE} : AcD K m D (aOne e) (fun σ H Nx => tE K m e σ H fun y H7 => ∃ ac, H7 D = some (.lst ac) ∧ ac.length < sizeLine ∧ Nx (upd H7 D (.lst (ac ++ [y])))) := by
  intro σ H Nx F ρ k k' acc out av R hn fD hm hD ra hl ha q
  unfold aOne at ha
  obtain ⟨⟨d, k1⟩, h1, ha⟩ := Option.bind_eq_some_iff.mp ha
  cases ha
  refine ⟨F, ρ, k, d, k1, R, h1, fun v F' H' g c r => ?_⟩
  have fD' := g.f_none fD hD
  refine ⟨av, g.hh D _ hm hD, ?_, q F' _ (av ++ [v]) (g.b.mutD fD') (c.mut hm) fD' upd_same ((ra.mono g.ff).append (.cons r .nil))⟩
  rw [ra.length]
  exact Nat.lt_of_lt_of_le (by simp only [List.length_cons, List.length_nil] at hl; omega) (small_line (Nat.le_refl 1000000))
theorem tail_in {J : It} {ds : List Dt} {vs tch : List Nat} {g : DG} {t : DT} {a : DA} {ta : L2.St → Hp → (Hp → Prop) → Prop} {σ : L2.St} {H : Hp} {Nx : Hp → Prop} {F : Hp} {ρ : Ev} {k k' : Int} {acc out : List Dt} {av : List V} (hv : ∀ j, j ∈ tch → j ∈ vs) (pa : AcD K m D a ta) (fd : Feeds K m J ds F) (R : Rl K m F ρ k σ H)
    (hn : ∀ i, ¬ Own ρ σ i D) (fD : F D = none) (hm : m ≠ some D) (hD : H D = some (.lst av)) (ra : RpA K m F av acc) (hl : acc.length + out.length ≤ 1000000) (hf : clLoop (wipeE ρ vs) g t a ds k = some (out, k'))
    (q : ∀ F' H' av', GrowB m D F H F' H' → Ctr m F' H' k' → F' D = none → H' D = some (.lst av') → RpA K m F' av' (acc ++ out) → Nx H') : clTail (tGd K m tch g) (tT K m t) ta vs σ Nx J H := by
  let W : Nat → Nat → Hp → Prop := fun i n H2 => n + i = ds.length ∧ ∃ F2 k2 acc2 av2 rest, GrowB m D F H F2 H2 ∧ Ctr m F2 H2 k2 ∧ F2 D = none ∧ H2 D = some (.lst av2) ∧ RpA K m F2 av2 acc2 ∧ clLoop (wipeE ρ vs) g t a (ds.drop i) k2 = some (rest, k') ∧ acc2 ++ rest = acc ++ out
  refine ⟨W, ⟨ds.length, by omega, F, k, acc, av, out, .refl R.sub, R.ctr, fD, hD, ra, hf, rfl⟩, fun i n H2 hW => ?_⟩
  obtain ⟨hni, F2, k2, acc2, av2, rest, g2, c2, fD2, hD2, ra2, hl2, ho⟩ := hW
  have hn' : ∀ i, ¬ Own (wipeE ρ vs) (L2.wipe σ vs) i D := fun i z => hn i (own_wipe (vs := vs) z)
  have R2 : Rl K m F2 (wipeE ρ vs) k2 (L2.wipe σ vs) H2 := (R.wipe vs).growB hn' g2 c2
  cases hds : ds[i]? with
  | none =>
    have hi : ds.length ≤ i := List.getElem?_eq_none_iff.mp hds
    have hi2 : i = ds.length := by omega
    subst hi2
    rw [List.drop_length] at hl2
    cases hl2
    rw [List.append_nil] at ho
    subst ho
    exact .inl ⟨(fd.mono g2.ff).stop F2 H2 (Ex.refl _) g2.fh, q F2 H2 av2 g2 c2 fD2 hD2 ra2⟩
  | some d =>
    obtain ⟨hgo, hyl⟩ := (fd.mono g2.ff).go F2 H2 i d k2 (Ex.refl _) g2.fh c2 hds
    have hi : i < ds.length := (List.getElem?_eq_some_iff.mp hds).1
    have ed : ds[i] = d := by
      rw [List.getElem?_eq_getElem hi] at hds
      exact Option.some.inj hds
    rw [List.drop_eq_getElem_cons hi, ed] at hl2
    unfold clLoop at hl2
    obtain ⟨ρ', hg, hl2⟩ := Option.bind_eq_some_iff.mp hl2
    obtain ⟨⟨b, k3⟩, htst, hl2⟩ := Option.bind_eq_some_iff.mp hl2
    refine .inr ⟨hgo, fun H' => W (i + 1) (n - 1) H', fun H' h => ⟨n - 1, by omega, h⟩, fun x H3 hy => ?_⟩
    obtain ⟨F3, g3, c3, rx⟩ := hyl x H3 hy
    have R3 := R2.grow g3 c3
    refine ⟨F3, wipeE ρ vs, k2, d, ρ', R3, rx, hg, fun σ' Rs w1 l1 o1 => ⟨wipe_again hv l1 w1, ?_⟩⟩
    refine ⟨F3, ρ', k2, b, k3, Rs, htst, fun F4 H4 g4 c4 => ?_⟩
    have g34 := g3.trans c3 g4
    have hD4 : H4 D = some (.lst av2) := g34.hh D _ hm hD2
    have fD4 : F4 D = none := g34.f_none fD2 hD2
    have g14 : GrowB m D F H F4 H4 := g2.trans c2 ⟨_, hD2⟩ g34.b
    have ra4 := ra2.mono g34.ff
    cases b with
    | false => exact ⟨by omega, F4, k3, acc2, av2, rest, g14, c4, fD4, hD4, ra4, hl2, ho⟩
    | true =>
      simp only [if_true] at hl2
      obtain ⟨⟨o1', k5⟩, hac, hl2⟩ := Option.bind_eq_some_iff.mp hl2
      obtain ⟨⟨o2, k6⟩, hrest, hl2⟩ := Option.bind_eq_some_iff.mp hl2
      cases hl2
      have hlen : acc2.length + o1'.length ≤ 1000000 := by
        have z := congrArg List.length ho
        simp only [List.length_append] at z
        omega
      refine pa σ' H4 _ F4 ρ' k3 k5 acc2 o1' av2 (Rs.grow g4 c4) (fun i z => hn' i (o1 i D z)) fD4 hm hD4 ra4 hlen hac fun F5 H5 av5 g5 c5 fD5 hD5 ra5 => ?_
      exact ⟨by omega, F5, k5, acc2 ++ o1', av5, o2, g14.trans c4 ⟨_, hD4⟩ g5, c5, fD5, hD5, ra5, hrest, by rw [List.append_assoc]; exact ho⟩
/-- a further clause -/
theorem acd_cl {src : DL} {vs tch : List Nat} {g : DG} {t : DT} {a : DA} {ta : L2.St → Hp → (Hp → Prop) → Prop} (hv : ∀ j, j ∈ tch → j ∈ vs) (pa : AcD K m D a ta) : AcD K m D (aCl src vs g t a) (fun σ H Nx => tIS K m src σ H (clTail (tGd K m tch g) (tT K m t) ta vs σ Nx)) := by
  intro σ H Nx F ρ k k' acc out av R hn fD hm hD ra hl hf q
  unfold aCl at hf
  obtain ⟨⟨ds, k1⟩, h1, hf⟩ := Option.bind_eq_some_iff.mp hf
  refine ⟨F, ρ, k, ds, k1, R, h1, fun J F1 H1 g1 c1 fd => ?_⟩
  have hD1 := g1.hh D _ hm hD
  refine tail_in hv pa fd (R.grow g1 c1) hn (g1.f_none fD hD) hm hD1 (ra.mono g1.ff) hl hf fun F' H' av' g' c' fD' hD' ra' => ?_
  exact q F' H' av' (g1.b.trans c1 ⟨_, hD1⟩ g') c' fD' hD' ra'
theorem lcN_in {src : DL} {vs tch : List Nat} {g : DG} {t : DT} {a : DA} {ta : Addr → L2.St → Hp → (Hp → Prop) → Prop} {σ : L2.St} {H : Hp} {Q : VK} (hv : ∀ j, j ∈ tch → j ∈ vs) (pa : ∀ D, AcD K m D a (ta D)) (w : tL K m (dLcN (aCl src vs g t a)) σ H Q) : tLcN (tIS K m src) (tGd K m tch g) (tT K m t) ta vs σ H Q := by
  obtain ⟨F, ρ, k, out, k', R, hf, q⟩ := w
  unfold dLcN at hf
  obtain ⟨⟨o, k0⟩, h0, hf⟩ := Option.bind_eq_some_iff.mp hf
  replace hf : (if o.length ≤ 1000000 then some (o, k0) else none) = some (out, k') := hf
  split at hf
  · rename_i hlen
    cases hf
    unfold aCl at h0
    obtain ⟨⟨ds, k1⟩, h1, h0⟩ := Option.bind_eq_some_iff.mp h0
    refine ⟨F, ρ, k, ds, k1, R, h1, fun J F1 H1 g1 c1 fd D hD => ?_⟩
    have hm : m ≠ some D := c1.ne hD
    have gD : Grow m F1 H1 F1 (upd H1 D (.lst [])) := Grow.laid g1.fh hD
    have cD := c1.laid (o := .lst []) hD
    have R1 := (R.grow g1 c1).grow gD cD
    have hn : ∀ i, ¬ Own ρ σ i D := fun i z => z.known (R.grow g1 c1) hD
    refine tail_in hv (pa D) (fd.mono (Ex.refl _)) R1 hn (ex_none g1.fh hD) hm upd_same .nil (by simpa using hlen) h0 fun F' H' av' g' c' fD' hD' ra' => ?_
    have gf : Grow m F1 H1 F' H' := ⟨g'.ff, g'.fh, fun b z => by
      by_cases e : b = D
      · subst e
        exact .inr (.inl hD)
      · rcases g'.nw b z with z1 | z1 | ⟨xs, z1⟩
        · exact .inl z1
        · rw [upd_ne e] at z1
          exact .inr (.inl z1)
        · rw [upd_ne e] at z1
          exact .inr (.inr ⟨xs, z1⟩), fun b o e z => g'.hh b o e (ne_of_none z hD) (by rw [upd_ne (ne_of_none z hD)]; exact z)⟩
    exact q D av' F' H' (g1.trans c1 gf) c' (g1.back c1 hD) fD' hD' (by simpa using ra')
  · cases hf
end
end Dn

set_option Elab.async false
set_option linter.all false
set_option maxRecDepth 100000
set_option maxHeartbeats 2000000
/-! comprehensions of two and of three clauses -/
namespace Dn
open PySem PySem.Spec PyProof.Rows L2 Evl

/-- one clause's turn leads to a further clause's start -/
def innerAct (E : Expr) (i : Nat) (src : Expr) (acc : Value) (env : Env) (k : Sem PySem.Fin) : Sem PySem.Fin := do
  let x ← eval src env
  standAt src.pos
  let x ← foldedSetIterable src env x
  let _ ← runOwn (.compStart E i (← holding [x] (pyIter x)) acc env) env
  k
def lastAct (elt : Expr) (acc : Value) (env : Env) (k : Sem PySem.Fin) : Sem PySem.Fin := do
  let _ ← (do let _ ← call (.builtin "list.append") [acc, ← eval elt env])
  k
section
variable {elt t0 i0 t1 i1 t2 i2 : Expr} {f0 f1 f2 : List Expr} {scope : Scope} {pos : Pos} {acc : Value} {env : Env}
theorem turn20 : TurnIs (.ListComp elt [⟨t0, i0, f0, 0⟩, ⟨t1, i1, f1, 0⟩] scope pos) 0 t0 i0 f0 acc env (innerAct (.ListComp elt [⟨t0, i0, f0, 0⟩, ⟨t1, i1, f1, 0⟩] scope pos) 1 i1 acc env) := fun _ => rfl
theorem turn21 : TurnIs (.ListComp elt [⟨t0, i0, f0, 0⟩, ⟨t1, i1, f1, 0⟩] scope pos) 1 t1 i1 f1 acc env (lastAct elt acc env) := fun _ => rfl
theorem turn30 : TurnIs (.ListComp elt [⟨t0, i0, f0, 0⟩, ⟨t1, i1, f1, 0⟩, ⟨t2, i2, f2, 0⟩] scope pos) 0 t0 i0 f0 acc env (innerAct (.ListComp elt [⟨t0, i0, f0, 0⟩, ⟨t1, i1, f1, 0⟩, ⟨t2, i2, f2, 0⟩] scope pos) 1 i1 acc env) := fun _ => rfl
theorem turn31 : TurnIs (.ListComp elt [⟨t0, i0, f0, 0⟩, ⟨t1, i1, f1, 0⟩, ⟨t2, i2, f2, 0⟩] scope pos) 1 t1 i1 f1 acc env (innerAct (.ListComp elt [⟨t0, i0, f0, 0⟩, ⟨t1, i1, f1, 0⟩, ⟨t2, i2, f2, 0⟩] scope pos) 2 i2 acc env) := fun _ => rfl
theorem turn32 : TurnIs (.ListComp elt [⟨t0, i0, f0, 0⟩, ⟨t1, i1, f1, 0⟩, ⟨t2, i2, f2, 0⟩] scope pos) 2 t2 i2 f2 acc env (lastAct elt acc env) := fun _ => rfl
end
/-- what a turn does, run in the block and computed -/
def AcX (X : Cx) (m : Option Addr) (scope : Scope) (vs : List Nat) (act : Value → Env → Sem PySem.Fin → Sem PySem.Fin) (a : DA) : Prop := ∃ ta : Addr → L2.St → Hp → (Hp → Prop) → Prop,
  (∀ (D : Addr) (s : Shared) (H : Hp) (C : Addr) (cl : List (Str × Addr)) (fp : List Addr), ActR (X.blk s H scope (compEnvC scope cl C X.env) fp) (act (.ref D) (compEnvC scope cl C X.env)) (ta D) vs) ∧ ∀ D, AcD X.fr m D a (ta D)
section
variable {X : Cx} {m : Option Addr} {elt tg src : Expr} {gens : List Comprehension} {ifs : List Expr} {scope : Scope} {pos : Pos} {vs vs1 tch : List Nat} {i : Nat} {act : Value → Env → Sem PySem.Fin → Sem PySem.Fin} {a : DA} {e : DE} {f : DL} {g : DG} {t : DT}
theorem acx_one (he : ∀ (s : Shared) (H : Hp) (C : Addr) (cl : List (Str × Addr)) (fp : List Addr), PE (X.blk s H scope (compEnvC scope cl C X.env) fp) elt (tE X.fr m e)) : AcX X m scope vs (lastAct elt) (aOne e) :=
  ⟨_, fun D s H C cl fp => act_append (X := X.blk s H scope (compEnvC scope cl C X.env) fp) rfl (he s H C cl fp), fun D => acd_one⟩
theorem acx_cl (hc : X.calm = true) (hq : ((clausesOf (.ListComp elt gens scope pos))[i]?).elim false (fun g => g.is_async != 0) = false) (hs : ∀ env x, foldedSetIterable src env x = pure x) (ht : ∀ acc env, TurnIs (.ListComp elt gens scope pos) i tg src ifs acc env (act acc env))
    (hi : ∀ (s : Shared) (H : Hp) (C : Addr) (cl : List (Str × Addr)) (fp : List Addr), PI (X.blk s H scope (compEnvC scope cl C X.env) fp) tg src (tIS X.fr m f)) (hg : ∀ (s : Shared) (H : Hp) (C : Addr) (cl : List (Str × Addr)) (fp : List Addr), PG (X.blk s H scope (compEnvC scope cl C X.env) fp) tg (tGd X.fr m tch g))
    (hp : ∀ (s : Shared) (H : Hp) (C : Addr) (cl : List (Str × Addr)) (fp : List Addr), PTs (X.blk s H scope (compEnvC scope cl C X.env) fp) ifs (tT X.fr m t)) (h : AcX X m scope vs1 act a) (h1 : ∀ j, j ∈ tch → j ∈ vs1) (hv : ∀ j, j ∈ vs1 → j ∈ vs) :
    AcX X m scope vs (innerAct (.ListComp elt gens scope pos) i src) (aCl f vs1 g t a) := by
  obtain ⟨ta, ha, hd⟩ := h
  exact ⟨_, fun D s H C cl fp => act_clause (X := X.blk s H scope (compEnvC scope cl C X.env) fp) hc rfl hq (hs _) (ht _ _) (hi s H C cl fp) (hg s H C cl fp) (hp s H C cl fp) (ha D s H C cl fp) hv, fun D => acd_cl h1 (hd D)⟩
theorem l_lcN {rest : List Comprehension} {own : List (Str × Nat)} (hc : X.calm = true) (hN : X.N.Nodup) (ok : blkC X.N X.env.scope scope own = true) (ht0 : ∀ j, j ∈ tch → j ∈ own.map (·.2)) (hi : PI X tg src (tIS X.fr m f)) (ht : ∀ acc env, TurnIs (.ListComp elt (⟨tg, src, ifs, 0⟩ :: rest) scope pos) 0 tg src ifs acc env (act acc env))
    (hg : ∀ (s : Shared) (H : Hp) (C : Addr) (cl : List (Str × Addr)) (fp : List Addr), PG (X.blk s H scope (compEnvC scope cl C X.env) fp) tg (tGd X.fr m tch g)) (hp : ∀ (s : Shared) (H : Hp) (C : Addr) (cl : List (Str × Addr)) (fp : List Addr), PTs (X.blk s H scope (compEnvC scope cl C X.env) fp) ifs (tT X.fr m t))
    (h : AcX X m scope (own.map (·.2)) act a) (hs : ∀ x, foldedSetIterable src X.env x = pure x) : PE X (.ListComp elt (⟨tg, src, ifs, 0⟩ :: rest) scope pos) (tL X.fr m (dLcN (aCl f (own.map (·.2)) g t a))) := by
  obtain ⟨ta, ha, hd⟩ := h
  exact impPE (pe_lcN hc hN hi (blkOk_by ok) hs ht hg hp ha) fun _ _ _ w => lcN_in ht0 hd w
end
section
variable {X : Cx} {m : Option Addr} {elt t0 i0 t1 i1 t2 i2 : Expr} {c0 c1 c2 : List Expr} {scope : Scope} {pos : Pos} {own : List (Str × Nat)} {vs1 vs2 ch0 ch1 ch2 : List Nat} {e : DE} {f0 f1 f2 : DL} {g0 g1 g2 : DG} {d0 d1 d2 : DT}
theorem l_lc2 (hc : X.calm = true) (hN : X.N.Nodup) (ok : blkC X.N X.env.scope scope own = true) (s0 : ∀ j, j ∈ ch0 → j ∈ own.map (·.2)) (s1 : ∀ j, j ∈ ch1 → j ∈ vs1) (s01 : ∀ j, j ∈ vs1 → j ∈ own.map (·.2)) (hi0 : PI X t0 i0 (tIS X.fr m f0))
    (hg0 : ∀ (s : Shared) (H : Hp) (C : Addr) (cl : List (Str × Addr)) (fp : List Addr), PG (X.blk s H scope (compEnvC scope cl C X.env) fp) t0 (tGd X.fr m ch0 g0)) (ht0 : ∀ (s : Shared) (H : Hp) (C : Addr) (cl : List (Str × Addr)) (fp : List Addr), PTs (X.blk s H scope (compEnvC scope cl C X.env) fp) c0 (tT X.fr m d0))
    (hi1 : ∀ (s : Shared) (H : Hp) (C : Addr) (cl : List (Str × Addr)) (fp : List Addr), PI (X.blk s H scope (compEnvC scope cl C X.env) fp) t1 i1 (tIS X.fr m f1)) (hg1 : ∀ (s : Shared) (H : Hp) (C : Addr) (cl : List (Str × Addr)) (fp : List Addr), PG (X.blk s H scope (compEnvC scope cl C X.env) fp) t1 (tGd X.fr m ch1 g1))
    (ht1 : ∀ (s : Shared) (H : Hp) (C : Addr) (cl : List (Str × Addr)) (fp : List Addr), PTs (X.blk s H scope (compEnvC scope cl C X.env) fp) c1 (tT X.fr m d1)) (he : ∀ (s : Shared) (H : Hp) (C : Addr) (cl : List (Str × Addr)) (fp : List Addr), PE (X.blk s H scope (compEnvC scope cl C X.env) fp) elt (tE X.fr m e))
    (hs0 : ∀ x, foldedSetIterable i0 X.env x = pure x := by intro _; rfl) (hs1 : ∀ env x, foldedSetIterable i1 env x = pure x := by intro _ _; rfl) :
    PE X (.ListComp elt [⟨t0, i0, c0, 0⟩, ⟨t1, i1, c1, 0⟩] scope pos) (tL X.fr m (dLcN (aCl f0 (own.map (·.2)) g0 d0 (aCl f1 vs1 g1 d1 (aOne e))))) :=
  l_lcN hc hN ok s0 hi0 (fun _ _ => turn20) hg0 ht0 (acx_cl hc rfl hs1 (fun _ _ => turn21) hi1 hg1 ht1 (acx_one he) s1 s01) hs0
theorem l_lc3 (hc : X.calm = true) (hN : X.N.Nodup) (ok : blkC X.N X.env.scope scope own = true) (s0 : ∀ j, j ∈ ch0 → j ∈ own.map (·.2)) (s1 : ∀ j, j ∈ ch1 → j ∈ vs1) (s01 : ∀ j, j ∈ vs1 → j ∈ own.map (·.2)) (s2 : ∀ j, j ∈ ch2 → j ∈ vs2) (s12 : ∀ j, j ∈ vs2 → j ∈ vs1) (hi0 : PI X t0 i0 (tIS X.fr m f0))
    (hg0 : ∀ (s : Shared) (H : Hp) (C : Addr) (cl : List (Str × Addr)) (fp : List Addr), PG (X.blk s H scope (compEnvC scope cl C X.env) fp) t0 (tGd X.fr m ch0 g0)) (ht0 : ∀ (s : Shared) (H : Hp) (C : Addr) (cl : List (Str × Addr)) (fp : List Addr), PTs (X.blk s H scope (compEnvC scope cl C X.env) fp) c0 (tT X.fr m d0))
    (hi1 : ∀ (s : Shared) (H : Hp) (C : Addr) (cl : List (Str × Addr)) (fp : List Addr), PI (X.blk s H scope (compEnvC scope cl C X.env) fp) t1 i1 (tIS X.fr m f1)) (hg1 : ∀ (s : Shared) (H : Hp) (C : Addr) (cl : List (Str × Addr)) (fp : List Addr), PG (X.blk s H scope (compEnvC scope cl C X.env) fp) t1 (tGd X.fr m ch1 g1))
    (ht1 : ∀ (s : Shared) (H : Hp) (C : Addr) (cl : List (Str × Addr)) (fp : List Addr), PTs (X.blk s H scope (compEnvC scope cl C X.env) fp) c1 (tT X.fr m d1))
    (hi2 : ∀ (s : Shared) (H : Hp) (C : Addr) (cl : List (Str × Addr)) (fp : List Addr), PI (X.blk s H scope (compEnvC scope cl C X.env) fp) t2 i2 (tIS X.fr m f2)) (hg2 : ∀ (s : Shared) (H : Hp) (C : Addr) (cl : List (Str × Addr)) (fp : List Addr), PG (X.blk s H scope (compEnvC scope cl C X.env) fp) t2 (tGd X.fr m ch2 g2))
    (ht2 : ∀ (s : Shared) (H : Hp) (C : Addr) (cl : List (Str × Addr)) (fp : List Addr), PTs (X.blk s H scope (compEnvC scope cl C X.env) fp) c2 (tT X.fr m d2)) (he : ∀ (s : Shared) (H : Hp) (C : Addr) (cl : List (Str × Addr)) (fp : List Addr), PE (X.blk s H scope (compEnvC scope cl C X.env) fp) elt (tE X.fr m e))
    (hs0 : ∀ x, foldedSetIterable i0 X.env x = pure x := by intro _; rfl) (hs1 : ∀ env x, foldedSetIterable i1 env x = pure x := by intro _ _; rfl) (hs2 : ∀ env x, foldedSetIterable i2 env x = pure x := by intro _ _; rfl) :
    PE X (.ListComp elt [⟨t0, i0, c0, 0⟩, ⟨t1, i1, c1, 0⟩, ⟨t2, i2, c2, 0⟩] scope pos) (tL X.fr m (dLcN (aCl f0 (own.map (·.2)) g0 d0 (aCl f1 vs1 g1 d1 (aCl f2 vs2 g2 d2 (aOne e)))))) :=
  l_lcN hc hN ok s0 hi0 (fun _ _ => turn30) hg0 ht0 (acx_cl hc rfl hs1 (fun _ _ => turn31) hi1 hg1 ht1 (acx_cl hc rfl hs2 (fun _ _ => turn32) hi2 hg2 ht2 (acx_one he) s2 s12) s1 s01) hs0
end
end Dn

set_option Elab.async false
set_option linter.all false
set_option maxRecDepth 100000
set_option maxHeartbeats 2000000
/-! two lists in a list, filled by turns, handed back -/
namespace Dn
open PySem PySem.Spec PyProof.Rows L2 Evl

section
variable {K : Fr} {m : Option Addr} {F0 H0 F H : Hp} {ρ : Ev} {k : Int} {σ : L2.St}
/-- a thing that is known to nobody but us is changed -/
theorem Rl.aside (R : Rl K m F ρ k σ H) {q : Addr} {o : HO} (fq : F q = none) (hm : m ≠ some q) (hn : ∀ j, ¬ Own ρ σ j q) : Rl K m F ρ k σ (upd H q o) where
  sub := fun a u h => by
    rw [upd_ne (ne_of_none h fq)]
    exact R.sub a u h
  ctr := R.ctr.mut hm
  len := R.len
  sh := R.sh
  ow := fun j c h hc => by
    obtain ⟨p, o', e, f, n, h', r⟩ := R.ow j c h hc
    refine ⟨p, o', e, f, n, ?_, r⟩
    rw [upd_ne fun z => hn j ⟨c, h, hc, by rw [← z]; exact e⟩]
    exact h'
  sep := R.sep
theorem Rs.aside (R : Rs K m F0 H0 F ρ k σ H) {q : Addr} {o : HO} (fq : F q = none) (hm : m ≠ some q) (hn : ∀ j, ¬ Own ρ σ j q) (h0 : H0 q = none) : Rs K m F0 H0 F ρ k σ (upd H q o) := ⟨R.rl.aside fq hm hn, R.gr.mut h0 fq, R.own⟩
theorem Rs.set_sh (R : Rs K m F0 H0 F ρ k σ H) {i : Nat} {d : Dt} {v : V} (r : Rp K m F v d) : Rs K m F0 H0 F (ρ.set i (.sh d)) k (σ.set i (some v)) H := ⟨R.rl.set_sh r, R.gr, fun j p h => R.own j p (own_set_sh h).1⟩
end
def twoLoop (jm jo : Nat) (t : DT) (fm fi fa fo : DE) : Nat → Ev → Int → List Dt → List Dt → Option (List Dt × List Dt × Int)
  | 0, _, _, _, _ => none
  | n + 1, ρ, k, l0, l1 => (t ρ k).bind fun b => if b.1 = true then (fm ρ b.2).bind fun v => (fi (ρ.set jm (.sh v.1)) v.2).bind fun x => (fa (ρ.set jm (.sh v.1)) x.2).bind fun a => (fo (ρ.set jm (.sh v.1)) a.2).bind fun o =>
      if l0.length < 1000000 ∧ l1.length < 1000000 then match x.1 with
        | .int 0 => twoLoop jm jo t fm fi fa fo n ((ρ.set jm (.sh v.1)).set jo (.sh o.1)) o.2 (l0 ++ [a.1]) l1
        | .int 1 => twoLoop jm jo t fm fi fa fo n ((ρ.set jm (.sh v.1)).set jo (.sh o.1)) o.2 l0 (l1 ++ [a.1])
        | _ => none
      else none
    else some (l0, l1, b.2)
@[simp] def sTwo (n i jm jo : Nat) (t : DT) (fm fi fa fo : DE) : DS := fun ρ k => if i < ρ.length then (twoLoop jm jo t fm fi fa fo n (ρ.set i .un) k [] []).bind fun r => some (.retL [.list r.1, .list r.2.1] r.2.2) else none
/-- what stands in the loop -/
structure TwoI (K : Fr) (m : Option Addr) (F0 H0 : Hp) (i : Nat) (p q0 q1 : Addr) (F : Hp) (ρ : Ev) (k : Int) (σ : L2.St) (H : Hp) (l0 l1 : List Dt) : Prop where
  rs : Rs K m F0 H0 F ρ k σ H
  si : σ[i]? = some (some (.ref p))
  np : ∀ j, ¬ Own ρ σ j p
  n0 : ∀ j, ¬ Own ρ σ j q0
  n1 : ∀ j, ¬ Own ρ σ j q1
  fp : F p = none
  f0 : F q0 = none
  f1 : F q1 = none
  hp : H p = some (.lst [.ref q0, .ref q1])
  h0 : ∃ vs, H q0 = some (.lst vs) ∧ RpA K m F vs l0
  h1 : ∃ vs, H q1 = some (.lst vs) ∧ RpA K m F vs l1
section
variable {K : Fr} {m : Option Addr} {F0 H0 : Hp} {i : Nat} {p q0 q1 : Addr} {F H F1 H1 : Hp} {ρ : Ev} {k k1 : Int} {σ : L2.St} {l0 l1 : List Dt}
theorem TwoI.grow (T : TwoI K m F0 H0 i p q0 q1 F ρ k σ H l0 l1) (mp : m ≠ some p) (m0 : m ≠ some q0) (m1 : m ≠ some q1) (g : Grow m F H F1 H1) (c : Ctr m F1 H1 k1) : TwoI K m F0 H0 i p q0 q1 F1 ρ k1 σ H1 l0 l1 where
  rs := T.rs.grow g c
  si := T.si
  np := T.np
  n0 := T.n0
  n1 := T.n1
  fp := g.f_none T.fp T.hp
  f0 := T.h0.elim fun _ z => g.f_none T.f0 z.1
  f1 := T.h1.elim fun _ z => g.f_none T.f1 z.1
  hp := g.hh p _ mp T.hp
  h0 := T.h0.elim fun vs z => ⟨vs, g.hh q0 _ m0 z.1, z.2.mono g.ff⟩
  h1 := T.h1.elim fun vs z => ⟨vs, g.hh q1 _ m1 z.1, z.2.mono g.ff⟩
theorem TwoI.set (T : TwoI K m F0 H0 i p q0 q1 F ρ k σ H l0 l1) {j : Nat} (hj : j ≠ i) {d : Dt} {v : V} (r : Rp K m F v d) : TwoI K m F0 H0 i p q0 q1 F (ρ.set j (.sh d)) k (σ.set j (some v)) H l0 l1 where
  rs := T.rs.set_sh r
  si := by
    rw [List.getElem?_set_ne hj]
    exact T.si
  np := fun a z => T.np a (own_set_sh z).1
  n0 := fun a z => T.n0 a (own_set_sh z).1
  n1 := fun a z => T.n1 a (own_set_sh z).1
  fp := T.fp
  f0 := T.f0
  f1 := T.f1
  hp := T.hp
  h0 := T.h0
  h1 := T.h1
theorem TwoI.add0 (T : TwoI K m F0 H0 i p q0 q1 F ρ k σ H l0 l1) (m0 : m ≠ some q0) (z0 : H0 q0 = none) (e : q0 ≠ q1) (e' : p ≠ q0) {v : V} {d : Dt} {vs : List V} (h : H q0 = some (.lst vs)) (r : Rp K m F v d) : TwoI K m F0 H0 i p q0 q1 F ρ k σ (upd H q0 (.lst (vs ++ [v]))) (l0 ++ [d]) l1 where
  rs := T.rs.aside T.f0 m0 T.n0 z0
  si := T.si
  np := T.np
  n0 := T.n0
  n1 := T.n1
  fp := T.fp
  f0 := T.f0
  f1 := T.f1
  hp := by
    rw [upd_ne e']
    exact T.hp
  h0 := by
    obtain ⟨ws, a, b⟩ := T.h0
    rw [h] at a
    cases a
    exact ⟨_, upd_same, b.append (.cons r .nil)⟩
  h1 := by
    obtain ⟨ws, a, b⟩ := T.h1
    refine ⟨ws, ?_, b⟩
    rw [upd_ne e.symm]
    exact a
theorem TwoI.add1 (T : TwoI K m F0 H0 i p q0 q1 F ρ k σ H l0 l1) (m1 : m ≠ some q1) (z1 : H0 q1 = none) (e : q0 ≠ q1) (e' : p ≠ q1) {v : V} {d : Dt} {vs : List V} (h : H q1 = some (.lst vs)) (r : Rp K m F v d) : TwoI K m F0 H0 i p q0 q1 F ρ k σ (upd H q1 (.lst (vs ++ [v]))) l0 (l1 ++ [d]) where
  rs := T.rs.aside T.f1 m1 T.n1 z1
  si := T.si
  np := T.np
  n0 := T.n0
  n1 := T.n1
  fp := T.fp
  f0 := T.f0
  f1 := T.f1
  hp := by
    rw [upd_ne e']
    exact T.hp
  h1 := by
    obtain ⟨ws, a, b⟩ := T.h1
    rw [h] at a
    cases a
    exact ⟨_, upd_same, b.append (.cons r .nil)⟩
  h0 := by
    obtain ⟨ws, a, b⟩ := T.h0
    refine ⟨ws, ?_, b⟩
    rw [upd_ne e]
    exact a
end
theorem two_in {X : Cx} {m : Option Addr} {F0 H0 : Hp} {W : WE} {n i jm jo : Nat} {t : DT} {fm fi fa fo : DE} (hij : jm ≠ i) (hij2 : jo ≠ i) {ta : TA} (hta : ∀ σ H (Q : List V → Hp → Prop), tAr X.fr m (aCons fa aNil) σ H Q → ta σ H Q) {D : Ends} {σ : L2.St} {H : Hp} (w : tS X.fr m F0 H0 W (sTwo n i jm jo t fm fi fa fo) D σ H) :
    tSeq (tAsg (tLst (tCons (tLst tNil) (tCons (tLst tNil) tNil))) (gName i)) (tSeq (tWhile (tT X.fr m t) (tSeq (tAsg (tE X.fr m fm) (gName jm)) (tSeq (tDrop (tBM X.K "list" rAppend (tOp (rIxL X.K) (tVar i) (tE X.fr m fi)) ta)) (tAsg (tE X.fr m fo) (gName jo))))) (tRet (tVar i))) D σ H := by
  obtain ⟨F, ρ, k, out, R, hf, q⟩ := w
  unfold sTwo at hf
  split at hf
  case isFalse => cases hf
  rename_i hi
  rw [R.rl.len] at hi
  obtain ⟨⟨r0, r1, kr⟩, hl, hf⟩ := Option.bind_eq_some_iff.mp hf
  cases hf
  refine ⟨by decide, fun q0 hq0 => ?_⟩
  refine ⟨by decide, fun q1 hq1 => ?_⟩
  refine ⟨small_line (by show 2 ≤ 1000000; decide), fun p hp => ?_⟩
  have e01 : q1 ≠ q0 := fun z => by
    rw [z, upd_same] at hq1
    cases hq1
  have ep1 : p ≠ q1 := fun z => by
    rw [z, upd_same] at hp
    cases hp
  have ep0 : p ≠ q0 := fun z => by
    rw [z, upd_ne e01.symm, upd_same] at hp
    cases hp
  have h1n : H q1 = none := by
    rw [upd_ne e01] at hq1
    exact hq1
  have hpn : H p = none := by
    rw [upd_ne ep1, upd_ne ep0] at hp
    exact hp
  have mq0 := R.rl.ctr.ne hq0
  have mq1 := R.rl.ctr.ne h1n
  have mp := R.rl.ctr.ne hpn
  have g1 : Grow m F H F (upd H q0 (.lst [])) := Grow.laid R.rl.sub hq0
  have c1 := R.rl.ctr.laid (o := .lst []) hq0
  have g2 : Grow m F (upd H q0 (.lst [])) F (upd (upd H q0 (.lst [])) q1 (.lst [])) := Grow.laid g1.fh hq1
  have c2 := c1.laid (o := .lst []) hq1
  have g3 : Grow m F (upd (upd H q0 (.lst [])) q1 (.lst [])) F (upd (upd (upd H q0 (.lst [])) q1 (.lst [])) p (.lst [.ref q0, .ref q1])) := Grow.laid g2.fh hp
  have c3 := c2.laid (o := .lst [.ref q0, .ref q1]) hp
  have R3 := ((R.grow g1 c1).grow g2 c2).grow g3 c3
  have kn : ∀ {a : Addr}, H a = none → ∀ j, ¬ Own (ρ.set i .un) (σ.set i (some (V.ref p))) j a := fun {a} h j z => (own_set_un z).known R.rl h
  have T0 : TwoI X.fr m F0 H0 i p q0 q1 F (ρ.set i .un) k (σ.set i (some (V.ref p))) (upd (upd (upd H q0 (.lst [])) q1 (.lst [])) p (.lst [.ref q0, .ref q1])) [] [] := {
    rs := ⟨R3.rl.set_un, R3.gr, fun j a z => R3.own j a (own_set_un z)⟩
    si := List.getElem?_set_self hi
    np := kn hpn
    n0 := kn hq0
    n1 := kn h1n
    fp := ex_none R.rl.sub hpn
    f0 := ex_none R.rl.sub hq0
    f1 := ex_none R.rl.sub h1n
    hp := upd_same
    h0 := ⟨[], by rw [upd_ne ep0.symm, upd_ne e01.symm, upd_same], .nil⟩
    h1 := ⟨[], by rw [upd_ne ep1.symm, upd_same], .nil⟩ }
  have z0 : H0 q0 = none := R.fresh hq0
  have z1 : H0 q1 = none := R.fresh h1n
  have zp : H0 p = none := R.fresh hpn
  refine ⟨fun j σ2 H2 => ∃ F2 ρ2 k2 l0 l1, TwoI X.fr m F0 H0 i p q0 q1 F2 ρ2 k2 σ2 H2 l0 l1 ∧ twoLoop jm jo t fm fi fa fo j ρ2 k2 l0 l1 = some (r0, r1, kr), ⟨n, F, _, k, [], [], T0, hl⟩, fun j σ2 H2 hW => ?_⟩
  obtain ⟨F2, ρ2, k2, l0, l1, T, hl⟩ := hW
  cases j with
  | zero => cases hl
  | succ j =>
    unfold twoLoop at hl
    obtain ⟨⟨b, k3⟩, hb, hl⟩ := Option.bind_eq_some_iff.mp hl
    refine ⟨F2, ρ2, k2, b, k3, T.rs.rl, hb, fun F3 H3 g3 c3 => ?_⟩
    have T3 := T.grow mp mq0 mq1 g3 c3
    cases b with
    | false =>
      cases hl
      obtain ⟨v0, a0, b0⟩ := T3.h0
      obtain ⟨v1, a1, b1⟩ := T3.h1
      refine ⟨_, T3.si, ?_⟩
      have gf := (T3.rs.gr.freeze z0 a0).freeze z1 a1
      have cf : Ctr m (upd (upd F3 q0 (.lst v0)) q1 (.lst v1)) H3 k3 := (T3.rs.rl.ctr.freeze mq0).freeze mq1
      have x0 : Ex F3 (upd F3 q0 (.lst v0)) := ex_freeze T3.f0
      have f1' : upd F3 q0 (.lst v0) q1 = none := by
        rw [upd_ne e01]
        exact T3.f1
      have x1 : Ex (upd F3 q0 (.lst v0)) (upd (upd F3 q0 (.lst v0)) q1 (.lst v1)) := ex_freeze f1'
      refine q p _ _ H3 gf cf zp (by rw [upd_ne ep1, upd_ne ep0]; exact T3.fp) T3.hp ?_
      exact .cons (.lst (.inl (.inl (x1 _ _ upd_same))) (b0.mono (x0.trans x1))) (.cons (.lst (.inl (.inl upd_same)) (b1.mono (x0.trans x1))) .nil)
    | true =>
      replace hl := hl
      obtain ⟨⟨v, k4⟩, hv, hl⟩ := Option.bind_eq_some_iff.mp (show (fm ρ2 k3).bind _ = some (r0, r1, kr) from hl)
      obtain ⟨⟨x, k5⟩, hx, hl⟩ := Option.bind_eq_some_iff.mp hl
      obtain ⟨⟨a, k6⟩, hav, hl⟩ := Option.bind_eq_some_iff.mp hl
      obtain ⟨⟨o, k7⟩, ho, hl⟩ := Option.bind_eq_some_iff.mp hl
      replace hl : (if l0.length < 1000000 ∧ l1.length < 1000000 then match x with
        | .int 0 => twoLoop jm jo t fm fi fa fo j ((ρ2.set jm (.sh v)).set jo (.sh o)) k7 (l0 ++ [a]) l1
        | .int 1 => twoLoop jm jo t fm fi fa fo j ((ρ2.set jm (.sh v)).set jo (.sh o)) k7 l0 (l1 ++ [a])
        | _ => none else none) = some (r0, r1, kr) := hl
      split at hl
      case isFalse => cases hl
      rename_i hlen
      refine ⟨fun σ' H' => ∃ F2 ρ2 k2 l0 l1, TwoI X.fr m F0 H0 i p q0 q1 F2 ρ2 k2 σ' H' l0 l1 ∧ twoLoop jm jo t fm fi fa fo j ρ2 k2 l0 l1 = some (r0, r1, kr), fun σ' H' z => ⟨j, Nat.lt_succ_self j, z⟩, ?_⟩
      refine ⟨F3, ρ2, k3, v, k4, T3.rs.rl, hv, fun vv F4 H4 g4 c4 r4 => ?_⟩
      have T4 := (T3.grow mp mq0 mq1 g4 c4).set hij r4
      refine ⟨_, T4.si, F4, _, k4, x, k5, T4.rs.rl, hx, fun vx F5 H5 g5 c5 r5 => ?_⟩
      have T5 := T4.grow mp mq0 mq1 g5 c5
      have last : ∀ {H6 : Hp} {F6 : Hp} {l0' l1' : List Dt}, TwoI X.fr m F0 H0 i p q0 q1 F6 (ρ2.set jm (.sh v)) k6 (σ2.set jm (some vv)) H6 l0' l1' → twoLoop jm jo t fm fi fa fo j ((ρ2.set jm (.sh v)).set jo (.sh o)) k7 l0' l1' = some (r0, r1, kr) →
          tAsg (tE X.fr m fo) (gName jo) { D with nx := fun σ' H' => ∃ F2 ρ2 k2 l0 l1, TwoI X.fr m F0 H0 i p q0 q1 F2 ρ2 k2 σ' H' l0 l1 ∧ twoLoop jm jo t fm fi fa fo j ρ2 k2 l0 l1 = some (r0, r1, kr), ct := fun σ' H' => ∃ F2 ρ2 k2 l0 l1, TwoI X.fr m F0 H0 i p q0 q1 F2 ρ2 k2 σ' H' l0 l1 ∧ twoLoop jm jo t fm fi fa fo j ρ2 k2 l0 l1 = some (r0, r1, kr), bk := tRet (tVar i) D } (σ2.set jm (some vv)) H6 := fun {H6 F6 l0' l1'} T6 hl6 => by
        refine ⟨F6, _, k6, o, k7, T6.rs.rl, ho, fun vo F7 H7 g7 c7 r7 => ?_⟩
        exact ⟨F7, _, k7, l0', l1', (T6.grow mp mq0 mq1 g7 c7).set hij2 r7, hl6⟩
      have lsq : SqL X.K H5 p [.ref q0, .ref q1] := .inl (.inl T5.hp)
      split at hl
      · cases r5
        obtain ⟨v0, a0, b0⟩ := T5.h0
        refine ⟨p, [.ref q0, .ref q1], 0, .ref q0, rfl, rfl, lsq, rfl, Or.inl ⟨rfl, _, .inl (.inl a0)⟩, hta _ _ _ ⟨F5, _, k5, [a], k6, T5.rs.rl, by rw [aCons, hav]; rfl, fun vs F6 H6 g6 c6 ra => ?_⟩⟩
        have T6 := T5.grow mp mq0 mq1 g6 c6
        cases ra with
        | cons rA rn =>
          cases rn
          refine ⟨q0, v0, _, rfl, rfl, g6.hh q0 _ mq0 a0, ?_, ?_⟩
          · rw [b0.length]
            exact Nat.lt_of_lt_of_le hlen.1 (small_line (Nat.le_refl _))
          · exact last (T6.add0 mq0 z0 e01.symm ep0 (g6.hh q0 _ mq0 a0) rA) hl
      · cases r5
        obtain ⟨v1, a1, b1⟩ := T5.h1
        refine ⟨p, [.ref q0, .ref q1], 1, .ref q1, rfl, rfl, lsq, rfl, Or.inl ⟨rfl, _, .inl (.inl a1)⟩, hta _ _ _ ⟨F5, _, k5, [a], k6, T5.rs.rl, by rw [aCons, hav]; rfl, fun vs F6 H6 g6 c6 ra => ?_⟩⟩
        have T6 := T5.grow mp mq0 mq1 g6 c6
        cases ra with
        | cons rA rn =>
          cases rn
          refine ⟨q1, v1, _, rfl, rfl, g6.hh q1 _ mq1 a1, ?_, ?_⟩
          · rw [b1.length]
            exact Nat.lt_of_lt_of_le hlen.2 (small_line (Nat.le_refl _))
          · exact last (T6.add1 mq1 z1 e01.symm ep1 (g6.hh q1 _ mq1 a1) rA) hl
      · cases hl
section
variable {X : Cx} {m : Option Addr} {F0 H0 : Hp} {W : WE} {ce em ei ea eo : Expr} {t : DT} {fm fi fa fo : DE}
/-- found = [[], []]; while c: many = em; found[ei].append(ea); order = eo; return found -/
theorem ss_two (n i jm jo : Nat) {found many order : Str} {p1 p2 p3 p4 p5 p6 p7 p8 p9 p10 p11 p12 p13 p14 p15 p16 p17 : Pos} (hN : X.N.Nodup) (hp : PassesOwn (model X.prog X.w) X.A X.env X.xe) (c : PT X ce (tT X.fr m t)) (h1 : PE X em (tE X.fr m fm)) (h2 : PE X ei (tE X.fr m fi)) (h3 : PE X ea (tE X.fr m fa)) (h4 : PE X eo (tE X.fr m fo)) (hij : jm ≠ i := by decide) (hij2 : jo ≠ i := by decide)
    (hi : X.N[i]? = some found := by rfl) (hjm : X.N[jm]? = some many := by rfl) (hjo : X.N[jo]? = some order := by rfl) (hx : Loc X.env.scope found := by first | exact .inl rfl | exact .inr rfl) (hxm : Loc X.env.scope many := by first | exact .inl rfl | exact .inr rfl) (hxo : Loc X.env.scope order := by first | exact .inl rfl | exact .inr rfl)
    (hv : Vis X.env.scope found := by first | exact Or.inl rfl | exact Or.inr (Or.inl rfl) | exact Or.inr (Or.inr rfl)) (hd : (found == ("__debug__" : Str)) = false := by decide) (hcd : (found == ("__classdict__" : Str)) = false := by decide)
    (hf : X.fn found = true ∨ X.env.scope.names.lookup found = some .local := by first | exact .inl rfl | exact .inr rfl | assumption) (hfm : X.fn many = true ∨ X.env.scope.names.lookup many = some .local := by first | exact .inl rfl | exact .inr rfl | assumption) (hfo : X.fn order = true ∨ X.env.scope.names.lookup order = some .local := by first | exact .inl rfl | exact .inr rfl | assumption)
    (hs1 : swapsWith (.List [.List [] p2, .List [] p3] p4) (some (.Name found p1)) p5.line X.env = pure false := by rfl) (hs2 : swapsWith em (some (.Name many p6)) p7.line X.env = pure false := by rfl) (hs4 : swapsWith eo (some (.Name order p13)) p14.line X.env = pure false := by rfl)
    (hbase : attributeBase (.Subscript (.Name found p8) ei p9) "append" X.env (eval (.Subscript (.Name found p8) ei p9) X.env) = eval (.Subscript (.Name found p8) ei p9) X.env := by rfl)
    (hfew : ((backTo p11 (starEach (ea :: []) X.env)).all (fun x => !x.1) && (backToKw p11 (keywordEach [] X.env)).all (fun x => x.1.isSome)
      && decide ((ea :: []).length + ([] : List Keyword).length + (if ([] : List Keyword).isEmpty then 0 else 1) < 30)) = true := by rfl)
    (hline : (p10.endLine == p11.line) = true := by rfl) (hst : starEach (ea :: []) X.env = (false, eval ea X.env) :: starEach [] X.env := by rfl) (hpl : (backTo p11 (starEach [] X.env)).any (·.1) = false := by rfl) (hix : PlainIx ei := by exact fun _ _ => rfl)
    (hse : swapsWith (.Call (.Attribute (.Subscript (.Name found p8) ei p9) "append" p10) [ea] [] p11) none p12.line X.env = pure false := by rfl) :
    PSs X [.Assign [.Name found p1] (.List [.List [] p2, .List [] p3] p4) p5, .While ce [.Assign [.Name many p6] em p7, .Expr (.Call (.Attribute (.Subscript (.Name found p8) ei p9) "append" p10) [ea] [] p11) p12, .Assign [.Name order p13] eo p14] [] p15, .Return (some (.Name found p16)) p17] (tS X.fr m F0 H0 W (sTwo n i jm jo t fm fi fa fo)) :=
  impPSs (pss_cons (ps_set hN hi hx (pe_lst (pa_cons (pe_lst pa_nil) (pa_cons (pe_lst pa_nil) pa_nil))) hs1 hf) (pss_cons (ps_while hp c (pss_cons (ps_set hN hjm hxm h1 hs2 hfm) (pss_cons (ps_expr (pe_bm PySem.F.plainAttrs_list PySem.F.slot_list_append PySem.F.type_list_append mt_append (pe_ix ix_list (pe_var (i := i) hi hv hd hcd) h2 hix) (p_cons h3 p_nil hst) hbase hfew hline hst hpl) hse) (pss_one (ps_set hN hjo hxo h4 hs4 hfo))))) (pss_one (ps_ret (pe_var (i := i) hi hv hd hcd))))) fun D σ H w => two_in hij hij2 (fun _ _ _ z => z) w
end
end Dn

set_option Elab.async false
set_option linter.all false
set_option maxRecDepth 100000
set_option maxHeartbeats 2000000
/-! the law's def under no guards; one of two lists held alone is added to -/
namespace Dn
open PySem PySem.Spec PyProof.Rows L2 Evl

section
variable {P : Program} {w : World} {K : PySem.W.Frag} {mg : Str → Option Value} {base : Heap}
theorem fnG_law {x qual : Str} {st st1 : Stmt} {sts : List Stmt} {f : Addr} {fd : FuncData} {N : List Str} {p0 : Str} {j i : Nat} (G : Fun K x qual st f fd) (S : FnScope N [p0] (defScope st)) (body : DS) (eb : defBody st = st1 :: sts) (hi : 0 < i ∧ i < N.length)
    (h1 : ∀ (cdv : Value) (A : Around) (outer : List PySem.Env) (s : Shared) (H : Hp) (E : XK), PS (cxOf CX0 P w K mg base N qual (defScope st) f cdv A outer s H E).nox st1 (tAsg (tLst (tCons (tC (.int 0)) tNil)) (gName i)))
    (hb : ∀ (cdv : Value) (A : Around) (outer : List PySem.Env) (s : Shared) (H : Hp) (E : XK) (m : Option Addr) (F0 H0 : Hp), (A.deeper (envOfC qual (defScope st) s.heap.objs.size f cdv)).guards = some [] → Room j (A.deeper (envOfC qual (defScope st) s.heap.objs.size f cdv)) →
      PSs (cxOf CX0 P w K mg base N qual (defScope st) f cdv A outer s H E).nox sts (tS ⟨K, P, w, mg⟩ m F0 H0 (fun _ _ _ => False) body))
    (hl : ∀ ns : List Int, ns.length ≤ 63 → lawRun N.length i body ns = some (.bool true)) : FnG P w K mg base CX0 (j + 1) f fd [p0] (spLaw K) := by
  refine fnG_ok G S (fun vs H Q E h => ?_) (fun cdv A outer s H vs Q E gd hr h => ?_)
  · obtain ⟨a, ns, rfl, _⟩ := h
    rfl
  · obtain ⟨a, ns, rfl, hS, hlen, q⟩ := h
    rw [eb]
    refine ⟨_, pss_cons (h1 cdv A outer s H E) (ss_any (X := (cxOf CX0 P w K mg base N qual (defScope st) f cdv A outer s H E).nox) (W := fun _ _ _ => False) (f := body) fun m F0 H0 => hb cdv A outer s H E m F0 H0 gd hr), ?_⟩
    refine ⟨by decide, fun p hp => ?_⟩
    have hrun := hl ns hlen
    unfold lawRun at hrun
    obtain ⟨o, ho, hrun⟩ := Option.bind_eq_some_iff.mp hrun
    have r0 : RpA ⟨K, P, w, mg⟩ (some p) H [.ref a] [.list (ns.map .int)] := .cons (.lst hS RpA.ints) .nil
    have eH : Ex H (upd H p (.lst [.int 0])) := Ex.new hp
    have c1 : Ctr (some p) H (upd H p (.lst [.int 0])) 0 := fun b eb => by
      cases eb
      exact ⟨upd_same, hp⟩
    have R1 : Rl ⟨K, P, w, mg⟩ (some p) H (startE N.length [.list (ns.map .int)]) 0 (L2.start N [.ref a]) (upd H p (.lst [.int 0])) := rl_start eH c1 r0
    refine ⟨some p, H, upd H p (.lst [.int 0]), H, _, 0, o, ⟨R1.set_sh (i := i) (d := ctrD) (v := .ref p) (.ctr rfl), .refl eH, fun j q h => ?_⟩, ho, ?_⟩
    · obtain ⟨⟨c, h1, h2, _⟩, _⟩ := own_set_sh h
      exact (startE_ow h1 h2).elim
    · cases o with
      | ret d k =>
        cases hrun
        exact fun v F H' _ _ r => by
          cases r
          exact q H'
      | _ => cases hrun
end
@[simp] def sPick (i j : Nat) (fi fa : DE) : DS := fun ρ k => (fi ρ k).bind fun x => (fa ρ x.2).bind fun a => match ρ[i]?, ρ[j]?, x.1 with
  | some (.ow l0), some (.ow _), .int 0 => if l0.length < 1000000 then some (.next (ρ.set i (.ow (l0 ++ [a.1]))) a.2) else none
  | some (.ow _), some (.ow l1), .int 1 => if l1.length < 1000000 then some (.next (ρ.set j (.ow (l1 ++ [a.1]))) a.2) else none
  | _, _, _ => none
section
variable {X : Cx} {m : Option Addr} {F0 H0 : Hp} {W : WE} {ei ea : Expr} {fi fa : DE}
theorem s_pick (i j : Nat) {x y : Str} {px py pl ps pa pos2 pos : Pos} (h2 : PE X ei (tE X.fr m fi)) (h3 : PE X ea (tE X.fr m fa)) (hi : X.N[i]? = some x := by rfl) (hj : X.N[j]? = some y := by rfl)
    (hv : Vis X.env.scope x := by first | exact Or.inl rfl | exact Or.inr (Or.inl rfl) | exact Or.inr (Or.inr rfl)) (hw : Vis X.env.scope y := by first | exact Or.inl rfl | exact Or.inr (Or.inl rfl) | exact Or.inr (Or.inr rfl)) (hd : (x == ("__debug__" : Str)) = false := by decide) (hcd : (x == ("__classdict__" : Str)) = false := by decide) (hd2 : (y == ("__debug__" : Str)) = false := by decide) (hcd2 : (y == ("__classdict__" : Str)) = false := by decide)
    (hsl : starEach [.Name x px, .Name y py] X.env = (false, eval (.Name x px) X.env) :: starEach [.Name y py] X.env := by rfl) (hsl2 : starEach [.Name y py] X.env = (false, eval (.Name y py) X.env) :: starEach [] X.env := by rfl)
    (hbase : attributeBase (.Subscript (.List [.Name x px, .Name y py] pl) ei ps) "append" X.env (eval (.Subscript (.List [.Name x px, .Name y py] pl) ei ps) X.env) = eval (.Subscript (.List [.Name x px, .Name y py] pl) ei ps) X.env := by rfl)
    (hfew : ((backTo pos2 (starEach (ea :: []) X.env)).all (fun x => !x.1) && (backToKw pos2 (keywordEach [] X.env)).all (fun x => x.1.isSome)
      && decide ((ea :: []).length + ([] : List Keyword).length + (if ([] : List Keyword).isEmpty then 0 else 1) < 30)) = true := by rfl)
    (hline : (pa.endLine == pos2.line) = true := by rfl) (hst : starEach (ea :: []) X.env = (false, eval ea X.env) :: starEach [] X.env := by rfl) (hpl : (backTo pos2 (starEach [] X.env)).any (·.1) = false := by rfl) (hix : PlainIx ei := by exact fun _ _ => rfl)
    (hs : swapsWith (.Call (.Attribute (.Subscript (.List [.Name x px, .Name y py] pl) ei ps) "append" pa) [ea] [] pos2) none pos.line X.env = pure false := by rfl) :
    PS X (.Expr (.Call (.Attribute (.Subscript (.List [.Name x px, .Name y py] pl) ei ps) "append" pa) [ea] [] pos2) pos) (tS X.fr m F0 H0 W (sPick i j fi fa)) :=
  impPS (ps_expr (pe_bm PySem.F.plainAttrs_list PySem.F.slot_list_append PySem.F.type_list_append mt_append (pe_ix ix_list (pe_lst (pa_cons (pe_var (i := i) hi hv hd hcd) (pa_cons (pe_var (i := j) hj hw hd2 hcd2) pa_nil hsl2) hsl)) h2 hix) (p_cons h3 p_nil hst) hbase hfew hline hst hpl) hs) fun D σ H ⟨F, ρ, k, out, R, hf, q⟩ => by
    unfold sPick at hf
    obtain ⟨⟨vx, k1⟩, h1, hf⟩ := Option.bind_eq_some_iff.mp hf
    obtain ⟨⟨va, k2⟩, h2, hf⟩ := Option.bind_eq_some_iff.mp hf
    cases c0 : ρ[i]? with
    | none =>
      rw [c0] at hf
      cases hf
    | some o0 =>
      cases c1 : ρ[j]? with
      | none =>
        rw [c0, c1] at hf
        cases o0 <;> cases hf
      | some o1 =>
        rw [c0, c1] at hf
        cases o0 with
        | ow l0 =>
          cases o1 with
          | ow l1 =>
            obtain ⟨p0, u0, s0, f0, m0, e0, w0⟩ := R.rl.ow i _ c0 rfl
            obtain ⟨v0, rfl, r0⟩ := w0
            obtain ⟨p1, u1, s1, f1, m1, e1, w1⟩ := R.rl.ow j _ c1 rfl
            obtain ⟨v1, rfl, r1⟩ := w1
            refine ⟨_, s0, _, s1, small_line (by show 2 ≤ 1000000; decide), fun p hp => ?_⟩
            have g1 : Grow m F H F (upd H p (.lst [.ref p0, .ref p1])) := Grow.laid R.rl.sub hp
            have cc1 := R.rl.ctr.laid (o := .lst [.ref p0, .ref p1]) hp
            have R1 := R.grow g1 cc1
            refine ⟨F, ρ, k, vx, k1, R1.rl, h1, fun vv F2 H2 g2 cc2 rx => ?_⟩
            have R2 := R1.grow g2 cc2
            have mp := R.rl.ctr.ne hp
            have lsq : SqL X.K H2 p [.ref p0, .ref p1] := .inl (.inl (g2.hh p _ mp upd_same))
            have g12 := g1.trans cc1 g2
            cases vx with
            | int n =>
              by_cases hn : n = 0
              · subst hn
                replace hf : (if l0.length < 1000000 then some (Out.next (ρ.set i (.ow (l0 ++ [va]))) k2) else none) = some out := hf
                split at hf
                · rename_i hlen
                  cases hf
                  cases rx
                  refine ⟨p, [.ref p0, .ref p1], 0, .ref p0, rfl, rfl, lsq, rfl, Or.inl ⟨rfl, _, .inl (.inl (g12.hh p0 _ m0 e0))⟩, F2, ρ, k1, [va], k2, R2.rl, by rw [aCons, h2]; rfl, fun vs F3 H3 g3 cc3 ra => ?_⟩
                  have g13 := g12.trans cc2 g3
                  cases ra with
                  | cons rA rn =>
                    cases rn
                    refine ⟨p0, v0, _, rfl, rfl, g13.hh p0 _ m0 e0, ?_, q σ F3 _ g13.ff ((R.grow g13 cc3).mut c0 rfl s0 rfl ⟨_, rfl, (r0.mono g13.ff).append (.cons rA .nil)⟩)⟩
                    rw [r0.length]
                    exact Nat.lt_of_lt_of_le hlen (small_line (Nat.le_refl _))
                · cases hf
              · by_cases hn1 : n = 1
                · subst hn1
                  replace hf : (if l1.length < 1000000 then some (Out.next (ρ.set j (.ow (l1 ++ [va]))) k2) else none) = some out := hf
                  split at hf
                  · rename_i hlen
                    cases hf
                    cases rx
                    refine ⟨p, [.ref p0, .ref p1], 1, .ref p1, rfl, rfl, lsq, rfl, Or.inl ⟨rfl, _, .inl (.inl (g12.hh p1 _ m1 e1))⟩, F2, ρ, k1, [va], k2, R2.rl, by rw [aCons, h2]; rfl, fun vs F3 H3 g3 cc3 ra => ?_⟩
                    have g13 := g12.trans cc2 g3
                    cases ra with
                    | cons rA rn =>
                      cases rn
                      refine ⟨p1, v1, _, rfl, rfl, g13.hh p1 _ m1 e1, ?_, q σ F3 _ g13.ff ((R.grow g13 cc3).mut c1 rfl s1 rfl ⟨_, rfl, (r1.mono g13.ff).append (.cons rA .nil)⟩)⟩
                      rw [r1.length]
                      exact Nat.lt_of_lt_of_le hlen (small_line (Nat.le_refl _))
                  · cases hf
                · exfalso
                  split at hf
                  · rename_i ha hb hc
                    cases hc
                    exact hn rfl
                  · rename_i ha hb hc
                    cases hc
                    exact hn1 rfl
                  · cases hf
            | _ => cases hf
          | _ => cases hf
        | _ => cases o1 <;> cases hf
/-! a list held alone is emptied -/
@[simp] def gClear : List Dt → List Dt → Option (List Dt)
  | _, [] => some []
  | _, _ => none
@[simp] def sClear (i : Nat) : DS := fun ρ k => match ρ[i]? with
  | some (.ow _) => some (.next (ρ.set i (.ow [])) k)
  | _ => none
theorem s_clear (i : Nat) {x : Str} {px pa pos2 pos : Pos} (hN : X.N[i]? = some x := by rfl) (hv : Vis X.env.scope x := by first | exact Or.inl rfl | exact Or.inr (Or.inl rfl) | exact Or.inr (Or.inr rfl)) (hd : (x == ("__debug__" : Str)) = false := by decide) (hcd : (x == ("__classdict__" : Str)) = false := by decide)
    (hbase : attributeBase (.Name x px) "clear" X.env (eval (.Name x px) X.env) = eval (.Name x px) X.env := by rfl) (hline : (pa.endLine == pos2.line) = true := by rfl) (hs : swapsWith (.Call (.Attribute (.Name x px) "clear" pa) [] [] pos2) none pos.line X.env = pure false := by rfl) :
    PS X (.Expr (.Call (.Attribute (.Name x px) "clear" pa) [] [] pos2) pos) (tS X.fr m F0 H0 W (sClear i)) :=
  impPS (ps_expr (pe_bm0 PySem.F.plainAttrs_list PySem.F.slot_list_clear PySem.F.type_list_clear mt_clear (pe_var (i := i) hN hv hd hcd) hbase hline) hs) fun D σ H ⟨F, ρ, k, out, R, hf, q⟩ => by
    unfold sClear at hf
    split at hf
    · rename_i ds hc
      cases hf
      obtain ⟨p, o, h3, hF, hmp, hH, r⟩ := R.rl.ow i _ hc rfl
      obtain ⟨xs, rfl, r⟩ := r
      exact ⟨_, h3, Or.inl ⟨rfl, _, .inl (.inl hH)⟩, p, xs, rfl, rfl, hH, q σ F _ (Ex.refl F) (R.mut hc rfl h3 rfl ⟨[], rfl, .nil⟩)⟩
    · cases hf
end
end Dn

set_option Elab.async false
set_option linter.all false
set_option maxRecDepth 100000
set_option maxHeartbeats 2000000
/-! zip of two lists or two tuples; a global empty tuple -/
namespace Dn
open PySem PySem.Spec PyProof.Rows L2 Evl

@[simp] def gZip : List Dt → Option (List Dt)
  | [.list xs, .list ys] => some (List.zipWith (fun x y => .tuple [x, y]) xs ys)
  | [.tuple xs, .tuple ys] => some (List.zipWith (fun x y => .tuple [x, y]) xs ys)
  | _ => none
section
variable {K : Fr} {m : Option Addr} {F : Hp}
theorem zip_get {xs ys : List Dt} {i : Nat} {d : Dt} (h : (List.zipWith (fun x y => PyData.tuple [x, y]) xs ys)[i]? = some d) : ∃ x y, xs[i]? = some x ∧ ys[i]? = some y ∧ d = .tuple [x, y] := by
  rw [List.getElem?_zipWith] at h
  cases hx : xs[i]? with
  | none => simp [hx] at h
  | some x =>
    cases hy : ys[i]? with
    | none => simp [hx, hy] at h
    | some y =>
      simp [hx, hy] at h
      exact ⟨x, y, rfl, rfl, h.symm⟩
theorem feeds_zipL {a b : Addr} {us vs : List V} {xs ys : List Dt} (ha : SqL K.K F a us) (hb : SqL K.K F b vs) (ra : RpA K m F us xs) (rb : RpA K m F vs ys) : Feeds K m (Itz K.K a b) (List.zipWith (fun x y => .tuple [x, y]) xs ys) F where
  go := fun F' H i d k e1 e2 c h => by
    obtain ⟨x, y, hx, hy, rfl⟩ := zip_get h
    obtain ⟨u, hu, ru⟩ := ra.get hx
    obtain ⟨v, hv, rv⟩ := rb.get hy
    have la := ex_l (e1.trans e2) ha
    have lb := ex_l (e1.trans e2) hb
    refine ⟨⟨us, vs, u, v, la, lb, hu, hv⟩, fun w H' ⟨T, x', y', ew, hT, eH, fx, fy⟩ => ?_⟩
    subst ew eH
    have z1 := fx us la
    rw [hu] at z1
    cases z1
    have z2 := fy vs lb
    rw [hv] at z2
    cases z2
    obtain ⟨n1, n2, n3⟩ := new_tup e2 c (vs := [u, v]) (ds := [x, y]) (.cons (ru.mono e1) (.cons (rv.mono e1) .nil)) hT
    exact ⟨_, n1, n2, n3⟩
  stop := fun F' H e1 e2 => ⟨us, vs, ex_l (e1.trans e2) ha, ex_l (e1.trans e2) hb, by
    rw [List.length_zipWith, ra.length, rb.length]
    omega⟩
theorem feeds_zipT {a b : Addr} {us vs : List V} {xs ys : List Dt} (ha : SqT K.K F a us) (hb : SqT K.K F b vs) (ra : RpA K m F us xs) (rb : RpA K m F vs ys) : Feeds K m (RZ.ItzT K.K a b) (List.zipWith (fun x y => .tuple [x, y]) xs ys) F where
  go := fun F' H i d k e1 e2 c h => by
    obtain ⟨x, y, hx, hy, rfl⟩ := zip_get h
    obtain ⟨u, hu, ru⟩ := ra.get hx
    obtain ⟨v, hv, rv⟩ := rb.get hy
    have la := ex_t (e1.trans e2) ha
    have lb := ex_t (e1.trans e2) hb
    refine ⟨⟨us, vs, u, v, la, lb, hu, hv⟩, fun w H' ⟨T, x', y', ew, hT, eH, fx, fy⟩ => ?_⟩
    subst ew eH
    have z1 := fx us la
    rw [hu] at z1
    cases z1
    have z2 := fy vs lb
    rw [hv] at z2
    cases z2
    obtain ⟨n1, n2, n3⟩ := new_tup e2 c (vs := [u, v]) (ds := [x, y]) (.cons (ru.mono e1) (.cons (rv.mono e1) .nil)) hT
    exact ⟨_, n1, n2, n3⟩
  stop := fun F' H e1 e2 => ⟨us, vs, ex_t (e1.trans e2) ha, ex_t (e1.trans e2) hb, by
    rw [List.length_zipWith, ra.length, rb.length]
    omega⟩
end
section
variable {X : Cx} {m : Option Addr} {e e2 : Expr} {f : DL}
theorem i_zip {p pos tpos : Pos} {elts : List Expr} {kk : Nat} (hm : X.mg "zip" = none) (ha : PA X [e, e2] (tAr X.fr m f)) (hg : Gl X "zip" := by rfl) (hs : starEach [e, e2] X.env = (false, eval e X.env) :: starEach [e2] X.env := by rfl) (hpl : (backTo pos (starEach [e2] X.env)).any (·.1) = false := by rfl) :
    PI X (.Tuple elts kk tpos) (.Call (.Name "zip" p) [e, e2] [] pos) (tIS X.fr m (dNL gZip f)) := impPI (RZ.pi_zipA hg hm ha hs hpl) fun σ H R ⟨F, ρ, k, ds, k', Rl1, hf, q⟩ => by
  unfold dNL at hf
  obtain ⟨⟨d, k1⟩, h1, hf⟩ := Option.bind_eq_some_iff.mp hf
  obtain ⟨es, h2, hf⟩ := Option.bind_eq_some_iff.mp hf
  cases hf
  unfold gZip at h2
  split at h2
  · rename_i xs ys e1
    cases h2
    simp only at e1
    subst e1
    refine ⟨F, ρ, k, _, k1, Rl1, h1, fun vs F' H' g c r => ?_⟩
    cases r with
    | cons r1 r =>
      cases r with
      | cons r2 r =>
        cases r
        cases r1 with
        | lst l1 q1 =>
          cases r2 with
          | lst l2 q2 => exact ⟨_, _, _, _, rfl, .inl ⟨ex_l g.fh l1, ex_l g.fh l2, q _ F' H' g c (feeds_zipL l1 l2 q1 q2)⟩⟩
  · rename_i xs ys e1
    cases h2
    simp only at e1
    subst e1
    refine ⟨F, ρ, k, _, k1, Rl1, h1, fun vs F' H' g c r => ?_⟩
    cases r with
    | cons r1 r =>
      cases r with
      | cons r2 r =>
        cases r
        cases r1 with
        | tup l1 q1 =>
          cases r2 with
          | tup l2 q2 => exact ⟨_, _, _, _, rfl, .inr ⟨ex_t g.fh l1.sq, ex_t g.fh l2.sq, q _ F' H' g c (feeds_zipT l1.sq l2.sq q1 q2)⟩⟩
  · cases h2
/-- a global name that stands for an empty tuple of the module's own -/
def Tup0 (K : PySem.W.Frag) (mg : Str → Option Value) (x : Str) : Prop := ∃ (a : Addr) (o : Obj) (its : Array Value) (n : Nat), mg x = some (.ref a) ∧ K.lookup a = some o ∧ o.cls = .type "tuple" ∧ o.data = .seq its n ∧ its.size = 0
theorem e_tup0 {x : Str} {pos : Pos} (h : Tup0 X.K X.mg x) (hg : Gl X x := by rfl) (hd : (x == ("__debug__" : Str)) = false := by decide) : PE X (.Name x pos) (tE X.fr m (dC (.tuple []))) := by
  obtain ⟨a, o, its, n, hm, hk, hc, hdt, hz⟩ := h
  have sq : ∀ F, SqT X.K F a [] := fun F => .inr ⟨o, its, n, hk, hc, hdt, by rw [hz]; exact Nat.zero_le _, by
    have e : its.toList = [] := List.eq_nil_of_length_eq_zero (by rw [Array.length_toList]; exact hz)
    rw [e]
    exact .nil⟩
  exact e_of (pe_glob hg hm (v := .ref a) rfl hd) fun F => .tup ⟨sq F, fun z => by cases z⟩ .nil
end
end Dn

set_option Elab.async false
set_option linter.all false
set_option maxRecDepth 100000
set_option maxHeartbeats 2000000
/-! texts: startswith, endswith, split, f-strings -/
namespace Dn
open PySem PySem.Spec PyProof.Rows L2 Evl

section
variable {X : Cx} {m : Option Addr} {e : Expr} {pos : Pos}
@[simp] def gStarts : Dt → List Dt → Option Dt
  | .str a, [.str b] => some (.bool (Txt.startswith a b))
  | _, _ => none
@[simp] def gEnds : Dt → List Dt → Option Dt
  | .str a, [.str b] => some (.bool (Txt.endswith a b))
  | _, _ => none
theorem ok_starts : MtR X "str.startswith" (rmD X.fr m gStarts) := by
  intro pins s σ H x xs v us Q I rx r ⟨F, k, dx, ds, d, e, c, ro, rs, hg, q⟩
  unfold gStarts at hg
  split at hg
  · cases hg
    cases ro.str
    obtain ⟨w, rfl, rww⟩ := rs.one
    cases rww.str
    exact mt_startswith pins s σ H _ _ v us Q I rx r ⟨_, _, rfl, rfl, ro_bl e c rfl q⟩
  · cases hg
theorem ok_ends : MtR X "str.endswith" (rmD X.fr m gEnds) := by
  intro pins s σ H x xs v us Q I rx r ⟨F, k, dx, ds, d, e, c, ro, rs, hg, q⟩
  unfold gEnds at hg
  split at hg
  · cases hg
    cases ro.str
    obtain ⟨w, rfl, rww⟩ := rs.one
    cases rww.str
    exact mt_endswith pins s σ H _ _ v us Q I rx r ⟨_, _, rfl, rfl, ro_bl e c rfl q⟩
  · cases hg
theorem e_starts {pa : Pos} {o : Expr} {fo fa : DE} (ho : PE X o (tO X.fr m fo)) (ha : PE X e (tO X.fr m fa)) (hs : starEach [e] X.env = [(false, eval e X.env)] := by rfl) (hbase : attributeBase o "startswith" X.env (eval o X.env) = eval o X.env := by rfl) (hline : (pa.endLine == pos.line) = true := by rfl) :
    PE X (.Call (.Attribute o "startswith" pa) [e] [] pos) (tE X.fr m (dM gStarts fo (aCons fa aNil))) := e_m1 PySem.F.slot_str_startswith PySem.F.type_str_startswith ok_starts ho ha hs hbase hline
theorem e_ends {pa : Pos} {o : Expr} {fo fa : DE} (ho : PE X o (tO X.fr m fo)) (ha : PE X e (tO X.fr m fa)) (hs : starEach [e] X.env = [(false, eval e X.env)] := by rfl) (hbase : attributeBase o "endswith" X.env (eval o X.env) = eval o X.env := by rfl) (hline : (pa.endLine == pos.line) = true := by rfl) :
    PE X (.Call (.Attribute o "endswith" pa) [e] [] pos) (tE X.fr m (dM gEnds fo (aCons fa aNil))) := e_m1 PySem.F.slot_str_endswith PySem.F.type_str_endswith ok_ends ho ha hs hbase hline

/-! a method of a text that gives a new list -/
def rmlD (K : Fr) (m : Option Addr) (g : Dt → List Dt → Option (List Dt)) : V → List V → Hp → VK → Prop := fun x xs H Q => ∃ F k dx ds es, Ex F H ∧ Ctr m F H k ∧ Ro K m F H x dx ∧ RoA K m F H xs ds ∧ g dx ds = some es ∧ ∀ p vs H', H p = none → H' = upd H p (.lst vs) → RpA K m F vs es → Q (.ref p) H'
@[simp] def dML (g : Dt → List Dt → Option (List Dt)) (f : DE) (h : DL) : DL := fun ρ k => (f ρ k).bind fun p => if isStr p.1 = true then (h ρ p.2).bind fun q => (g p.1 q.1).bind fun d => some (d, q.2) else none
theorem l_m1 {id : String} {name : Str} {pa : Pos} {g : Dt → List Dt → Option (List Dt)} {fo fa : DE} {o : Expr} (slot : Slot "str" name id) (hty : typeOf (.builtin id) = pure (.type "method_descriptor")) (hm : MtR X id (rmlD X.fr m g)) (ho : PE X o (tO X.fr m fo)) (ha : PE X e (tO X.fr m fa))
    (hs : starEach [e] X.env = [(false, eval e X.env)] := by rfl) (hbase : attributeBase o name X.env (eval o X.env) = eval o X.env := by rfl) (hline : (pa.endLine == pos.line) = true := by rfl) :
    PE X (.Call (.Attribute o name pa) [e] [] pos) (tL X.fr m (dML g fo (aCons fa aNil))) := impPE (pe_m1 slot hty hm ho ha hs hbase hline) fun σ H Q ⟨F, ρ, k, d, k', R, hf, q⟩ => by
  unfold dML at hf
  obtain ⟨⟨x, k1⟩, h1, hf⟩ := Option.bind_eq_some_iff.mp hf
  simp only at hf
  split at hf
  · rename_i hx
    obtain ⟨z, rfl⟩ := isStr_eq hx
    obtain ⟨⟨ys, k2⟩, h2, hf⟩ := Option.bind_eq_some_iff.mp hf
    obtain ⟨w, h3, hf⟩ := Option.bind_eq_some_iff.mp hf
    cases hf
    unfold aCons at h2
    obtain ⟨⟨y, k3⟩, h4, h2⟩ := Option.bind_eq_some_iff.mp h2
    cases h2
    refine ⟨F, ρ, k, _, k1, R, h1, fun v1 F1 H1 g1 c1 r1 => ?_⟩
    cases r1.str
    refine ⟨⟨z, rfl⟩, F1, ρ, k1, y, k3, R.grow g1 c1, h4, fun v2 F2 H2 g2 c2 r2 => ⟨F2, k3, .str z, [y], d, g2.fh, c2, .inl (.str z), .cons r2 .nil, h3, fun p vs H' hp eh r => ?_⟩⟩
    subst eh
    have g12 := g1.trans c1 g2
    exact q p vs F2 _ (g12.trans c2 (Grow.laid g2.fh hp)) (c2.laid hp) (g12.back c2 hp) (ex_none g2.fh hp) upd_same r
  · cases hf
theorem RpA.strs {K : Fr} {F : Hp} : ∀ {bs : List Str}, RpA K m F (bs.map V.str) (bs.map .str)
  | [] => .nil
  | b :: bs => .cons (.str b) RpA.strs
@[simp] def gSplit : Dt → List Dt → Option (List Dt)
  | .str a, [.str b] => if (b.length == 0) = false ∧ a.length ≤ 1000000 then some ((Txt.split a b).map .str) else none
  | _, _ => none
theorem ok_split : MtR X "str.split" (rmlD X.fr m gSplit) := by
  intro pins s σ H x xs v us Q I rx r ⟨F, k, dx, ds, d, e, c, ro, rs, hg, q⟩
  unfold gSplit at hg
  split at hg
  · split at hg
    · rename_i hl
      cases hg
      cases ro.str
      obtain ⟨w, rfl, rww⟩ := rs.one
      cases rww.str
      exact mt_split pins s σ H _ _ v us Q I rx r ⟨_, _, rfl, rfl, hl.1, Nat.le_trans (Nat.add_le_add_right hl.2 2) (by decide), fun p hp => q p _ _ hp rfl RpA.strs⟩
    · cases hg
  · cases hg
theorem l_split {pa : Pos} {o : Expr} {fo fa : DE} (ho : PE X o (tO X.fr m fo)) (ha : PE X e (tO X.fr m fa)) (hs : starEach [e] X.env = [(false, eval e X.env)] := by rfl) (hbase : attributeBase o "split" X.env (eval o X.env) = eval o X.env := by rfl) (hline : (pa.endLine == pos.line) = true := by rfl) :
    PE X (.Call (.Attribute o "split" pa) [e] [] pos) (tL X.fr m (dML gSplit fo (aCons fa aNil))) := l_m1 PySem.F.slot_str_split PySem.F.type_str_split ok_split ho ha hs hbase hline

/-! f-strings of texts -/
@[simp] def gFmt : Dt → Option Dt
  | .str y => if y.length ≤ 1000000 then some (.str y) else none
  | .int i => if i.natAbs.log2 < 1920 then some (.str (toString i)) else none
  | _ => none
theorem e_fmt {f : DE} (h : PE X e (tE X.fr m f)) : PE X (.FormattedValue e (-1) none pos) (tE X.fr m (dU gFmt f)) := impPE (pe_fmt h) fun σ H Q ⟨F, ρ, k, d, k', R, hf, q⟩ => by
  unfold dU at hf
  obtain ⟨⟨x, k1⟩, h1, hf⟩ := Option.bind_eq_some_iff.mp hf
  obtain ⟨w, h3, hf⟩ := Option.bind_eq_some_iff.mp hf
  cases hf
  unfold gFmt at h3
  split at h3
  · rename_i y e1
    split at h3
    · rename_i hl
      cases h3
      simp only at e1
      subst e1
      refine ⟨F, ρ, k, _, k1, R, h1, fun v F' H' g c r => .inl ?_⟩
      cases r
      exact ⟨y, rfl, small_line hl, q _ F' H' g c (.str y)⟩
    · cases h3
  · rename_i i e1
    split at h3
    · rename_i hl
      cases h3
      simp only at e1
      subst e1
      refine ⟨F, ρ, k, _, k1, R, h1, fun v F' H' g c r => .inr ?_⟩
      cases r
      exact ⟨i, rfl, hl, q _ F' H' g c (.str _)⟩
    · cases h3
  · cases h3
/-- the parts of an f-string -/
def PJD (X : Cx) (m : Option Addr) (es : List Expr) (f : DL) : Prop := ∃ ts, PJ X es ts ∧ ∀ (acc : Str) (σ : L2.St) (H : Hp) (Q : Str → Hp → Prop),
  (∃ F ρ k ds k' ys, Rl X.fr m F ρ k σ H ∧ f ρ k = some (ds, k') ∧ asSs ds = some ys ∧ (ys.foldl (· ++ ·) acc).length ≤ sizeLine ∧ ∀ F' H', Grow m F H F' H' → Ctr m F' H' k' → Q (ys.foldl (· ++ ·) acc) H') → tJs ts acc σ H Q
theorem foldl_len : ∀ (ys : List Str) (acc : Str), acc.length ≤ (ys.foldl (· ++ ·) acc).length
  | [], acc => Nat.le_refl _
  | y :: ys, acc => by
    refine Nat.le_trans ?_ (foldl_len ys (acc ++ y))
    show acc.cps.size ≤ (acc.cps ++ y.cps).size
    rw [Array.size_append]
    omega
theorem j_nil : PJD X m [] aNil := ⟨[], .nil, fun acc σ H Q ⟨F, ρ, k, ds, k', ys, R, hf, hs, hl, q⟩ => by
  cases hf
  cases hs
  exact q F H (.refl R.sub) R.ctr⟩
theorem j_cons {es : List Expr} {f : DE} {g : DL} (h : PE X e (tE X.fr m f)) (r : PJD X m es g) : PJD X m (e :: es) (aCons f g) := by
  obtain ⟨ts, hj, hr⟩ := r
  refine ⟨_, .cons h hj, fun acc σ H Q ⟨F, ρ, k, ds, k', ys, R, hf, hs, hl, q⟩ => ?_⟩
  unfold aCons at hf
  obtain ⟨⟨d, k1⟩, h1, hf⟩ := Option.bind_eq_some_iff.mp hf
  obtain ⟨⟨es', k2⟩, h2, hf⟩ := Option.bind_eq_some_iff.mp hf
  cases hf
  cases d with
  | str y =>
    simp only [asSs] at hs
    obtain ⟨zs, h3, rfl⟩ := Option.map_eq_some_iff.mp hs
    refine ⟨F, ρ, k, _, k1, R, h1, fun v F1 H1 g1 c1 r1 => ?_⟩
    cases r1
    exact ⟨y, rfl, Nat.le_trans (foldl_len zs (acc ++ y)) hl, hr _ _ _ _ ⟨F1, ρ, k1, _, k2, zs, R.grow g1 c1, h2, h3, hl, fun F' H' g' c' => q F' H' (g1.trans c1 g') c'⟩⟩
  | _ => cases hs
@[simp] def dFstr (f : DL) : DE := fun ρ k => (f ρ k).bind fun p => (asSs p.1).bind fun ys => if (ys.foldl (· ++ ·) Str.empty).length ≤ 1000000 then some (.str (ys.foldl (· ++ ·) Str.empty), p.2) else none
theorem e_fstr {v1 v2 : Expr} {rest : List Expr} {f : DL} (h : PJD X m (v1 :: v2 :: rest) f) : PE X (.JoinedStr (v1 :: v2 :: rest) pos) (tE X.fr m (dFstr f)) := by
  obtain ⟨ts, hj, hr⟩ := h
  refine impPE (pe_joined hj) fun σ H Q ⟨F, ρ, k, d, k', R, hf, q⟩ => ?_
  unfold dFstr at hf
  obtain ⟨⟨ds, k1⟩, h1, hf⟩ := Option.bind_eq_some_iff.mp hf
  obtain ⟨ys, h2, hf⟩ := Option.bind_eq_some_iff.mp hf
  simp only at h2 hf
  split at hf
  · rename_i hl
    cases hf
    exact hr _ _ _ _ ⟨F, ρ, k, ds, _, ys, R, h1, h2, small_line hl, fun F' H' g c => q _ F' H' g c (.str _)⟩
  · cases hf
end
end Dn

set_option Elab.async false
set_option linter.all false
set_option maxRecDepth 100000
set_option maxHeartbeats 2000000
/-! dicts whose keys are pairs of a text and an int: built, locked, read -/
namespace Dn
open PySem PySem.Spec PyProof.Rows L2 Evl

section
variable {X : Cx} {m : Option Addr} {F0 H0 : Hp} {W : WE} {a b c e tg it : Expr} {es : List Expr} {pos : Pos} {st : Stmt} {sts : List Stmt}
theorem hu1 {A : Around} {j : Nat} (hr : Room j A) : A.units + 1 < cLine := by
  have := hu64 hr
  omega
@[simp] def sNewD (i : Nat) : DS := fun ρ k => some (.next (ρ.set i (.od [])) k)
theorem s_newD (i : Nat) {x : Str} {pos' pos2 : Pos} (hN : X.N.Nodup) (hi : X.N[i]? = some x := by rfl) (hx : Loc X.env.scope x := by first | exact .inl rfl | exact .inr rfl)
    (hs : swapsWith (.Dict [] [] pos2) (some (.Name x pos')) pos.line X.env = pure false := by rfl) (hf : X.fn x = true ∨ X.env.scope.names.lookup x = some .local := by first | exact .inl rfl | exact .inr rfl | assumption) :
    PS X (.Assign [.Name x pos'] (.Dict [] [] pos2) pos) (tS X.fr m F0 H0 W (sNewD i)) := impPS (ps_set hN hi hx pe_dnewT hs hf) fun D σ H ⟨F, ρ, k, out, R, hf, q⟩ => by
  cases hf
  intro p hp
  have g : Grow m F H F (upd H p (.dT [])) := Grow.laid R.rl.sub hp
  have c := R.rl.ctr.laid (o := .dT []) hp
  refine q _ F _ (Ex.refl F) ⟨(R.rl.grow g c).set_ow rfl (ex_none R.rl.sub hp) (R.rl.ctr.ne hp) upd_same ⟨[], rfl, .nil⟩ fun j hj => hj.known R.rl hp, R.gr.trans R.rl.ctr g, fun j q' h => ?_⟩
  rcases own_set_ow h with ⟨_, e⟩ | ⟨_, h⟩
  · cases e
    exact R.fresh hp
  · exact R.own j q' h
@[simp] def sPutD (i : Nat) (fk fv : DE) : DS := fun ρ k => (fv ρ k).bind fun p => (fk ρ p.2).bind fun q => (asTK q.1).bind fun key => match ρ[i]? with
  | some (.od kvs) => if kvs.length ≤ 1000000 then some (.next (ρ.set i (.od (putT kvs key p.1))) q.2) else none
  | _ => none
theorem s_putD (i : Nat) {x : Str} {px pos' : Pos} {fk fv : DE} (hu : X.A.units + 1 < cLine) (hk : PE X a (tE X.fr m fk)) (hv : PE X e (tE X.fr m fv)) (hN : X.N[i]? = some x := by rfl) (hvx : Vis X.env.scope x := by first | exact Or.inl rfl | exact Or.inr (Or.inl rfl) | exact Or.inr (Or.inr rfl)) (hd : (x == ("__debug__" : Str)) = false := by decide) (hcd : (x == ("__classdict__" : Str)) = false := by decide)
    (hs : swapsWith e (some (.Subscript (.Name x px) a pos')) pos.line X.env = pure false := by rfl) :
    PS X (.Assign [.Subscript (.Name x px) a pos'] e pos) (tS X.fr m F0 H0 W (sPutD i fk fv)) := impPS (ps_dput hu (pe_var (i := i) hN hvx hd hcd) hk hv hs) fun D σ H ⟨F, ρ, k, out, R, hf, q⟩ => by
  unfold sPutD at hf
  obtain ⟨⟨dv, k1⟩, h1, hf⟩ := Option.bind_eq_some_iff.mp hf
  obtain ⟨⟨dk, k2⟩, h2, hf⟩ := Option.bind_eq_some_iff.mp hf
  obtain ⟨key, h3, hf⟩ := Option.bind_eq_some_iff.mp hf
  cases hc : ρ[i]? with
  | none =>
    rw [hc] at hf
    cases hf
  | some cl =>
    rw [hc] at hf
    cases cl with
    | od kvs =>
      replace hf : (if kvs.length ≤ 1000000 then some (Out.next (ρ.set i (.od (putT kvs key dv))) k2) else none) = some out := hf
      split at hf
      · rename_i hl
        cases hf
        obtain ⟨p, o, e3, hF, hmp, hH, ws, rfl, ra⟩ := R.rl.ow i _ hc rfl
        refine ⟨F, ρ, k, dv, k1, R.rl, h1, fun v F1 H1 g1 c1 r1 => ⟨_, e3, F1, ρ, k1, dk, k2, R.rl.grow g1 c1, h2, fun u F2 H2 g2 c2 r2 => ?_⟩⟩
        obtain ⟨bb, rfl, hb⟩ := Rp.tk r2 h3
        have g12 := g1.trans c1 g2
        have hp2 := g12.hh p _ hmp hH
        obtain ⟨us, eu, ru⟩ := RpA.putZ (k := key) (r1.mono g2.ff) (ra.mono g12.ff)
        refine ⟨p, _, rfl, DPut.t hp2 (g2.fh _ _ hb) ?_, q _ F2 _ g12.ff ((R.grow g12 c2).mut hc rfl e3 rfl ⟨us, by rw [eu], ru⟩)⟩
        rw [List.length_zip, List.length_map]
        have := small_line hl
        have h9 : (1000000 : Nat) < sizeLine := by decide +kernel
        omega
      · cases hf
    | _ => cases hf
/-- a dict held alone is locked for good: from here on it is shared -/
@[simp] def sFreezeD (i : Nat) (f : DS) : DS := fun ρ k => match ρ[i]? with
  | some (.od kvs) => f (ρ.set i (.sh (dictT kvs))) k
  | _ => f ρ k
theorem zip_keys {ws : List V} : ∀ {kvs : List (List Key × Dt)}, ws.length = kvs.length → (((kvs.map (·.1)).zip ws).map fun p => tkD p.1) = kvs.map fun p => tkD p.1 := by
  intro kvs h
  have e : ((kvs.map (·.1)).zip ws).map (fun p => tkD p.1) = (((kvs.map (·.1)).zip ws).map (·.1)).map tkD := by
    rw [List.map_map]
    rfl
  rw [e, List.map_fst_zip (by rw [List.length_map]; omega), List.map_map]
  rfl
theorem zip_vals {ws : List V} {kvs : List (List Key × Dt)} (h : ws.length = kvs.length) : ((kvs.map (·.1)).zip ws).map (·.2) = ws := List.map_snd_zip (by rw [List.length_map]; omega)
theorem dictT_zip (kvs : List (List Key × Dt)) : dictT kvs = dictD ((kvs.map fun p => tkD p.1).zip (kvs.map (·.2))) := by
  unfold dictT
  congr 1
  induction kvs with
  | nil => rfl
  | cons p kvs ih => rw [List.map_cons, List.map_cons, List.map_cons, List.zip_cons_cons, ih]
theorem ss_freezeD (i : Nat) {f : DS} (h : PSs X sts (tS X.fr m F0 H0 W f)) : PSs X sts (tS X.fr m F0 H0 W (sFreezeD i f)) := by
  refine ⟨fun pins s σ H D I w => ?_⟩
  obtain ⟨F, ρ, k, out, R, hf, q⟩ := w
  unfold sFreezeD at hf
  split at hf
  · rename_i kvs e1
    obtain ⟨p, o, h3, hF, hm, hH, ws, rfl, ra⟩ := R.rl.ow i _ e1 rfl
    obtain ⟨od, I1⟩ := I.lock hH trivial
    have hlen : ws.length = kvs.length := by rw [ra.length, List.length_map]
    have hi : i < ρ.length := (List.getElem?_eq_some_iff.mp e1).1
    have owi : Own ρ σ i p := ⟨_, e1, rfl, h3⟩
    generalize ho : HO.dT ((kvs.map (·.1)).zip ws) = u at *
    have eF : Ex F (upd F p (.frz od u)) := ex_freeze hF
    have hk : H0 p = none := R.own i p owi
    have back : ∀ j q, Own (ρ.set i (.sh (dictT kvs))) σ j q → Own ρ σ j q ∧ j ≠ i := fun j q ⟨d, a1, a2, a3⟩ => by
      by_cases z : i = j
      · subst z
        rw [List.getElem?_set_self hi] at a1
        cases a1
        cases a2
      · rw [List.getElem?_set_ne z] at a1
        exact ⟨⟨d, a1, a2, a3⟩, fun e => z e.symm⟩
    have sub1 : Ex (upd F p (.frz od u)) (upd H p (.frz od u)) := fun a v w => by
      by_cases z : a = p
      · subst z
        rw [upd_same] at w ⊢
        exact w
      · rw [upd_ne z] at w ⊢
        exact R.rl.sub a v w
    have ctr1 : Ctr m (upd F p (.frz od u)) (upd H p (.frz od u)) k := fun a em => by
      have ne : a ≠ p := fun z => hm (z ▸ em)
      rw [upd_ne ne, upd_ne ne]
      exact R.rl.ctr a em
    refine h.run pins s σ _ D I1 ⟨upd F p (.frz od u), _, k, out, ⟨?_, ?_, fun j q h => R.own j q (back j q h).1⟩, hf, q.mono eF⟩
    · exact {
        sub := sub1
        ctr := ctr1
        len := by rw [List.length_set, R.rl.len]
        sh := fun j d h => by
          by_cases z : i = j
          · subst z
            rw [List.getElem?_set_self hi] at h
            cases h
            refine ⟨_, h3, ?_⟩
            have r1 : Rp X.fr m (upd F p (.frz od u)) (.ref p) (dictD ((((kvs.map (·.1)).zip ws).map fun p => tkD p.1).zip (kvs.map (·.2)))) := .dT (o := od) (by rw [← ho]; exact upd_same) (by rw [zip_vals hlen]; exact ra.mono eF)
            rw [zip_keys hlen, ← dictT_zip] at r1
            exact r1
          · rw [List.getElem?_set_ne z] at h
            obtain ⟨v, h1, h2⟩ := R.rl.sh j d h
            exact ⟨v, h1, h2.mono eF⟩
        ow := fun j d h hd => by
          by_cases z : i = j
          · subst z
            rw [List.getElem?_set_self hi] at h
            cases h
            cases hd
          · rw [List.getElem?_set_ne z] at h
            obtain ⟨q, u', a1, a2, a3, a4, a5⟩ := R.rl.ow j d h hd
            have ne : q ≠ p := fun e => z (R.rl.sep i j p owi ⟨d, h, hd, by rw [← e]; exact a1⟩)
            refine ⟨q, u', a1, ?_, a3, ?_, a5.mono eF⟩
            · rw [upd_ne ne]
              exact a2
            · rw [upd_ne ne]
              exact a4
        sep := fun a b q x y => R.rl.sep a b q (back a q x).1 (back b q y).1 }
    · exact {
        ff := R.gr.ff.trans eF
        fh := sub1
        nw := fun a w => by
          by_cases z : a = p
          · subst z
            exact .inr (.inl hk)
          · rw [upd_ne z] at w
            exact R.gr.nw a w
        hh := fun a v hn w => by
          have ne : a ≠ p := fun z => by
            rw [z, hk] at w
            cases w
          rw [upd_ne ne]
          exact R.gr.hh a v hn w }
  · exact h.run pins s σ H D I ⟨F, ρ, k, out, R, hf, q⟩
/-- d.get(key, default) -/
@[simp] def gGet2 : Dt → Dt → Dt → Option Dt
  | .dict ((.none, .bool true) :: l), key, d => (asTK key).map fun _ => (getTD l key).getD d
  | _, _, _ => none
@[simp] def dGet2 (fo fk fd : DE) : DE := fun ρ k => (fo ρ k).bind fun p => match p.1 with
  | .dict ((.none, .bool true) :: _) => (fk ρ p.2).bind fun q => (fd ρ q.2).bind fun r => (gGet2 p.1 q.1 r.1).bind fun d => some (d, r.2)
  | _ => none
theorem e_get2 {pa : Pos} {fo fk fd : DE} (hu : X.A.units + 1 < cLine) (ho : PE X a (tE X.fr m fo)) (hk : PE X b (tE X.fr m fk)) (hd : PE X c (tE X.fr m fd))
    (hm : M2 X a "get" pa b c pos := by exact ⟨rfl, rfl, rfl, rfl⟩) : PE X (.Call (.Attribute a "get" pa) [b, c] [] pos) (tE X.fr m (dGet2 fo fk fd)) := impPE (pe_dget2 hu ho hk hd hm) fun σ H Q ⟨F, ρ, k, d, k', R, hf, q⟩ => by
  unfold dGet2 at hf
  obtain ⟨⟨dd, k1⟩, h1, hf⟩ := Option.bind_eq_some_iff.mp hf
  simp only at hf
  split at hf
  · rename_i l
    obtain ⟨⟨dk, k2⟩, h2, hf⟩ := Option.bind_eq_some_iff.mp hf
    obtain ⟨⟨dx, k3⟩, h3, hf⟩ := Option.bind_eq_some_iff.mp hf
    obtain ⟨w, h4, hf⟩ := Option.bind_eq_some_iff.mp hf
    cases hf
    unfold gGet2 at h4
    obtain ⟨key, h5, rfl⟩ := Option.map_eq_some_iff.mp h4
    refine ⟨F, ρ, k, _, k1, R, h1, fun v F1 H1 g1 c1 r1 => ?_⟩
    obtain ⟨p, o, kvs, ds, rfl, hF, ra, el⟩ := Rp.dT_of r1
    refine ⟨p, rfl, .inr ⟨kvs, .inr ⟨o, g1.fh _ _ hF⟩⟩, F1, ρ, k1, _, k2, R.grow g1 c1, h2, fun u F2 H2 g2 c2 r2 => ⟨F2, ρ, k2, _, k3, (R.grow g1 c1).grow g2 c2, h3, fun x F3 H3 g3 c3 r3 => ?_⟩⟩
    obtain ⟨bb, rfl, hb⟩ := Rp.tk r2 h5
    have g13 := (g1.trans c1 g2).trans c2 g3
    have g23 := g2.trans c2 g3
    have z := (ra.mono g23.ff).getZ key
    rw [← el] at z
    refine ⟨valV kvs key, .inr ⟨kvs, key, bb, .inr ⟨o, g3.fh _ _ (g23.ff _ _ hF)⟩, rfl, g3.fh _ _ (g3.ff _ _ hb), rfl⟩, q _ F3 H3 g13 c3 ?_⟩
    unfold getTD
    rw [h5, Option.bind_some, asTK_tk h5]
    cases hfd : (l.find? fun p => tkEq p.1 (tkD key)).map (·.2) with
    | none =>
      rw [hfd] at z
      simp only at z
      rw [z]
      exact r3
    | some w =>
      rw [hfd] at z
      obtain ⟨y, e2, ry⟩ := z
      rw [e2]
      exact ry
  · cases hf
end
end Dn

set_option Elab.async false
set_option linter.all false
set_option maxRecDepth 100000
set_option maxHeartbeats 2000000
/-! a caught error that outlives its clause -/
namespace Dn
open PySem PySem.Spec PyProof.Rows L2 Evl

section
variable {X : Cx} {pins : List (Addr × Obj)} {σ : L2.St} {H : Hp} {s : Shared}
/-- an object that came up since the def began is tracked from here on -/
theorem adopt {a C : Addr} {oe : Obj} {vs : Array Value} (I : Inv X pins σ H s) (na : H a = none) (ha : s.heap.get? a = some oe) (hd : oe.data = .fields vs) (hc : oe.cls = .ref C) (hdi : oe.dict = none)
    (n0 : X.s_0.heap.get? a = none) (nL : a ≠ X.env.locals) (np : ∀ p ∈ X.pn ++ pins, p.1 ≠ a) : Inv X pins σ (upd H a (excHO a C)) s := by
  have up : ∀ {b : Addr} {o : HO}, H b = some o → upd H a (excHO a C) b = some o := fun {b o} e => by
    have ne : b ≠ a := fun z => by
      rw [z, na] at e
      cases e
    rw [upd_ne ne]
    exact e
  have off : ∀ {b : Addr}, b ≠ a → H b = none → upd H a (excHO a C) b = none := fun {b} ne e => by
    rw [upd_ne ne]
    exact e
  obtain ⟨ok, os, bare, base, loc, cell, free, freeC, pin, hok, len⟩ := I
  exact {
    ok := ok
    os := os
    bare := bare
    base := {
      keep := base.keep
      slot := base.slot
      free := fun b o e n hx => off (fun z => by rw [z, n0] at e; cases e) (base.free b o e n hx)
      there := base.there
      tups := fun b xs e => up (base.tups b xs e)
      frzs := fun b o u e => up (base.frzs b o u e)
      tbls := fun b ps e => (base.tbls b ps e).elim fun more z => ⟨more, up z⟩ }
    loc := loc
    cell := cell
    free := off (fun z => nL z.symm) free
    freeC := fun x c e => by
      refine off (fun z => ?_) (freeC x c e)
      obtain ⟨v, oc, h1, h2⟩ := cell x c e
      rw [z, ha] at h1
      cases h1
      rw [hd] at h2
      cases h2
    pin := fun p hp => by
      obtain ⟨h1, h2, h3, h4, h5⟩ := pin p hp
      exact ⟨h1, off (np p hp) h2, h3, h4, h5⟩
    hok := fun b o e => by
      by_cases z : b = a
      · subst z
        rw [upd_same] at e
        cases e
        exact ⟨⟨oe, vs, ha, hc, hdi, hd⟩, ⟨oe, ha⟩, fun h1 h2 ⟨o', vs', p1, p2, p3, p4⟩ k => ⟨o', vs', k _ p1, p2, p3, p4⟩⟩
      · rw [upd_ne z] at e
        exact (hok b o e).stay (fun _ _ _ q => q) (fun _ q => up q) fun _ _ q => up q
    len := len }
end

/-- what 'except x as n' wishes where its suite keeps the error: every exception is one that it names -/
def wKeep (K : PySem.W.Frag) (c : Value) (i : Nat) (ts : Addr → Value → Option Addr → TS) (D : Ends) : WX := fun cls d σ H => ∃ C, cls = .ref C ∧ d = none ∧ PySem.W.exmOne K cls c = some true ∧
  ∀ a, H a = none → ts a cls d { nx := fun σ' H' => H' a = none → D.nx (σ'.set i none) (upd H' a (excHO a C)), rt := fun _ _ => False, bk := fun _ _ => False, ct := fun _ _ => False } (σ.set i (some (.ref a))) H
section
variable {X : Cx} {x n : Str} {c : Value} {i : Nat} {body suite : List Stmt} {b₀ : Stmt} {np pos pos' : Pos} {tb : WX → TS} {ts : Addr → Value → Option Addr → TS}
theorem ps_try_keep (hs : X.stack = X.env :: X.outer) (hf : X.env.frame = some X.env.locals) (hex0 : X.ex = []) (hN : X.N.Nodup) (hi : X.N[i]? = some n) (hln : X.env.kindOf n = some .local) (hc : Names X x c)
    (hb : ∀ (W : WX) (pn : List (Addr × Obj)) (xe : Value → Shared → Prop), Takes (X.tr pn xe) W → PassesOwn (model X.prog X.w) X.A X.env xe → PSs (X.tr pn xe) body (tb W))
    (hsu : ∀ (a : Addr) (oe : Obj) (cls : Value) (d : Option Addr) (pn : List (Addr × Obj)), Zc cls d oe → (∃ vs, oe.data = .fields vs) → PSs (X.suite a ((a, oe) :: pn)) (b₀ :: suite) (ts a cls d)) :
    PS X (.Try body [.ExceptHandler (some (.Name x np)) (some n) (b₀ :: suite) pos'] [] [] pos) (fun D σ H => tb (wKeep X.K c i ts D) D σ H) := by
  constructor
  intro pins s σ H D I w
  have fr : X.A.frames = some (X.env :: X.outer) := I.ok.frames.trans (congrArg some hs)
  apply wpAny_Try_except
  let handler : Value → Shared → Prop := fun e s₁ => wpAny (model X.prog X.w) X.A (noteFrame e X.env) (fun _ s₂ => wpAny (model X.prog X.w) X.A (setFlight e none)
    (fun _ s₃ => wpAny (model X.prog X.w) X.A (handleBy e X.env [.ExceptHandler (some (.Name x np)) (some n) (b₀ :: suite) pos']) (SP X pins D) X.xe s₃) X.xe s₂) X.xe s₁
  have catches : Takes (X.tr (X.pn ++ pins) handler) (wKeep X.K c i ts D) := by
    rintro u s' ⟨a, B, sI, pins', σ', H', cls, d, rfl, J, nb, up, sky, na, os, ag, C, rfl, rfl, hex, hw⟩
    have J1 : Inv X pins σ' H' sI := J.ofTry I.ok
    have sky1 : Sky B (X.env :: X.outer) a (Zc (.ref C) none) X.env.locals s'.heap := hs ▸ sky
    apply Sky.land Zc.steady fr hf sky1
    intro h3 fl up3
    have J3 : Inv X pins σ' H' { s' with heap := h3 } := J1.landed nb fl.1 (up.trans up3) os ag
    obtain ⟨o3, v3, g3, z3, d3⟩ := fl.there
    have offFrames : a ∉ frs (X.env :: X.outer) := fun hm => by
      obtain ⟨_, o', e', hnf⟩ := fl.2.2.1.mem hm
      rw [g3] at e'
      cases e'
      exact hnf _ d3
    have nL : a ≠ X.env.locals := fun z => offFrames (List.mem_filterMap.mpr ⟨X.env, .head _, by rw [hf, z]⟩)
    have nF : a ∉ X.fs := fun hm => offFrames (let ⟨e, he, q⟩ := List.mem_filterMap.mp hm; List.mem_filterMap.mpr ⟨e, .tail _ he, q⟩)
    have newI : sI.heap.get? a = none := by
      cases e : sI.heap.get? a with
      | none => rfl
      | some o =>
        have := nb a o e (by rw [show (X.tr (X.pn ++ pins) handler).stack = X.env :: X.outer from hs]; exact offFrames)
        rw [fl.2.1] at this
        cases this
    have n0 : X.s_0.heap.get? a = none := by
      cases e : X.s_0.heap.get? a with
      | none => rfl
      | some o =>
        obtain ⟨o', e'⟩ := J1.base.there a o e (by rw [hex0]; exact List.not_mem_nil)
        rw [newI] at e'
        cases e'
    have nP : ∀ p ∈ X.pn ++ pins, p.1 ≠ a := fun p hp z => by
      obtain ⟨e, _⟩ := J1.pin p hp
      rw [z, newI] at e
      cases e
    have S3 := J3.suite g3 d3 na nL nF
    refine wpAny_handleBy_cons (codeAny_handlers_test ?_) (by intro q; cases q)
    have looks : PySem.W.Looks (model X.prog X.w) h3 (typeOf (.ref a)) (.ref C) := fun A Q E s k q => wpAny_typeOf_ref (k _ _ g3) (by rw [z3.1]; exact q)
    have hit := PySem.W.exm_one (M := model X.prog X.w) J3.kIn looks hex
    obtain ⟨hg, hdb, hm⟩ := hc
    have named : ∀ {Q : Value → Shared → Prop} {E : Value → Shared → Prop}, Q c { s' with heap := h3 } → wpAny (model X.prog X.w) (X.A.mark (some (.ref a))) (eval (.Name x np) X.env) Q E { s' with heap := h3 } := fun {Q E} q => by
      rcases hm with hm | ⟨hm, hv, hnn⟩
      · exact ld_glob (X := X.suite a ((a, o3) :: (X.pn ++ pins))) S3 hg hm q hdb
      · exact ld_blt (X := X.suite a ((a, o3) :: (X.pn ++ pins))) S3 hg hm hv q hnn hdb
    refine named (hit.here (codeAny_handlers_suite_as (HandSPX.lands_againZ fl fun h4 fl4 up4 => ?_)))
    have J4 : Inv X pins σ' H' { s' with heap := h4 } := J1.landed nb fl4.1 ((up.trans up3).trans up4) os ag
    obtain ⟨o4, v4, g4, z4, d4⟩ := fl4.there
    have S4 := J4.suite g4 d4 na nL nF
    refine store_ok (X := X.suite a ((a, o4) :: (X.pn ++ pins))) (v := .ref a) S4 hN hi (.inl hln) rfl (fun s5 S5 => ?_) (.inr hln)
    refine wpAny_mono ((hsu a o4 (.ref C) none (X.pn ++ pins) z4 ⟨_, d4⟩).run [] s5 _ H' _ S5 (hw a na)) (fun f s6 out => ?_) (fun _ _ z => False.elim z)
    cases f with
    | next =>
      obtain ⟨σ6, H6, S6, q6⟩ := out
      obtain ⟨p1, p2, p3, p4, p5⟩ := S6.pin (a, o4) (List.mem_append.mpr (.inl (.head _)))
      exact gone_ok (adopt (S6.unsuite I.ok) p2 p1 d4 z4.1 z4.2 n0 p3 nP) hN hi hln fun s7 J7 => ⟨_, _, J7, q6 p2⟩
    | brk => exact (out.elim fun _ z => z.elim fun _ z => z.2 : False).elim
    | cont => exact (out.elim fun _ z => z.elim fun _ z => z.2 : False).elim
    | ret u => exact (out.elim fun _ z => z.elim fun _ z => z.elim fun _ z => z.2.2 : False).elim
  refine wpAny_mono ((hb (wKeep X.K c i ts D) (X.pn ++ pins) handler catches PassesOwn.looking).run [] s σ H D (I.toTry _) w) (fun f s1 out => ?_) (fun e s1 z => z)
  cases f with
  | next =>
    obtain ⟨σ', H', J, q⟩ := out
    exact wpAny_execs_nil ⟨σ', H', J.ofTry I.ok, q⟩
  | brk =>
    obtain ⟨σ', H', J, q⟩ := out
    exact ⟨σ', H', J.ofTry I.ok, q⟩
  | cont =>
    obtain ⟨σ', H', J, q⟩ := out
    exact ⟨σ', H', J.ofTry I.ok, q⟩
  | ret u =>
    obtain ⟨v, σ', H', J, r, q⟩ := out
    exact ⟨v, σ', H', J.ofTry I.ok, r, q⟩
end
end Dn

set_option Elab.async false
set_option linter.all false
set_option maxRecDepth 100000
set_option maxHeartbeats 2000000
/-! what may raise, by what is computed -/
namespace Dn
open PySem PySem.Spec PyProof.Rows L2 Evl

inductive Rx where
  | val (d : Dt) (k : Int)
  | exc (c : Str) (k : Int)
abbrev DX := Ev → Int → Option Rx
abbrev Fx := List Dt → Int → Option Rx
/-- a class of the module whose instances are raised -/
structure ExK (K : PySem.W.Frag) (mg : Str → Option Value) (x : Str) (C : Addr) : Prop where
  g : mg x = some (.ref C)
  q : PySem.W.excIn K C [.type "ValueError", .type "Exception", .type "BaseException", .type "object"] "ValueError.__new__" = true
  kp : PySem.W.keepIn K (.ref C) = true
  sb : PySem.W.subIn K (.ref C) (.type "BaseException") = some true
  ty : PySem.W.typeIn K (.ref C) = some (.type "type")
def spX (K : Fr) (f : Fx) : Sp := fun vs H Q E => ∃ m F k ds r, Ex F H ∧ Ctr m F H k ∧ RpA K m F vs ds ∧ f ds k = some r ∧ match r with
  | .val d k' => ∀ v F' H', Grow m F H F' H' → Ctr m F' H' k' → Rp K m F' v d → Q v H'
  | .exc c k' => ∀ C F' H', K.mg c = some (.ref C) → Grow m F H F' H' → Ctr m F' H' k' → E (.ref C) none H'
/-- the wish about exceptions that belongs to W -/
def wxOf (mg : Str → Option Value) (W : WE) : WX := fun cls d σ H => ∃ c C, cls = .ref C ∧ d = none ∧ mg c = some (.ref C) ∧ W c σ H
def TkW (X : Cx) (W : WE) : Prop := Takes X (wxOf X.mg W)
@[simp] def dDefX (n sl : Nat) (body : DS) : Fx := fun ds k => if ds.length = n then (body (startE sl ds) k).bind fun o => match o with
  | .ret d k' => some (.val d k')
  | .retL es k' => some (.val (.list es) k')
  | .next _ k' => some (.val .none k')
  | .exc c _ k' => some (.exc c k')
  | _ => none else none
section
variable {X : Cx} {m : Option Addr} {F0 H0 : Hp} {W : WE} {a b c e tg it : Expr} {es : List Expr} {pos : Pos} {st : Stmt} {sts : List Stmt} {C : CXT} {k : Nat} {fa : Addr} {fd : FuncData} {ps : List Str} {sp : Sp} {E : L2.St → XK}
theorem pe_callGS {x : Str} {p pos : Pos} {e : Expr} {es : List Expr} {t : TA} (F : FnG X.prog X.w X.K X.mg X.base C k fa fd ps sp) (gd : X.A.guards = some []) (hr : Room k X.A) (hm : X.mg x = some (.ref fa)) (hk : PySem.W.keepIn X.K (.ref fa) = true) (hb : Binds X.K fd ps []) (hx : ∀ σ, PassesAt C X σ (E σ))
    (ha : PA X (e :: es) t) (hg : Gl X x := by rfl) (hdb : (x == ("__debug__" : Str)) = false := by decide) (he : starEach (e :: es) X.env = (false, eval e X.env) :: starEach es X.env := by rfl) (hpl : (backTo pos (starEach es X.env)).any (·.1) = false := by rfl) :
    PE X (.Call (.Name x p) (e :: es) [] pos) (fun σ H Q => t σ H fun vs H1 => sp vs H1 Q (E σ)) := by
  refine ⟨fun pins s σ H Q I h => wpAny_Call_Name_kw (ld_glob I hg hm ?_ hdb)⟩
  refine PySem.W.callWith_K (h₀ := X.base) I.ok.mod.kin hk (thn (ha.run pos pins s σ H _ I h) fun us s1 ⟨vs, H1, I1, r, q⟩ => ⟨I1.kIn, ?_⟩) he hpl
  have len : us.length = ps.length := by
    rw [← r.length]
    exact F.few _ _ _ _ q
  have bd := hb s1 us I1.kIn (by rw [List.append_nil]; exact len)
  rw [List.append_nil] at bd
  refine wpAny_call (codeAny_mono (F.go X.A X.stack s1 H1 ⟨us, []⟩ us vs Q (E σ) gd hr I1.env0 bd r q) fun rs s' hq => ?_)
  cases rs with
  | error e => exact hx σ pins H1 s1 e s' I1 hq
  | ok fl =>
    cases fl with
    | ret u => exact I1.after hq
    | next => exact hq.elim
    | brk => exact hq.elim
    | cont => exact hq.elim
/-- a call that raises nothing -/
@[simp] def dCallX (f : Fx) (g : DL) : DE := fun ρ k => (g ρ k).bind fun p => (f p.1 p.2).bind fun r => match r with
  | .val d k' => some (d, k')
  | .exc _ _ => none
theorem e_callX {j : Nat} {f : Fx} {g : DL} {x : Str} {p : Pos} (G : FnG X.prog X.w X.K X.mg X.base (L2.CX X.prog X.w) j fa fd ps (spX X.fr f)) (gd : X.A.guards = some []) (hr : Room j X.A) (hm : X.mg x = some (.ref fa)) (hk : PySem.W.keepIn X.K (.ref fa) = true)
    (hb : Binds X.K fd ps []) (ha : PA X (e :: es) (tAr X.fr m g)) (hg : Gl X x := by rfl) (hdb : (x == ("__debug__" : Str)) = false := by decide) (he : starEach (e :: es) X.env = (false, eval e X.env) :: starEach es X.env := by rfl) (hpl : (backTo pos (starEach es X.env)).any (·.1) = false := by rfl) :
    PE X (.Call (.Name x p) (e :: es) [] pos) (tE X.fr m (dCallX f g)) := impPE (pe_callGS (E := fun _ _ _ _ => False) G gd hr hm hk hb (fun σ pins H s e s' I ⟨_, _, _, _, _, _, _, _, _, _, _, _, z⟩ => z.elim) ha hg hdb he hpl) fun σ H Q ⟨F, ρ, k, d, k', R, hf, q⟩ => by
  unfold dCallX at hf
  obtain ⟨⟨ds, k1⟩, h1, hf⟩ := Option.bind_eq_some_iff.mp hf
  obtain ⟨r, h2, hf⟩ := Option.bind_eq_some_iff.mp hf
  refine ⟨F, ρ, k, ds, k1, R, h1, fun vs F1 H1 g1 c1 ra => ?_⟩
  cases r with
  | exc c k2 => cases hf
  | val d2 k2 =>
    cases hf
    exact ⟨m, F1, k1, ds, _, g1.fh, c1, ra, h2, fun v F' H' g' c' r' => q v F' H' (g1.trans c1 g') c' r'⟩

/-! expressions that may raise -/
def tX (K : Fr) (m : Option Addr) (F0 H0 : Hp) (W : WE) (f : DX) : TE := fun σ H Q => ∃ F ρ k r, Rs K m F0 H0 F ρ k σ H ∧ f ρ k = some r ∧ match r with
  | .val d k' => ∀ v F' H', Grow m F H F' H' → Ctr m F' H' k' → Rp K m F' v d → Q v H'
  | .exc c k' => ∀ F' H', Ex F F' → Rs K m F0 H0 F' ρ k' σ H' → W c σ H'
@[simp] def xOf (f : DE) : DX := fun ρ k => (f ρ k).map fun p => .val p.1 p.2
theorem x_e {f : DE} (h : PE X e (tE X.fr m f)) : PE X e (tX X.fr m F0 H0 W (xOf f)) := impPE h fun σ H Q ⟨F, ρ, k, r, R, hf, q⟩ => by
  unfold xOf at hf
  obtain ⟨⟨d, k1⟩, h1, rfl⟩ := Option.map_eq_some_iff.mp hf
  exact ⟨F, ρ, k, d, k1, R.rl, h1, q⟩
@[simp] def xCall (f : Fx) (g : DL) : DX := fun ρ k => (g ρ k).bind fun p => f p.1 p.2
theorem x_call {j : Nat} {f : Fx} {g : DL} {x : Str} {p : Pos} (tk : TkW X W) (G : FnG X.prog X.w X.K X.mg X.base (L2.CX X.prog X.w) j fa fd ps (spX X.fr f)) (gd : X.A.guards = some []) (hr : Room j X.A) (hm : X.mg x = some (.ref fa)) (hk : PySem.W.keepIn X.K (.ref fa) = true)
    (hb : Binds X.K fd ps []) (ha : PA X (e :: es) (tAr X.fr m g)) (hg : Gl X x := by rfl) (hdb : (x == ("__debug__" : Str)) = false := by decide) (he : starEach (e :: es) X.env = (false, eval e X.env) :: starEach es X.env := by rfl) (hpl : (backTo pos (starEach es X.env)).any (·.1) = false := by rfl) :
    PE X (.Call (.Name x p) (e :: es) [] pos) (tX X.fr m F0 H0 W (xCall f g)) := impPE (pe_callGS (E := fun σ cls d H => wxOf X.mg W cls d σ H) G gd hr hm hk hb (fun σ pins H s e s' I c => tk e s' (XE.of_call I (fun cls d H' z => z) c)) ha hg hdb he hpl) fun σ H Q ⟨F, ρ, k, r, R, hf, q⟩ => by
  unfold xCall at hf
  obtain ⟨⟨ds, k1⟩, h1, hf⟩ := Option.bind_eq_some_iff.mp hf
  refine ⟨F, ρ, k, ds, k1, R.rl, h1, fun vs F1 H1 g1 c1 ra => ?_⟩
  refine ⟨m, F1, k1, ds, r, g1.fh, c1, ra, hf, ?_⟩
  cases r with
  | val d k2 => exact fun v F' H' g' c' r' => q v F' H' (g1.trans c1 g') c' r'
  | exc c k2 => exact fun C F' H' hC g' c' => ⟨c, C, rfl, rfl, hC, q F' H' (g1.trans c1 g').ff (R.grow (g1.trans c1 g') c')⟩
@[simp] def xIf (t : DT) (f g : DX) : DX := fun ρ k => (t ρ k).bind fun p => if p.1 = true then f ρ p.2 else g ρ p.2
theorem x_if {t : DT} {f g : DX} (ht : PT X c (tT X.fr m t)) (ha : PE X a (tX X.fr m F0 H0 W f)) (hb : PE X b (tX X.fr m F0 H0 W g)) : PE X (.IfExp c a b pos) (tX X.fr m F0 H0 W (xIf t f g)) := impPE (pe_ifExp ht ha hb) fun σ H Q ⟨F, ρ, k, r, R, hf, q⟩ => by
  unfold xIf at hf
  obtain ⟨⟨bb, k1⟩, h1, hf⟩ := Option.bind_eq_some_iff.mp hf
  refine ⟨F, ρ, k, bb, k1, R.rl, h1, fun F' H' g' c' => ?_⟩
  have imp : ∀ {f' : DX}, f' ρ k1 = some r → tX X.fr m F0 H0 W f' σ H' Q := fun h => ⟨F', ρ, k1, r, R.grow g' c', h, by
    cases r with
    | val d k2 => exact fun v F2 H2 g2 c2 r2 => q v F2 H2 (g'.trans c' g2) c2 r2
    | exc c k2 => exact fun F2 H2 e2 R2 => q F2 H2 (g'.ff.trans e2) R2⟩
  cases bb with
  | true => exact imp hf
  | false => exact imp hf
/-- an operator between two such: nothing that the first one gives is a list held alone -/
@[simp] def xB (g : Dt → Dt → Option Dt) (fa fb : DX) : DX := fun ρ k => (fa ρ k).bind fun p => match p with
  | .exc c k1 => some (.exc c k1)
  | .val x k1 => (fb ρ k1).bind fun q => match q with
    | .exc c k2 => some (.exc c k2)
    | .val y k2 => (g x y).map fun d => .val d k2
theorem x_opIn {g : Dt → Dt → Option Dt} {fa fb : DX} {σ : L2.St} {H : Hp} {Q : VK} (w : tX X.fr m F0 H0 W (xB g fa fb) σ H Q) : tOp (roD X.fr m g) (tX X.fr m F0 H0 W fa) (tX X.fr m F0 H0 W fb) σ H Q := by
  obtain ⟨F, ρ, k, r, R, hf, q⟩ := w
  unfold xB at hf
  obtain ⟨p, h1, hf⟩ := Option.bind_eq_some_iff.mp hf
  refine ⟨F, ρ, k, p, R, h1, ?_⟩
  cases p with
  | exc c k1 =>
    cases hf
    exact q
  | val x k1 =>
    obtain ⟨p2, h2, hf⟩ := Option.bind_eq_some_iff.mp hf
    refine fun v1 F1 H1 g1 c1 r1 => ⟨F1, ρ, k1, p2, R.grow g1 c1, h2, ?_⟩
    cases p2 with
    | exc c k2 =>
      cases hf
      exact fun F2 H2 e2 R2 => q F2 H2 (g1.ff.trans e2) R2
    | val y k2 =>
      obtain ⟨d, h3, rfl⟩ := Option.map_eq_some_iff.mp hf
      exact fun v2 F2 H2 g2 c2 r2 => ⟨F2, k2, x, y, d, g2.fh, c2, .inl (r1.mono g2.ff), .inl r2, h3, fun v F' H' g' c' r => q v F' H' ((g1.trans c1 g2).trans c2 g') c' r⟩
theorem x_op {op : Operator} {g : Dt → Dt → Option Dt} {fa fb : DX} (ha : PE X a (tX X.fr m F0 H0 W fa)) (hb : PE X b (tX X.fr m F0 H0 W fb)) (hr : OpR X (binaryOp op) (roD X.fr m g)) : PE X (.BinOp a op b pos) (tX X.fr m F0 H0 W (xB g fa fb)) := impPE (pe_op hr ha hb) fun _ _ _ w => x_opIn w
theorem x_cmp {op : CmpOp} {g : Dt → Dt → Option Dt} {fa fb : DX} (ha : PE X a (tX X.fr m F0 H0 W fa)) (hb : PE X b (tX X.fr m F0 H0 W fb)) (hr : OpR X (compareOp op) (roD X.fr m g)) (hm : behindInMarks op b = false) : PE X (.Compare a [op] [b] pos) (tX X.fr m F0 H0 W (xB g fa fb)) := impPE (pe_cmpR hr ha hb hm) fun _ _ _ w => x_opIn w
/-! statements -/
@[simp] def sExprX (f : DX) : DS := fun ρ k => (f ρ k).bind fun r => match r with
  | .val _ k' => some (.next ρ k')
  | .exc c k' => some (.exc c ρ k')
@[simp] def sSetX (i : Nat) (f : DX) : DS := fun ρ k => (f ρ k).bind fun r => match r with
  | .val d k' => some (.next (ρ.set i (.sh d)) k')
  | .exc c k' => some (.exc c ρ k')
@[simp] def sRetX (f : DX) : DS := fun ρ k => (f ρ k).bind fun r => match r with
  | .val d k' => some (.ret d k')
  | .exc c k' => some (.exc c ρ k')
theorem s_exprX {f : DX} (h : PE X e (tX X.fr m F0 H0 W f)) (hs : swapsWith e none pos.line X.env = pure false := by rfl) : PS X (.Expr e pos) (tS X.fr m F0 H0 W (sExprX f)) := impPS (ps_expr h hs) fun D σ H ⟨F, ρ, k, out, R, hf, q⟩ => by
  unfold sExprX at hf
  obtain ⟨r, h1, hf⟩ := Option.bind_eq_some_iff.mp hf
  refine ⟨F, ρ, k, r, R, h1, ?_⟩
  cases r with
  | val d k' =>
    cases hf
    exact fun v F' H' g c r => q σ F' H' g.ff (R.grow g c)
  | exc c k' =>
    cases hf
    exact fun F' H' e R' => q σ F' H' e R'
theorem s_setX (i : Nat) {x : Str} {f : DX} {pos' : Pos} (hN : X.N.Nodup) (h : PE X e (tX X.fr m F0 H0 W f)) (hi : X.N[i]? = some x := by rfl) (hx : Loc X.env.scope x := by first | exact .inl rfl | exact .inr rfl) (hs : swapsWith e (some (.Name x pos')) pos.line X.env = pure false := by rfl)
    (hf : X.fn x = true ∨ X.env.scope.names.lookup x = some .local := by first | exact .inl rfl | exact .inr rfl | assumption) : PS X (.Assign [.Name x pos'] e pos) (tS X.fr m F0 H0 W (sSetX i f)) := impPS (ps_set hN hi hx h hs hf) fun D σ H ⟨F, ρ, k, out, R, hf, q⟩ => by
  unfold sSetX at hf
  obtain ⟨r, h1, hf⟩ := Option.bind_eq_some_iff.mp hf
  refine ⟨F, ρ, k, r, R, h1, ?_⟩
  cases r with
  | val d k' =>
    cases hf
    exact fun v F' H' g c r => q _ F' H' g.ff ⟨(R.rl.grow g c).set_sh r, R.gr.trans R.rl.ctr g, fun j p h => R.own j p (own_set_sh h).1⟩
  | exc c k' =>
    cases hf
    exact fun F' H' e R' => q σ F' H' e R'
theorem s_retX {f : DX} (h : PE X e (tX X.fr m F0 H0 W f)) : PS X (.Return (some e) pos) (tS X.fr m F0 H0 W (sRetX f)) := impPS (ps_ret h) fun D σ H ⟨F, ρ, k, out, R, hf, q⟩ => by
  unfold sRetX at hf
  obtain ⟨r, h1, hf⟩ := Option.bind_eq_some_iff.mp hf
  refine ⟨F, ρ, k, r, R, h1, ?_⟩
  cases r with
  | val d k' =>
    cases hf
    exact fun v F' H' g c r => q v F' H' (R.gr.trans R.rl.ctr g) c r
  | exc c k' =>
    cases hf
    exact fun F' H' e R' => q σ F' H' e R'
@[simp] def sRaise (c : Str) (f : DL) : DS := fun ρ k => (f ρ k).bind fun p => if p.1.length ≤ 1000 then some (.exc c ρ p.2) else none
theorem s_raise {x : Str} {f : DL} {C : Addr} {p p2 : Pos} (tk : TkW X W) (hc : X.calm = true) (K : ExK X.K X.mg x C) (ha : PA X (e :: es) (tAr X.fr m f)) (hg : Gl X x := by rfl) (hdb : (x == ("__debug__" : Str)) = false := by decide)
    (he : starEach (e :: es) X.env = (false, eval e X.env) :: starEach es X.env := by rfl) (hpl : (backTo p2 (starEach es X.env)).any (·.1) = false := by rfl) : PS X (.Raise (some (.Call (.Name x p) (e :: es) [] p2)) none pos) (tS X.fr m F0 H0 W (sRaise x f)) :=
  impPS (ps_raise hc tk (pmk_ownA PySem.F.excBase_ValueError K.q K.g K.kp (raises_own K.sb K.ty) hg ha hdb he hpl)) fun D σ H ⟨F, ρ, k, out, R, hf, q⟩ => by
  unfold sRaise at hf
  obtain ⟨⟨ds, k1⟩, h1, hf⟩ := Option.bind_eq_some_iff.mp hf
  simp only at hf
  split at hf
  · rename_i hl
    cases hf
    refine ⟨F, ρ, k, ds, k1, R.rl, h1, fun vs F' H' g c ra => ⟨?_, x, C, rfl, rfl, K.g, q σ F' H' g.ff (R.grow g c)⟩⟩
    rw [ra.length]
    exact small_line (Nat.le_trans hl (by decide))
  · cases hf
end
section
variable {P : Program} {w : World} {K : PySem.W.Frag} {mg : Str → Option Value} {base : Heap}
theorem fnX_D {x qual : Str} {st : Stmt} {f : Addr} {fd : FuncData} {N ps : List Str} {j : Nat} (G : Fun K x qual st f fd) (S : FnScope N ps (defScope st)) (body : DS)
    (hb : ∀ (cdv : Value) (A : Around) (outer : List PySem.Env) (s : Shared) (H : Hp) (E : XK) (m : Option Addr) (F0 : Hp) (W : WE), (A.deeper (envOfC qual (defScope st) s.heap.objs.size f cdv)).guards = some [] → Room j (A.deeper (envOfC qual (defScope st) s.heap.objs.size f cdv)) →
      TkW (cxOf (L2.CX P w) P w K mg base N qual (defScope st) f cdv A outer s H E) W →
      PSs (cxOf (L2.CX P w) P w K mg base N qual (defScope st) f cdv A outer s H E) (defBody st) (tS ⟨K, P, w, mg⟩ m F0 H W body)) : FnG P w K mg base (L2.CX P w) (j + 1) f fd ps (spX ⟨K, P, w, mg⟩ (dDefX ps.length N.length body)) := by
  obtain ⟨oc, od, kV, doc, pm, an, cdv, ct, osl, rfl, lk, hcd⟩ := G.ex
  refine fnG_body lk hcd S (fun vs H Q E h => ?_) (fun A outer s H vs Q E gd hr h => ?_)
  · obtain ⟨m, F, k, ds, r, e, c, ra, hf, q⟩ := h
    unfold dDefX at hf
    split at hf
    · rw [ra.length]
      assumption
    · cases hf
  · obtain ⟨m, F, k, ds, r, e, c, ra, hf, q⟩ := h
    refine ⟨_, hb cdv A outer s H E m F (fun cx _ H' => ∀ C, mg cx = some (.ref C) → E (.ref C) none H') gd hr ?_, ?_⟩
    · refine (takes_of (E := E) rfl rfl rfl rfl).imp fun cls d σ H' ⟨cx, C, e1, e2, e3, z⟩ => ?_
      subst e1
      subst e2
      exact z C e3
    · unfold dDefX at hf
      split at hf
      · obtain ⟨o, h1, hf⟩ := Option.bind_eq_some_iff.mp hf
        refine ⟨F, _, k, o, ⟨rl_start e c ra, .refl e, fun i p ⟨c, h, hc, _⟩ => (startE_ow h hc).elim⟩, h1, ?_⟩
        cases o with
        | ret d' k1 =>
          cases hf
          exact fun v F' H' g c' r' => q v F' H' g c' r'
        | retL es k1 =>
          cases hf
          exact fun p ws F' H' g c' hp fp h' r' => q _ (upd F' p (.lst ws)) H' (g.freeze hp h') (c'.freeze (c.ne hp)) (.lst (.inl (.inl upd_same)) (r'.mono (ex_freeze fp)))
        | next ρ k1 =>
          cases hf
          exact fun σ' F' H' _ R => q .non F' H' R.gr R.rl.ctr .non
        | exc cx ρ k1 =>
          cases hf
          exact fun σ' F' H' _ R C hC => q C F' H' hC R.gr R.rl.ctr
        | _ => cases hf
      · cases hf
end
end Dn

set_option Elab.async false
set_option linter.all false
set_option maxRecDepth 100000
set_option maxHeartbeats 2000000
/-! errors that are kept; isinstance of them; count, index -/
namespace Dn
open PySem PySem.Spec PyProof.Rows L2 Evl

/-- the classes of the module's own errors, straight under the one that J names -/
structure Errs (K : PySem.W.Frag) (mg : Str → Option Value) (J : Str) (names : List Str) : Prop where
  ex : ∀ c ∈ names, ∃ C, ExK K mg c C ∧ ExcC K C ∧ PySem.W.kitOne K (.ref C) (.type "ValueError") = some true
  jn : ∃ CJ, mg J = some (.ref CJ) ∧ ∀ c ∈ names, ∀ C, mg c = some (.ref C) → PySem.W.exmOne K (.ref C) (.ref CJ) = some true
  is : ∀ c ∈ names, ∀ c' ∈ names, ∀ C C', mg c = some (.ref C) → mg c' = some (.ref C') → PySem.W.kitOne K (.ref C) (.ref C') = some (decide (c = c'))
@[simp] def sTryKeep (names : List Str) (i j : Nat) (f : DS) : DS := fun ρ k => (f ρ k).bind fun o => match o with
  | .exc c ρ' k' => if c ∈ names ∧ i < ρ'.length then some (.next ((ρ'.set j (.sh (excD c))).set i .un) k') else none
  | o => some o
section
variable {X : Cx} {m : Option Addr} {F0 H0 : Hp} {W : WE} {a b c e tg it : Expr} {es : List Expr} {pos : Pos} {st : Stmt} {sts : List Stmt}
theorem own_un {ρ : Ev} {σ : L2.St} {i j : Nat} {q : Addr} (h : Own (ρ.set i .un) (σ.set i none) j q) : Own ρ σ j q := by
  obtain ⟨d, a1, a2, a3⟩ := h
  by_cases z : i = j
  · subst z
    by_cases hl : i < ρ.length
    · rw [List.getElem?_set_self hl] at a1
      cases a1
      cases a2
    · rw [List.getElem?_eq_none (by simpa using hl)] at a1
      cases a1
  · rw [List.getElem?_set_ne z] at a1 a3
    exact ⟨d, a1, a2, a3⟩
theorem s_tryKeep (names : List Str) (i j : Nat) {J n n2 : Str} {body : List Stmt} {np p1 p2 p3 pos' : Pos} {f : DS} (hs : X.stack = X.env :: X.outer) (hf : X.env.frame = some X.env.locals) (hex0 : X.ex = []) (hN : X.N.Nodup) (hij : i ≠ j) (T : Errs X.K X.mg J names)
    (hb : ∀ (pn : List (Addr × Obj)) (xe : Value → Shared → Prop) (W' : WE), TkW (X.tr pn xe) W' → PSs (X.tr pn xe) body (tS X.fr m F0 H0 W' f))
    (hi : X.N[i]? = some n := by rfl) (hln : X.env.kindOf n = some .local := by rfl) (hj : X.N[j]? = some n2 := by rfl) (hx2 : Loc X.env.scope n2 := by first | exact .inl rfl | exact .inr rfl) (hv : Vis X.env.scope n := by first | exact Or.inl rfl | exact Or.inr (Or.inl rfl) | exact Or.inr (Or.inr rfl))
    (hg : Gl X J := by rfl) (hdb : (J == ("__debug__" : Str)) = false := by decide) (hd : (n == ("__debug__" : Str)) = false := by decide) (hcd : (n == ("__classdict__" : Str)) = false := by decide)
    (hsw : swapsWith (.Name n p1) (some (.Name n2 p2)) p3.line X.env = pure false := by rfl) (hfl : X.fn n2 = true ∨ X.env.scope.names.lookup n2 = some .local := by first | exact .inl rfl | exact .inr rfl | assumption) :
    PS X (.Try body [.ExceptHandler (some (.Name J np)) (some n) [.Assign [.Name n2 p2] (.Name n p1) p3] pos'] [] [] pos) (tS X.fr m F0 H0 W (sTryKeep names i j f)) := by
  obtain ⟨CJ, gJ, hJ⟩ := T.jn
  have wtk : ∀ (W1 : WX) (pn : List (Addr × Obj)) (xe : Value → Shared → Prop), Takes (X.tr pn xe) W1 → TkW (X.tr pn xe) (fun c σ H => ∀ C, X.mg c = some (.ref C) → W1 (.ref C) none σ H) := fun W1 pn xe tk => tk.imp fun cls d σ H ⟨c, C, e1, e2, e3, z⟩ => by
    subst e1
    subst e2
    exact z C e3
  refine impPS (ps_try_keep (i := i) (tb := fun W1 => tS X.fr m F0 H0 (fun c σ H => ∀ C, X.mg c = some (.ref C) → W1 (.ref C) none σ H) f) (ts := fun _ _ _ => tAsg (tVar i) (gName j)) hs hf hex0 hN hi hln ⟨hg, hdb, .inl gJ⟩ (fun W1 pn xe tk _ => hb pn xe _ (wtk W1 pn xe tk))
    (fun a oe cls d pn _ _ => pss_one (ps_set (X := X.suite a ((a, oe) :: pn)) hN hj hx2 (pe_var (X := X.suite a ((a, oe) :: pn)) hi hv hd hcd) hsw hfl))) fun D σ H ⟨F, ρ, k, out, R, hf, q⟩ => ?_
  unfold sTryKeep at hf
  obtain ⟨o, h1, hf⟩ := Option.bind_eq_some_iff.mp hf
  refine ⟨F, ρ, k, o, R, h1, ?_⟩
  cases o with
  | exc c ρ' k' =>
    simp only at hf
    split at hf
    · rename_i hc
      cases hf
      intro σ' F' H' eF R' C gC
      refine ⟨C, rfl, rfl, hJ c hc.1 C gC, fun a na => ?_⟩
      have hil : i < σ'.length := by rw [← R'.rl.len]; exact hc.2
      refine ⟨.ref a, List.getElem?_set_self hil, fun _ => ?_⟩
      have g : Grow m F' H' (upd F' a (excHO a C)) (upd H' a (excHO a C)) := (Grow.laid R'.rl.sub na).freeze na upd_same
      have c1 : Ctr m (upd F' a (excHO a C)) (upd H' a (excHO a C)) k' := (R'.rl.ctr.laid na).freeze (R'.rl.ctr.ne na)
      have R2 := R'.grow g c1
      have rx : Rp X.fr m (upd F' a (excHO a C)) (.ref a) (excD c) := .exc gC upd_same
      have e1 : ((σ'.set i (some (V.ref a))).set j (some (V.ref a))).set i none = (σ'.set j (some (V.ref a))).set i none := by
        rw [List.set_comm _ _ hij, List.set_set]
      show D.nx (((σ'.set i (some (V.ref a))).set j (some (V.ref a))).set i none) (upd H' a (excHO a C))
      rw [e1]
      exact q _ _ _ (eF.trans g.ff) ⟨(R2.rl.set_sh rx).set_un (i := i), R2.gr, fun z p h => R2.own z p (own_set_sh (own_un h)).1⟩
    · cases hf
  | next ρ' k' =>
    cases hf
    exact q
  | ret d k' =>
    cases hf
    exact q
  | retL d k' =>
    cases hf
    exact q
  | brk ρ' k' =>
    cases hf
    exact q
  | cont ρ' k' =>
    cases hf
    exact q
/-- a try whose body raises nothing -/
theorem s_tryThru {h : ExceptHandler} {hs : List ExceptHandler} {body : List Stmt} {f : DS} (hb : PSs X.nox body (tS X.fr m F0 H0 W f)) : PS X (.Try body (h :: hs) [] [] pos) (tS X.fr m F0 H0 W f) := ps_try_thru0 hb

/-! isinstance of an error -/
@[simp] def gIsE (names : List Str) (c : Str) : Dt → Option Dt
  | .dict [(.none, .str c')] => if c' ∈ names ∧ c ∈ names then some (.bool (decide (c' = c))) else none
  | _ => none
@[simp] def gIsVE (names : List Str) : Dt → Option Dt
  | .dict [(.none, .str c')] => if c' ∈ names then some (.bool true) else none
  | _ => none
def rIsErr (K : Fr) (m : Option Addr) (names : List Str) (cv : V) (u : Value) (bb : Str → Bool) : List V → Hp → VK → Prop := fun xs H Q => ∃ F x c, xs = [x, cv] ∧ Ex F H ∧ Rp K m F x (excD c) ∧ c ∈ names ∧ Q (.bl (bb c)) H
theorem call_isErr {J : Str} {names : List Str} {cv : V} {u : Value} {bb : Str → Bool} (T : Errs X.K X.mg J names) (hu : ∀ v, RelV cv v → v = u) (hk : ∀ c ∈ names, ∀ C, X.mg c = some (.ref C) → PySem.W.kitOne X.K (.ref C) u = some (bb c)) : CallR X (.builtin "isinstance") (rIsErr X.fr m names cv u bb) := by
  intro pins s σ H xs us Q I r h
  obtain ⟨F, x, c, rfl, eF, rx, hc, q⟩ := h
  obtain ⟨u1, u2, rfl, r1, r2⟩ := vals2 r
  have eu := hu _ r2
  subst eu
  generalize hd : excD c = d at rx
  cases rx with
  | exc g hF =>
    rename_i a C c'
    have ec : c' = c := by
      simp [excD] at hd
      exact hd.symm
    subst ec
    cases (show u1 = Value.ref a from r1)
    obtain ⟨⟨oe, vs, p1, p2, p3, p4⟩, _⟩ := (show ObjOk X.prog X.w H s.heap a (excHO a C) from I.hok a _ (eF _ _ hF))
    obtain ⟨C2, ek, ec2, _⟩ := T.ex c' hc
    have e2 : C = C2 := by
      have z : X.mg c' = some (.ref C) := g
      rw [ek.g] at z
      cases z
      rfl
    subst e2
    have J1 : PySem.W.InstAt s.heap a oe C none := by
      obtain ⟨oc, od, oda, osl⟩ := oe
      dsimp only at p2 p3 p4
      subst p2 p3 p4
      exact ⟨p1, rfl, rfl, trivial⟩
    exact PySem.W.kia_one (PySem.W.handS_kitx_exc ec2.hg ec2.hk ec2.hs ec2.hd ec2.ha ec2.hn ec2.ht ec2.hm) I.kIn J1 (hk c' hc C g) (fun z => nomatch z) fun tk => ⟨.bl (bb c'), H, I.kept (t' := tk) fun _ _ z => z, rfl, q⟩
  | ctr h => simp [excD, ctrD] at hd
  | dT h r => simp [excD, dictD] at hd
  | @dK a kvs ds h r =>
    exfalso
    cases kvs with
    | nil => cases hd
    | cons p ps =>
      cases r with
      | cons h r =>
        unfold excD at hd
        simp only [List.map_cons, List.zip_cons_cons, PyData.dict.injEq, List.cons.injEq, Prod.mk.injEq] at hd
        obtain ⟨⟨z, _⟩, _⟩ := hd
        rcases p with ⟨k | k, w⟩ <;> cases z
  | _ => cases hd
theorem e_isErr {J x : Str} {names : List Str} {p1 p2 : Pos} {f : DE} (T : Errs X.K X.mg J names) (hx : x ∈ names) (h : PE X e (tE X.fr m f)) (hm : X.mg "isinstance" = none) (hg : Gl X "isinstance" := by rfl) (hg2 : Gl X x := by rfl)
    (hd2 : (x == ("__debug__" : Str)) = false := by decide) (hv : bootBuiltins "isinstance" = some (.builtin "isinstance") := by decide +kernel)
    (hs1 : starEach [.Name x p2] X.env = [(false, eval (.Name x p2) X.env)] := by rfl) (hs : starEach [e, .Name x p2] X.env = (false, eval e X.env) :: starEach [.Name x p2] X.env := by rfl) (hpl : (backTo pos (starEach [.Name x p2] X.env)).any (·.1) = false := by rfl) :
    PE X (.Call (.Name "isinstance" p1) [e, .Name x p2] [] pos) (tE X.fr m (dU (gIsE names x) f)) := by
  obtain ⟨C, ek, _⟩ := T.ex x hx
  refine impPE (pe_callB (call_isErr (m := m) (cv := .ref C) (u := .ref C) (bb := fun c => decide (c = x)) T (fun v r => r) (fun c hc C' g => T.is c hc x hx C' C g ek.g)) hg hm hv (pa_cons h (pa_cons (pe_glob hg2 ek.g (v := .ref C) rfl hd2) pa_nil hs1) hs) (by decide) (by decide) hs hpl) fun σ H Q ⟨F, ρ, k, d, k', R, hf, q⟩ => ?_
  unfold dU at hf
  obtain ⟨⟨dx, k1⟩, h1, hf⟩ := Option.bind_eq_some_iff.mp hf
  obtain ⟨z, h3, hf⟩ := Option.bind_eq_some_iff.mp hf
  cases hf
  unfold gIsE at h3
  split at h3
  · rename_i c' e1
    split at h3
    · rename_i hc
      cases h3
      simp only at e1
      subst e1
      exact ⟨F, ρ, k, _, k1, R, h1, fun v F' H' g c r => ⟨F', v, c', rfl, g.fh, r, hc.1, q _ F' H' g c (.bl _)⟩⟩
    · cases h3
  · cases h3
theorem e_isVE {J : Str} {names : List Str} {p1 p2 : Pos} {f : DE} (T : Errs X.K X.mg J names) (h : PE X e (tE X.fr m f)) (hm : X.mg "isinstance" = none) (hm2 : X.mg "ValueError" = none) (hg : Gl X "isinstance" := by rfl) (hg2 : Gl X "ValueError" := by rfl)
    (hv : bootBuiltins "isinstance" = some (.builtin "isinstance") := by decide +kernel) (hv2 : bootBuiltins "ValueError" = some (.type "ValueError") := by decide +kernel)
    (hs1 : starEach [.Name "ValueError" p2] X.env = [(false, eval (.Name "ValueError" p2) X.env)] := by rfl) (hs : starEach [e, .Name "ValueError" p2] X.env = (false, eval e X.env) :: starEach [.Name "ValueError" p2] X.env := by rfl) (hpl : (backTo pos (starEach [.Name "ValueError" p2] X.env)).any (·.1) = false := by rfl) :
    PE X (.Call (.Name "isinstance" p1) [e, .Name "ValueError" p2] [] pos) (tE X.fr m (dU (gIsVE names) f)) := by
  refine impPE (pe_callB (call_isErr (m := m) (cv := .ty "ValueError") (u := .type "ValueError") (bb := fun c => true) T (fun v r => r) (fun c hc C' g => ?_)) hg hm hv (pa_cons h (pa_cons (pe_bltn (v := .ty "ValueError") hg2 hm2 hv2 rfl (by decide) (by decide)) pa_nil hs1) hs) (by decide) (by decide) hs hpl) fun σ H Q ⟨F, ρ, k, d, k', R, hf, q⟩ => ?_
  · obtain ⟨C, ek, _, h3⟩ := T.ex c hc
    rw [ek.g] at g
    cases g
    exact h3
  · unfold dU at hf
    obtain ⟨⟨dx, k1⟩, h1, hf⟩ := Option.bind_eq_some_iff.mp hf
    obtain ⟨z, h3, hf⟩ := Option.bind_eq_some_iff.mp hf
    cases hf
    unfold gIsVE at h3
    split at h3
    · rename_i c' e1
      split at h3
      · rename_i hc
        cases h3
        simp only at e1
        subst e1
        exact ⟨F, ρ, k, _, k1, R, h1, fun v F' H' g c r => ⟨F', v, c', rfl, g.fh, r, hc, q _ F' H' g c (.bl _)⟩⟩
      · cases h3
    · cases h3

/-! methods of a list that give a value -/
@[simp] def isLst : Dt → Bool
  | .list _ => true
  | _ => false
@[simp] def dMO (g : Dt → List Dt → Option Dt) (f : DE) (h : DL) : DE := fun ρ k => (f ρ k).bind fun p => if isLst p.1 = true then (h ρ p.2).bind fun q => (g p.1 q.1).bind fun d => some (d, q.2) else none
theorem e_mO {id : String} {name : Str} {pa : Pos} {g : Dt → List Dt → Option Dt} {fo : DE} {fa : DL} {o : Expr} (slot : Slot "list" name id) (hty : typeOf (.builtin id) = pure (.type "method_descriptor")) (hm : MtR X id (rmD X.fr m g)) (ho : PE X o (tO X.fr m fo)) (ha : PA X (e :: es) (tAr X.fr m fa))
    (hbase : attributeBase o name X.env (eval o X.env) = eval o X.env := by rfl)
    (hfew : ((backTo pos (starEach (e :: es) X.env)).all (fun x => !x.1) && (backToKw pos (keywordEach [] X.env)).all (fun x => x.1.isSome)
      && decide ((e :: es).length + ([] : List Keyword).length + (if ([] : List Keyword).isEmpty then 0 else 1) < 30)) = true := by rfl)
    (hline : (pa.endLine == pos.line) = true := by rfl) (hs : starEach (e :: es) X.env = (false, eval e X.env) :: starEach es X.env := by rfl) (hpl : (backTo pos (starEach es X.env)).any (·.1) = false := by rfl) :
    PE X (.Call (.Attribute o name pa) (e :: es) [] pos) (tE X.fr m (dMO g fo fa)) := impPE (pe_bm PySem.F.plainAttrs_list slot hty hm ho ha hbase hfew hline hs hpl) fun σ H Q ⟨F, ρ, k, d, k', R, hf, q⟩ => by
  unfold dMO at hf
  obtain ⟨⟨x, k1⟩, h1, hf⟩ := Option.bind_eq_some_iff.mp hf
  simp only at hf
  split at hf
  · rename_i hx
    obtain ⟨ls, rfl⟩ : ∃ ls, x = .list ls := by cases x <;> simp [isLst] at hx; exact ⟨_, rfl⟩
    obtain ⟨⟨ys, k2⟩, h2, hf⟩ := Option.bind_eq_some_iff.mp hf
    obtain ⟨w, h3, hf⟩ := Option.bind_eq_some_iff.mp hf
    cases hf
    refine ⟨F, ρ, k, _, k1, R, h1, fun v1 F1 H1 g1 c1 r1 => ?_⟩
    obtain ⟨l, xs, rfl, hl, ra⟩ := r1.lst g1.fh
    refine ⟨Or.inl ⟨rfl, _, hl⟩, F1, ρ, k1, ys, k2, R.grow g1 c1, h2, fun vs F2 H2 g2 c2 r2 => ⟨F2, k2, .list ls, ys, d, g2.fh, c2, r1.grow g2, r2.ops, h3, fun v F' H' g' c' r => q v F' H' ((g1.trans c1 g2).trans c2 g') c' r⟩⟩
  · cases hf
@[simp] def gCount : Dt → List Dt → Option Dt
  | .list ds, [.bool b] => (asBs ds).map fun bs => .int (bs.count b : Nat)
  | _, _ => none
theorem countIn_bools (b : Bool) : ∀ bs : List Bool, countIn (.bool b) (bs.map PyData.bool) = ((bs.count b : Nat) : Int)
  | [] => rfl
  | x :: bs => by
    rw [List.map_cons, countIn, countIn_bools b bs, List.count_cons]
    cases x <;> cases b <;> simp [same] <;> omega
theorem ok_count (hu : X.A.units + 64 < cLine) : MtR X "list.count" (rmD X.fr m gCount) := by
  intro pins s σ H x xs v us Q I rx r ⟨F, k, dx, ds, d, e, c, ro, rs, hg, q⟩
  unfold gCount at hg
  split at hg
  · rename_i ds b
    obtain ⟨bs, h1, rfl⟩ := Option.map_eq_some_iff.mp hg
    cases asBs_eq h1
    obtain ⟨l, ys, rfl, hl, ra⟩ := ro.lst e
    obtain ⟨w, rfl, rww⟩ := rs.one
    cases rww.bl
    cases (show v = Value.ref l from rx)
    obtain ⟨u1, rfl, ru⟩ := vals1 r
    cases (show u1 = Value.bool b from ru)
    obtain ⟨its, rv, hli, hz⟩ := I.list hl
    obtain ⟨as, h4⟩ := Dp.readsAll I (bs.map .bool) ys its ((ra.mono e).dp (by
      clear ra h1 q hg ro
      induction bs with
      | nil => rfl
      | cons b bs ih => simpa [PyData.canLayAll0, PyData.canLay0] using ih)) rv
    refine count_list_bools hli.isList h4 (by simp [Shape.has, List.all_map]) ?_
    rw [countIn_bools]
    exact ⟨.int (bs.count b : Nat), H, I.tok _, ⟨_, rfl⟩, ro_int e c rfl q⟩
  · cases hg
theorem e_count {pa : Pos} {fo : DE} {fa : DL} {o : Expr} (hu : X.A.units + 64 < cLine) (ho : PE X o (tO X.fr m fo)) (ha : PA X [e] (tAr X.fr m fa)) (hbase : attributeBase o "count" X.env (eval o X.env) = eval o X.env := by rfl)
    (hfew : ((backTo pos (starEach [e] X.env)).all (fun x => !x.1) && (backToKw pos (keywordEach [] X.env)).all (fun x => x.1.isSome)
      && decide (([e] : List Expr).length + ([] : List Keyword).length + (if ([] : List Keyword).isEmpty then 0 else 1) < 30)) = true := by rfl)
    (hline : (pa.endLine == pos.line) = true := by rfl) (hs : starEach [e] X.env = (false, eval e X.env) :: starEach [] X.env := by rfl) (hpl : (backTo pos (starEach [] X.env)).any (·.1) = false := by rfl) :
    PE X (.Call (.Attribute o "count" pa) [e] [] pos) (tE X.fr m (dMO gCount fo fa)) := e_mO PySem.F.slot_list_count PySem.F.type_list_count (ok_count hu) ho ha hbase hfew hline hs hpl
@[simp] def gIndex : Dt → List Dt → Option Dt
  | .list ds, [d] => if SeqAt.shaped (.list ds) = true ∧ SeqAt.shaped d = true then (ds.findIdx? fun z => PyData.eqv z d).map fun j => .int (j : Nat) else none
  | _, _ => none
theorem ok_index (hu : X.A.units + 65 < cLine) : MtR X "list.index" (rmD X.fr m gIndex) := by
  intro pins s σ H x xs v us Q I rx r ⟨F, k, dx, ds, d, e, c, ro, rs, hg, q⟩
  unfold gIndex at hg
  split at hg
  · rename_i ls z
    split at hg
    · rename_i hs
      obtain ⟨j, hj, rfl⟩ := Option.map_eq_some_iff.mp hg
      obtain ⟨w, rfl, rww⟩ := rs.one
      obtain ⟨hjl, hj1, hj2⟩ := List.findIdx?_eq_some_iff_getElem.mp hj
      have rl := ro.whole e
      have dl := rl.dp (SeqAt.canLay_of_shaped hs.1)
      have dz := (rww.whole e).dp (SeqAt.canLay_of_shaped hs.2)
      cases dl with
      | lst h1 h2 =>
        rename_i la lxs
        refine mt_indexD hu pins s σ H _ _ v us Q I rx r ⟨la, w, z, ls, j, ls[j], rfl, rfl, .lst h1 h2, dz, hs.1, hs.2, List.getElem?_eq_getElem hjl, hj1, fun m' z' hm hz' => ?_, ro_int e c rfl q⟩
        obtain ⟨hml, e3⟩ := List.getElem?_eq_some_iff.mp hz'
        have := hj2 m' hm
        rw [e3] at this
        simpa using this
    · cases hg
  · cases hg
theorem e_index {pa : Pos} {fo : DE} {fa : DL} {o : Expr} (hu : X.A.units + 65 < cLine) (ho : PE X o (tO X.fr m fo)) (ha : PA X [e] (tAr X.fr m fa)) (hbase : attributeBase o "index" X.env (eval o X.env) = eval o X.env := by rfl)
    (hfew : ((backTo pos (starEach [e] X.env)).all (fun x => !x.1) && (backToKw pos (keywordEach [] X.env)).all (fun x => x.1.isSome)
      && decide (([e] : List Expr).length + ([] : List Keyword).length + (if ([] : List Keyword).isEmpty then 0 else 1) < 30)) = true := by rfl)
    (hline : (pa.endLine == pos.line) = true := by rfl) (hs : starEach [e] X.env = (false, eval e X.env) :: starEach [] X.env := by rfl) (hpl : (backTo pos (starEach [] X.env)).any (·.1) = false := by rfl) :
    PE X (.Call (.Attribute o "index" pa) [e] [] pos) (tE X.fr m (dMO gIndex fo fa)) := e_mO PySem.F.slot_list_index PySem.F.type_list_index (ok_index hu) ho ha hbase hfew hline hs hpl
end
end Dn

set_option Elab.async false
set_option linter.all false
set_option maxRecDepth 100000
set_option maxHeartbeats 2000000
/-! small forms: raise by the module's table of errors, extend, par-assignments of lists, texts kept by the module, targets of either kind -/
namespace Dn
open PySem PySem.Spec PyProof.Rows L2 Evl

section
variable {X : Cx} {m : Option Addr} {F0 H0 : Hp} {W : WE} {a b c e tg it : Expr} {es : List Expr} {pos : Pos} {st : Stmt} {sts : List Stmt}
theorem s_raiseE {x J : Str} {names : List Str} {f : DL} {p p2 : Pos} (tk : TkW X W) (hc : X.calm = true) (T : Errs X.K X.mg J names) (hx : x ∈ names) (ha : PA X (e :: es) (tAr X.fr m f)) (hg : Gl X x := by rfl) (hdb : (x == ("__debug__" : Str)) = false := by decide)
    (he : starEach (e :: es) X.env = (false, eval e X.env) :: starEach es X.env := by rfl) (hpl : (backTo p2 (starEach es X.env)).any (·.1) = false := by rfl) : PS X (.Raise (some (.Call (.Name x p) (e :: es) [] p2)) none pos) (tS X.fr m F0 H0 W (sRaise x f)) := by
  obtain ⟨C, K, _⟩ := T.ex x hx
  exact s_raise tk hc K ha hg hdb he hpl
theorem e_globS {x : Str} {s : Str} {pos : Pos} (h : ∃ t, X.mg x = some (.str s t)) (hg : Gl X x := by rfl) (hd : (x == ("__debug__" : Str)) = false := by decide) : PE X (.Name x pos) (tE X.fr m (dC (.str s))) := by
  obtain ⟨t, h⟩ := h
  exact e_of (pe_glob hg h (v := .str s) ⟨t, rfl⟩ hd) fun F => .str s
/-- a new list appended to a list held alone -/
@[simp] def sExt (i : Nat) (f : DL) : DS := fun ρ k => (f ρ k).bind fun p => match ρ[i]? with
  | some (.ow ds) => if ds.length + p.1.length ≤ 1000000 then some (.next (ρ.set i (.ow (ds ++ p.1))) p.2) else none
  | _ => none
theorem s_extend (i : Nat) {x : Str} {px pa pos2 : Pos} {f : DL} (h : PE X e (tL X.fr m f)) (hN : X.N[i]? = some x := by rfl) (hv : Vis X.env.scope x := by first | exact Or.inl rfl | exact Or.inr (Or.inl rfl) | exact Or.inr (Or.inr rfl)) (hd : (x == ("__debug__" : Str)) = false := by decide) (hcd : (x == ("__classdict__" : Str)) = false := by decide)
    (hbase : attributeBase (.Name x px) "extend" X.env (eval (.Name x px) X.env) = eval (.Name x px) X.env := by rfl)
    (hfew : ((backTo pos2 (starEach [e] X.env)).all (fun x => !x.1) && (backToKw pos2 (keywordEach [] X.env)).all (fun x => x.1.isSome)
      && decide (([e] : List Expr).length + ([] : List Keyword).length + (if ([] : List Keyword).isEmpty then 0 else 1) < 30)) = true := by rfl)
    (hline : (pa.endLine == pos2.line) = true := by rfl) (hst : starEach [e] X.env = (false, eval e X.env) :: starEach [] X.env := by rfl) (hpl : (backTo pos2 (starEach [] X.env)).any (·.1) = false := by rfl)
    (hs : swapsWith (.Call (.Attribute (.Name x px) "extend" pa) [e] [] pos2) none pos.line X.env = pure false := by rfl) :
    PS X (.Expr (.Call (.Attribute (.Name x px) "extend" pa) [e] [] pos2) pos) (tS X.fr m F0 H0 W (sExt i f)) :=
  impPS (ps_expr (pe_bm PySem.F.plainAttrs_list PySem.F.slot_list_extend PySem.F.type_list_extend mt_extend (pe_var (i := i) hN hv hd hcd) (pa_cons h pa_nil hst) hbase hfew hline hst hpl) hs) fun D σ H ⟨F, ρ, k, out, R, hf, q⟩ => by
    unfold sExt at hf
    obtain ⟨⟨zs, k1⟩, h1, hf⟩ := Option.bind_eq_some_iff.mp hf
    cases hc : ρ[i]? with
    | none =>
      rw [hc] at hf
      cases hf
    | some cl =>
      rw [hc] at hf
      cases cl with
      | ow ds =>
        replace hf : (if ds.length + zs.length ≤ 1000000 then some (Out.next (ρ.set i (.ow (ds ++ zs))) k1) else none) = some out := hf
        split at hf
        · rename_i hl
          cases hf
          obtain ⟨p, o, h3, hF, hmp, hH, r⟩ := R.rl.ow i _ hc rfl
          obtain ⟨xs, rfl, r⟩ := r
          refine ⟨_, h3, Or.inl ⟨rfl, _, .inl (.inl hH)⟩, F, ρ, k, zs, k1, R.rl, h1, fun q2 vs F' H' g c hq2 fq hH' ra => ?_⟩
          have hp' := g.hh p _ hmp hH
          refine ⟨p, q2, xs, vs, rfl, rfl, hp', hH', ?_, ?_⟩
          · rw [r.length, ra.length]
            exact small_line hl
          · exact q σ F' _ g.ff ((R.grow g c).mut hc rfl h3 rfl ⟨xs ++ vs, rfl, (r.mono g.ff).append ra⟩)
        · cases hf
      | _ => cases hf
end
end Dn

set_option Elab.async false
set_option linter.all false
set_option maxRecDepth 100000
set_option maxHeartbeats 4000000
/-! enumerate of a tuple -/
namespace EnT
open PySem PySem.Spec PyProof.Rows L2
abbrev itO (t : Addr) : Obj := { cls := .type "tuple_iterator", data := .fields #[.ref t, .int 0 0] }
abbrev enO (a : Addr) : Obj := { cls := .type "enumerate", data := .fields #[.none, .bool false, .ref a, rawInt 0, .none, .none] }
theorem new_tup (t : Addr) (items : Array Value) : Meets (Builtin.«enumerate.__new__» ⟨[.type "enumerate", .ref t], []⟩)
    (fun _ R s => s.heap.IsTuple t items ∧ R (.ok (.ret (.ref (s.heap.push (itO t)).objs.size))) { s with heap := (s.heap.push (itO t)).push (enO s.heap.objs.size) }) :=
  .of_wp fun prog w A R s hyp => by
    have hsub := sub_enumerate
    rcases s with ⟨hp, g, d, tk, os⟩
    rcases hyp with ⟨ht, goal⟩
    have starts : ∀ {A' : Around} {E Q : Value → Shared → Prop}, Q (.ref hp.objs.size) ⟨hp.push (itO t), g, d, tk, os⟩ → wpAny (model prog w) A' (pyIter (.ref t)) Q E ⟨hp, g, d, tk, os⟩ := fun q => wpAny_pyIter_tuple ht q
    wp_walk using starts
    apply wpAny_stack_any
    intro st
    apply wpAny_pure
    split
    · rename_i c _ _ _ _ _
      generalize (c == Value.type "enumerate") = z
      cases z <;> (wp_walk using starts; exact ⟨_, rfl, goal⟩)
    · (wp_walk using starts; exact ⟨_, rfl, goal⟩)
section
variable {prog : Program} {w : World} {A : Around} {E : Value → Shared → Prop} {s : Shared}
theorem call_tup {t : Addr} {items : Array Value} {Q : Value → Shared → Prop} (ht : s.heap.IsTuple t items)
    (h : ∀ h', IsEnum h' (s.heap.objs.size + 1) s.heap.objs.size 0 .none → h'.IsTupleIter s.heap.objs.size t 0 → (∀ b o, s.heap.get? b = some o → h'.get? b = some o) → Q (.ref (s.heap.objs.size + 1)) { s with heap := h' }) :
    wpAny (model prog w) A (call (.type "enumerate") [.ref t]) Q E s := by
  have size1 : (s.heap.push (itO t)).objs.size = s.heap.objs.size + 1 := Heap.size_push ..
  apply callType_new F.called_enumerate (by decide) (F.typeCall_enumerate_1 _) (F.newCall_enumerate_1 _) (fun obj => F.args_object_init_2 obj _) F.entry_enumerate_new (new_tup t items)
  refine ⟨ht, ?_⟩
  have there : ((s.heap.push (itO t)).push (enO s.heap.objs.size)).get? (s.heap.objs.size + 1) = some (enO s.heap.objs.size) := by
    rw [← size1]
    exact Heap.get?_push_size _ rfl
  show _ ∧ _
  rw [size1]
  exact ⟨⟨_, there, rfl⟩, h _ there ⟨_, Heap.get?_push_of_some _ (Heap.get?_push_size _ rfl), rfl, rfl⟩ fun b o x => Heap.get?_push_of_some _ (Heap.get?_push_of_some _ x)⟩
end
/-- the items of the tuple at a, each in a new pair behind its place -/
def ItT (K : PySem.W.Frag) (a : Addr) : It where
  go := fun i H => ∃ (xs : List V) (x : V), SqT K H a xs ∧ xs[i]? = some x
  yld := fun i H v H' => ∃ T x, v = .ref T ∧ H T = none ∧ H' = upd H T (.tup [.int (i : Nat), x]) ∧ ∀ xs, SqT K H a xs → xs[i]? = some x
  stop := fun i H => ∃ xs : List V, SqT K H a xs ∧ xs.length = i
theorem turn_tup {P : Program} {w : World} {K : PySem.W.Frag} {elts : List Expr} {kk : Nat} {tpos : Pos} (a e it : Addr) (hne : e ≠ it) :
    Turn P w K (.Tuple elts kk tpos) (ItT K a) [e, it] e (fun i h => (∃ old, IsEnum h e it ((i : Nat) : Int) old) ∧ h.IsTupleIter it a i ∧ a ≠ it ∧ a ≠ e) where
  mem := List.mem_cons_self
  obj := fun i h st b hb => by
    obtain ⟨⟨old, he⟩, ⟨o, ho, hc, hd⟩, _⟩ := st
    rcases List.mem_cons.mp hb with rfl | hb
    · exact ⟨_, he, fun v q => nomatch q⟩
    · cases List.mem_singleton.mp hb
      exact ⟨o, ho, fun v q => by rw [hd] at q; cases q⟩
  keep := fun i h h' st k => ⟨st.1.imp fun old he => k e (by simp) _ he, st.2.1.at fun o q => k it (by simp) o q, st.2.2⟩
  item := by
    rintro X rfl rfl rfl hc i pins s σ H E I hf ⟨⟨old, he⟩, hit, hai, hae⟩ ⟨xs, x, hq, hx⟩
    obtain ⟨its, rv, p, hz⟩ := I.tuple hq
    obtain ⟨u, hu, ru⟩ := rv.get hx
    have lte : e < s.heap.objs.size := Heap.lt_size he
    have lti : it < s.heap.objs.size := by
      obtain ⟨_, q, _⟩ := hit
      exact Heap.lt_size q
    have hlt : i < its.toArray.size := by
      rw [List.size_toArray]
      exact (List.getElem?_eq_some_iff.mp hu).1
    refine wpAny_pyNext_enum_itemC (Draws.tuple (A := X.A.in1) (I.ok.hd hc) it a hai its.toArray) he ⟨hit, p⟩ hlt hne (fun q => ?_) fun y h' tk hy ho st' hT hsz hk => ?_
    · rcases List.mem_cons.mp q with q | q
      · exact hne q
      · exact hae (List.mem_singleton.mp q).symm
    · have ey : y = u := by
        have : its[i]? = some y := by simpa using hy
        rw [hu] at this
        exact (Option.some.inj this).symm
      subst ey
      refine ⟨_, rfl, wpAny_letOwnedTupleGo_enum (s := { s with heap := h', toks := tk + 1 }) ho fun h'' he' sb => ?_⟩
      have new : h''.get? s.heap.objs.size = some { cls := .type "tuple", data := .seq #[.int i tk, y] } := (sb.2 _ (Nat.ne_of_gt lte)).trans hT
      have ok : ObjOk X.prog X.w (upd H s.heap.objs.size (.tup [.int (i : Nat), x])) h'' s.heap.objs.size (.tup [.int (i : Nat), x]) :=
        ⟨by show 2 ≤ sizeLine; decide, [.int i tk, y], .cons ⟨_, rfl⟩ (.cons ru .nil), ⟨_, new, rfl, _, rfl⟩⟩
      have I1 : Inv X pins σ (upd H s.heap.objs.size (.tup [.int (i : Nat), x])) { s with heap := h'', toks := tk + 1 } :=
        I.turnedNew (ch := [e, it]) (fun b ob hb q => (sb.2 b (fun z => hb (by simp [z]))).trans (hk b ob (fun z => hb (by simp [z])) (fun z => hb (by simp [z])) q)) hf (Nat.le_refl _) ok
      refine ⟨.ref s.heap.objs.size, _, I1, rfl, ⟨_, x, rfl, I.hok.fresh (Nat.le_refl _), rfl, fun ys hy => by rw [I.tuple_inj hy hq]; exact hx⟩, ⟨⟨y, ?_⟩, st'.1.at fun o q => (sb.2 it (Ne.symm hne)).trans q, hai, hae⟩, fun b hb => ?_⟩
      · rw [show ((i + 1 : Nat) : Int) = (i : Int) + 1 by omega]
        exact he'
      · have hlt : b < s.heap.objs.size := by
          rcases List.mem_cons.mp hb with rfl | hb
          · exact lte
          · cases List.mem_singleton.mp hb
            exact lti
        rw [upd_ne (Nat.ne_of_lt hlt)]
        exact (hf b hb).1
  done := by
    rintro X rfl rfl rfl hc i pins s σ H E I hf ⟨⟨old, he⟩, hit, hai, hae⟩ ⟨xs, hq, hx⟩
    obtain ⟨its, rv, p, hz⟩ := I.tuple hq
    obtain ⟨f0, f1, f2, f3, f4, f5⟩ := hf it (by simp)
    have hl := rv.length
    have hi : i = its.toArray.size := by
      rw [List.size_toArray]
      omega
    subst hi
    exact wpAny_pyNext_enum_endD (Draws.tuple (A := X.A.in1) (I.ok.hd hc) it a hai its.toArray) he ⟨hit, p⟩ fun h' eb => ⟨rfl, I.turned (t' := s.toks) (fun b o hb q => eb b o hb q) f0 f1 f3 f4 f5⟩
  self := fun A i s Q E st h => let ⟨⟨_, he⟩, _⟩ := st; wpAny_pyIter_enum he h
def iEnT (K : PySem.W.Frag) (ta : TA) : TI := fun σ H R => ta σ H fun vs H1 => ∃ a xs, vs = [.ref a] ∧ SqT K H1 a xs ∧ R (ItT K a) H1
theorem pi_enT {X : Cx} {e : Expr} {ta : TA} {p pos tpos : Pos} {elts : List Expr} {kk : Nat} (hg : Gl X "enumerate") (hm : X.mg "enumerate" = none) (ha : PA X [e] ta) (hs : starEach [e] X.env = [(false, eval e X.env)] := by rfl) :
    PI X (.Tuple elts kk tpos) (.Call (.Name "enumerate" p) [e] [] pos) (iEnT X.K ta) := by
  constructor
  intro pins s σ H R I h
  refine Call_ (ld_blt I hg hm boot_enumerate (PyProof.Rows.callWith_type1 (thn (ha.run pos pins s σ H _ I h) fun us s1 ⟨vs, H1, I1, r1, a, xs, ev, hq, q⟩ => ?_) hs rfl))
  subst ev
  obtain ⟨u, rfl, ru⟩ := r1.one
  cases ru
  obtain ⟨its, rv, p', hz⟩ := I1.tuple hq
  have lta : a < s1.heap.objs.size := p'.lt
  refine call_tup p' fun h' he hit hk => wpAny_pyIter_enum he ?_
  have I2 : Inv X pins σ H1 { s1 with heap := h' } := I1.kept (t' := s1.toks) hk
  refine ⟨s1.heap.objs.size + 1, [s1.heap.objs.size + 1, s1.heap.objs.size], _, _, H1, rfl, I2, turn_tup a (s1.heap.objs.size + 1) s1.heap.objs.size (Nat.succ_ne_self _), ⟨⟨.none, he⟩, hit, Nat.ne_of_lt lta, Nat.ne_of_lt (Nat.lt_succ_of_lt lta)⟩, fun b hb => ?_, q⟩
  have hle : s1.heap.objs.size ≤ b := by
    rcases List.mem_cons.mp hb with rfl | hb
    · exact Nat.le_add_right _ _
    · exact Nat.le_of_eq (List.mem_singleton.mp hb).symm
  exact I1.fpOk hle (I1.hok.fresh hle)
end EnT

set_option Elab.async false
set_option linter.all false
set_option maxRecDepth 100000
set_option maxHeartbeats 2000000
/-! enumerate, range of three, remove of texts, two empty lists at once, powers, what is no member of a set, lists of a dict's keys -/
namespace Dn
open PySem PySem.Spec PyProof.Rows L2 Evl

@[simp] def gEnum : List Dt → Option (List Dt)
  | [.list ds] => some (ds.mapIdx fun i d => .tuple [.int (i : Nat), d])
  | [.tuple ds] => some (ds.mapIdx fun i d => .tuple [.int (i : Nat), d])
  | _ => none
section
variable {K : Fr} {m : Option Addr} {F : Hp}
theorem feeds_enL {a : Addr} {xs : List V} {ds : List Dt} (h : SqL K.K F a xs) (r : RpA K m F xs ds) : Feeds K m (Ite K.K a) (ds.mapIdx fun i d => .tuple [.int (i : Nat), d]) F where
  go := fun F' H i d k e1 e2 c hd => by
    rw [List.getElem?_mapIdx] at hd
    obtain ⟨d0, h0, rfl⟩ := Option.map_eq_some_iff.mp hd
    obtain ⟨v, hv, rv⟩ := r.get h0
    have l := ex_l (e1.trans e2) h
    refine ⟨⟨xs, v, l, hv⟩, fun w H' ⟨T, x, ew, hT, eH, fx⟩ => ?_⟩
    subst ew eH
    have z := fx xs l
    rw [hv] at z
    cases z
    obtain ⟨n1, n2, n3⟩ := new_tup e2 c (vs := [.int (i : Nat), v]) (ds := [.int (i : Nat), d0]) (.cons (.int _) (.cons (rv.mono e1) .nil)) hT
    exact ⟨_, n1, n2, n3⟩
  stop := fun F' H e1 e2 => ⟨xs, ex_l (e1.trans e2) h, by rw [List.length_mapIdx, r.length]; exact Nat.le_refl _⟩
theorem feeds_enT {a : Addr} {xs : List V} {ds : List Dt} (h : SqT K.K F a xs) (r : RpA K m F xs ds) : Feeds K m (EnT.ItT K.K a) (ds.mapIdx fun i d => .tuple [.int (i : Nat), d]) F where
  go := fun F' H i d k e1 e2 c hd => by
    rw [List.getElem?_mapIdx] at hd
    obtain ⟨d0, h0, rfl⟩ := Option.map_eq_some_iff.mp hd
    obtain ⟨v, hv, rv⟩ := r.get h0
    have l := ex_t (e1.trans e2) h
    refine ⟨⟨xs, v, l, hv⟩, fun w H' ⟨T, x, ew, hT, eH, fx⟩ => ?_⟩
    subst ew eH
    have z := fx xs l
    rw [hv] at z
    cases z
    obtain ⟨n1, n2, n3⟩ := new_tup e2 c (vs := [.int (i : Nat), v]) (ds := [.int (i : Nat), d0]) (.cons (.int _) (.cons (rv.mono e1) .nil)) hT
    exact ⟨_, n1, n2, n3⟩
  stop := fun F' H e1 e2 => ⟨xs, ex_t (e1.trans e2) h, by rw [List.length_mapIdx, r.length]⟩
end
section
variable {X : Cx} {m : Option Addr} {F0 H0 : Hp} {W : WE} {a b c e tg it : Expr} {es : List Expr} {pos : Pos} {st : Stmt} {sts : List Stmt}
theorem i_enum {p pos tpos : Pos} {elts : List Expr} {kk : Nat} {f : DL} (hm : X.mg "enumerate" = none) (ha : PA X [e] (tAr X.fr m f)) (hg : Gl X "enumerate" := by rfl) (hs : starEach [e] X.env = [(false, eval e X.env)] := by rfl) :
    PI X (.Tuple elts kk tpos) (.Call (.Name "enumerate" p) [e] [] pos) (tIS X.fr m (dNL gEnum f)) := by
  refine ⟨fun pins s σ H R I w => ?_⟩
  obtain ⟨F, ρ, k, ds, k', Rl1, hf, q⟩ := w
  unfold dNL at hf
  obtain ⟨⟨d, k1⟩, h1, hf⟩ := Option.bind_eq_some_iff.mp hf
  obtain ⟨es, h2, hf⟩ := Option.bind_eq_some_iff.mp hf
  cases hf
  unfold gEnum at h2
  split at h2
  · rename_i xs e1
    cases h2
    simp only at e1
    subst e1
    refine (pi_enum hg hm ha hs).run pins s σ H R I ⟨F, ρ, k, _, k1, Rl1, h1, fun vs F' H' g c r => ?_⟩
    cases r with
    | cons r1 r =>
      cases r
      cases r1 with
      | lst hl r => exact ⟨_, _, rfl, ex_l g.fh hl, q _ F' H' g c (feeds_enL hl r)⟩
  · rename_i xs e1
    cases h2
    simp only at e1
    subst e1
    refine (EnT.pi_enT hg hm ha hs).run pins s σ H R I ⟨F, ρ, k, _, k1, Rl1, h1, fun vs F' H' g c r => ?_⟩
    cases r with
    | cons r1 r =>
      cases r
      cases r1 with
      | tup hl r => exact ⟨_, _, rfl, ex_t g.fh hl.sq, q _ F' H' g c (feeds_enT hl.sq r)⟩
  · cases h2
@[simp] def gRange3 : List Dt → Option (List Dt)
  | [.int a, .int b, .int c] => if c ≠ 0 ∧ c.natAbs < 1073741824 ∧ Builtin.Range.small a b c = true ∧ 0 ≤ Builtin.Range.rangeSize a b c then some ((List.range (Builtin.Range.rangeSize a b c).toNat).map fun (i : Nat) => PyData.int (a + (i : Nat) * c)) else none
  | _ => none
theorem feeds_rngC {K : Fr} {F : Hp} (lo c : Int) (n : Nat) : Feeds K m (Itc lo c n) ((List.range n).map fun (i : Nat) => PyData.int (lo + (i : Nat) * c)) F where
  go := fun F' H i d k e1 e2 cc h1 => by
    rw [List.getElem?_map] at h1
    by_cases hi : i < n
    · rw [List.getElem?_range hi] at h1
      cases h1
      refine ⟨hi, fun v H' hy => ?_⟩
      obtain ⟨rfl, rfl⟩ := hy
      exact ⟨F', .refl e2, cc, .int _⟩
    · rw [List.getElem?_eq_none (by simpa using hi)] at h1
      cases h1
  stop := fun F' H e1 e2 => by
    rw [List.length_map, List.length_range]
    exact Nat.le_refl n
theorem i_range3 {f : DL} {p : Pos} (hm : X.mg "range" = none) (ha : PA X [a, b, c] (tAo X.fr m f)) (hg : Gl X "range" := by rfl) (hs : starEach [a, b, c] X.env = (false, eval a X.env) :: starEach [b, c] X.env := by rfl) (hpl : (backTo pos (starEach [b, c] X.env)).any (·.1) = false := by rfl) :
    PI X tg (.Call (.Name "range" p) [a, b, c] [] pos) (tIS X.fr m (dNL gRange3 f)) := impPI (pi_range3 hg hm ha hs hpl) fun σ H R ⟨F, ρ, k, ds, k', Rl1, hf, q⟩ => by
  unfold dNL at hf
  obtain ⟨⟨d, k1⟩, h1, hf⟩ := Option.bind_eq_some_iff.mp hf
  obtain ⟨es, h2, hf⟩ := Option.bind_eq_some_iff.mp hf
  cases hf
  unfold gRange3 at h2
  split at h2
  · rename_i x y z e1
    split at h2
    · rename_i hn
      cases h2
      simp only at e1
      subst e1
      refine ⟨F, ρ, k, _, k1, Rl1, h1, fun vs F' H' g c r => ?_⟩
      cases r with
      | cons r1 r =>
        cases r with
        | cons r2 r =>
          cases r with
          | cons r3 r =>
            cases r
            cases r1.int
            cases r2.int
            cases r3.int
            exact ⟨x, y, z, (Builtin.Range.rangeSize x y z).toNat, rfl, ⟨hn.1, hn.2.1, hn.2.2.1, by rw [Int.toNat_of_nonneg hn.2.2.2]⟩, q _ F' H' g c (feeds_rngC _ _ _)⟩
    · cases h2
  · cases h2
/-! remove of a text -/
@[simp] def gRemove : List Dt → List Dt → Option (List Dt)
  | ds, [.str x] => (asSs ds).bind fun ys => if x ∈ ys ∧ ys.length ≤ 1000000 then some ((ys.eraseIdx (ys.idxOf x)).map .str) else none
  | _, _ => none
theorem strs_of {zs : List Str} {us : List Value} (r : Vals (zs.map V.str) us) : StrsAre us zs := strs_of_vals r
theorem erase_str : ∀ (r : List Str) (j : Nat), (r.map V.str).eraseIdx j = (r.eraseIdx j).map V.str
  | [], j => by simp
  | a :: r, 0 => by simp
  | a :: r, j + 1 => by simp [erase_str r j]
def rRemS : V → List V → Hp → VK → Prop := fun x xs H Q => ∃ (l : Addr) (ns : List Str) (k : Str), x = .ref l ∧ xs = [.str k] ∧ H l = some (.lst (ns.map V.str)) ∧ k ∈ ns ∧ ns.length ≤ 1000000 ∧ Q .non (upd H l (.lst ((ns.eraseIdx (ns.idxOf k)).map V.str)))
theorem strs_get : ∀ {us : List Value} {zs : List Str} {j : Nat} {z : Str}, StrsAre us zs → zs[j]? = some z → ∃ t, us[j]? = some (.str z t)
  | _, _, _, _, .nil, h => by simp at h
  | _, _, 0, _, .cons n u h, e => by
    simp at e
    subst e
    exact ⟨u, rfl⟩
  | _, _, j + 1, _, .cons n u h, e => strs_get (j := j) h (by simpa using e)
theorem mt_remS : MtR X "list.remove" rRemS := by
  intro pins s σ H x xs v us Q I rx rxs h
  obtain ⟨l, ns, k, rfl, rfl, hH, hk, hlen, q⟩ := h
  cases rx
  obtain ⟨u, rfl, ru⟩ := rxs.one
  obtain ⟨t, rfl⟩ := ru
  obtain ⟨z, its, n, r, hl, e⟩ := I.lstM hH
  have S := strs_of r
  rw [List.length_map] at hl z
  have hj : ns.idxOf k < ns.length := List.idxOf_lt_length_iff.mpr hk
  have hjl : ns.idxOf k < its.toArray.size := by
    rw [List.size_toArray]
    omega
  have at_ : ∀ (i : Nat) (hi : i < its.toArray.size) (hi2 : i < ns.length), isStrOf k its.toArray[i] = decide (ns[i] = k) := fun i hi hi2 => by
    obtain ⟨ti, hti⟩ := strs_get S (List.getElem?_eq_getElem hi2)
    obtain ⟨h1, h2⟩ := List.getElem?_eq_some_iff.mp hti
    have e1 : its.toArray[i] = .str ns[i] ti := by simpa using h2
    rw [e1, Bool.eq_iff_iff, decide_eq_true_iff]
    show (ns[i] == k) = true ↔ _
    exact beq_iff_eq
  refine call_meets PySem.F.slot_list_remove ⟨_, e, rfl⟩ PySem.F.entry_list_remove (PySem.F.args_list_remove_2 _ _)
    (MeetsSeq.list_remove l its.toArray n (.str k t) (isStrOf k) (fun y hy => eq_isStrOf k t S y (by simpa using hy)) (ns.idxOf k) hjl ?_ ?_ (by rw [List.size_toArray]; omega)) ⟨e, ?_⟩
  · rw [at_ _ hjl hj, decide_eq_true_iff]
    exact List.getElem_idxOf hj
  · intro i hi hij
    have hi2 : i < ns.length := by omega
    rw [at_ i hi hi2, decide_eq_false_iff_not]
    intro e2
    have := List.not_of_lt_findIdx (p := (· == k)) (show i < ns.findIdx (· == k) from hij)
    simp [e2] at this
  · have rr := r.eraseIdx (ns.idxOf k)
    rw [erase_str] at rr
    refine ⟨.non, _, I.lset (its' := its.eraseIdx (ns.idxOf k)) (t' := s.toks) hH e ?_ rr ?_, rfl, q⟩
    · show its.toArray.eraseIdxIfInBounds (ns.idxOf k) = (its.eraseIdx (ns.idxOf k)).toArray
      rw [List.eraseIdxIfInBounds_toArray]
    · rw [List.length_map]
      have := List.length_eraseIdx_le ns (ns.idxOf k)
      exact Nat.le_trans this (small_line hlen)
theorem s_remove (hu : X.A.units + 65 < cLine) (i : Nat) {x : Str} {px pa pos2 : Pos} {f : DE} (he : PE X e (tE X.fr m f)) (hN : X.N[i]? = some x := by rfl) (hv : Vis X.env.scope x := by first | exact Or.inl rfl | exact Or.inr (Or.inl rfl) | exact Or.inr (Or.inr rfl)) (hd : (x == ("__debug__" : Str)) = false := by decide) (hcd : (x == ("__classdict__" : Str)) = false := by decide)
    (hbase : attributeBase (.Name x px) "remove" X.env (eval (.Name x px) X.env) = eval (.Name x px) X.env := by rfl)
    (hfew : ((backTo pos2 (starEach (e :: []) X.env)).all (fun x => !x.1) && (backToKw pos2 (keywordEach [] X.env)).all (fun x => x.1.isSome)
      && decide ((e :: []).length + ([] : List Keyword).length + (if ([] : List Keyword).isEmpty then 0 else 1) < 30)) = true := by rfl)
    (hline : (pa.endLine == pos2.line) = true := by rfl) (hst : starEach (e :: []) X.env = (false, eval e X.env) :: starEach [] X.env := by rfl) (hpl : (backTo pos2 (starEach [] X.env)).any (·.1) = false := by rfl)
    (hs : swapsWith (.Call (.Attribute (.Name x px) "remove" pa) [e] [] pos2) none pos.line X.env = pure false := by rfl) :
    PS X (.Expr (.Call (.Attribute (.Name x px) "remove" pa) [e] [] pos2) pos) (tS X.fr m F0 H0 W (sMut i gRemove (aCons f aNil))) :=
  impPS (ps_expr (pe_bm PySem.F.plainAttrs_list PySem.F.slot_list_remove PySem.F.type_list_remove mt_remS (pe_var (i := i) hN hv hd hcd) (p_cons he p_nil hst) hbase hfew hline hst hpl) hs) fun D σ H ⟨F, ρ, k, out, R, hf, q⟩ => by
    unfold sMut at hf
    obtain ⟨⟨args, k1⟩, h1, hf⟩ := Option.bind_eq_some_iff.mp hf
    cases hc : ρ[i]? with
    | none =>
      rw [hc] at hf
      cases hf
    | some cl =>
      rw [hc] at hf
      cases cl with
      | ow ds =>
        obtain ⟨es', h2, hf⟩ := Option.bind_eq_some_iff.mp hf
        cases hf
        unfold gRemove at h2
        split at h2
        · rename_i x' e1
          obtain ⟨ys, h3, h5⟩ := Option.bind_eq_some_iff.mp h2
          clear h2
          cases asSs_eq h3
          split at h5
          · rename_i hx
            cases h5
            obtain ⟨p, o, h4, hF, hmp, hH, r⟩ := R.rl.ow i _ hc rfl
            obtain ⟨xs, rfl, r⟩ := r
            cases r.ofSs
            simp only at e1
            subst e1
            refine ⟨_, h4, Or.inl ⟨rfl, _, .inl (.inl hH)⟩, F, ρ, k, _, k1, R.rl, h1, fun vs F' H' g c ra => ?_⟩
            cases ra with
            | cons r1 ra =>
              cases ra
              cases r1
              exact ⟨p, ys, x', rfl, rfl, g.hh p _ hmp hH, hx.1, hx.2, q σ F' _ g.ff ((R.grow g c).mut hc rfl h4 rfl ⟨_, rfl, RpA.strs⟩)⟩
          · cases h5
        · cases h2
      | _ => cases hf
end
end Dn

set_option Elab.async false
set_option linter.all false
set_option maxRecDepth 100000
set_option maxHeartbeats 1000000
namespace Dn
open PySem PySem.Spec PyProof.Rows L2 Evl
def sNewW (i : Nat) : DS := fun _ _ => none
def sAddW (i : Nat) (f : DE) : DS := fun _ _ => none
def dInW (neg : Bool) (i : Nat) (f : DE) : DE := fun _ _ => none
def dLenW (i : Nat) : DE := fun _ _ => none
def sParLL (i j : Nat) : DS := fun _ _ => none
section
variable {X : Cx} {m : Option Addr} {a b c e : Expr} {es : List Expr} {pos : Pos} {F0 H0 : Hp} {W : WE}
/-- a named comprehension whose list is shared from there on -/
theorem s_setLcF (i : Nat) {y : Str} {py : Pos} {elt tg it : Expr} {ifs : List Expr} {scope : Scope} {own : List (Str × Nat)} {spos : Pos} {src : DL} {tch : List Nat} {g : DG} {t : DT} {f : DE} (hc : X.calm = true) (hN : X.N.Nodup) (hyl : X.env.scope.names.lookup y = some .local)
    (hsw : swapsWith (.ListComp elt [⟨tg, it, ifs, 0⟩] scope pos) (some (.Name y py)) spos.line X.env = pure true) (ok : blkC X.N X.env.scope scope own = true) (ht0 : ∀ j, j ∈ tch → j ∈ own.map (·.2)) (hi : PI X tg it (tIS X.fr m src))
    (hg : ∀ (s : Shared) (H : Hp) (C : Addr) (cl : List (Str × Addr)) (fp : List Addr), PG (X.blk s H scope (compEnvC scope cl C X.env) fp) tg (tGd X.fr m tch g)) (ht : ∀ (s : Shared) (H : Hp) (C : Addr) (cl : List (Str × Addr)) (fp : List Addr), PTs (X.blk s H scope (compEnvC scope cl C X.env) fp) ifs (tT X.fr m t))
    (he : ∀ (s : Shared) (H : Hp) (C : Addr) (cl : List (Str × Addr)) (fp : List Addr), PE (X.blk s H scope (compEnvC scope cl C X.env) fp) elt (tE X.fr m f)) (hy : X.N[i]? = some y := by rfl) (hs : ∀ x, foldedSetIterable it X.env x = pure x := by intro _; rfl) :
    PS X (.Assign [.Name y py] (.ListComp elt [⟨tg, it, ifs, 0⟩] scope pos) spos) (tS X.fr m F0 H0 W (sAsg (lD (dLc src (own.map (·.2)) g t f)) (gSet i))) := impPS (ps_setLc hc hN hy hyl hsw hi (blkOk_by ok) hg ht he hs) fun D σ H ⟨F, ρ, k, out, R, hf, q⟩ => by
  unfold sAsg at hf
  obtain ⟨⟨d, k1⟩, h1, hf⟩ := Option.bind_eq_some_iff.mp hf
  cases hf
  unfold lD at h1
  cases e0 : dLc src (own.map (·.2)) g t f ρ k with
  | none =>
    rw [e0] at h1
    cases h1
  | some z =>
    obtain ⟨ds, k2⟩ := z
    rw [e0] at h1
    cases h1
    exact lc_in (m := m) ht0 ⟨F, ρ, k, _, _, R.rl, e0, fun p vs F' H' g c hp fp ho r => q _ (upd F' p (.lst vs)) H' (g.freeze hp ho).ff ⟨(R.rl.grow (g.freeze hp ho) (c.freeze (R.rl.ctr.ne hp))).set_sh (.lst (.inl (.inl upd_same)) (r.mono (ex_freeze fp))), R.gr.trans R.rl.ctr (g.freeze hp ho), fun j p h => R.own j p (own_set_sh h).1⟩⟩
end
end Dn

set_option Elab.async false
set_option linter.all false
set_option maxRecDepth 100000
set_option maxHeartbeats 2000000
/-! made by gen3.py: what the defs compute -/
namespace Cm
open PySem PySem.Spec PyProof.Rows L2 Evl Dn
def e_is_name_1 : DE := (dChain gLe gLe (dC (.str ("a" : Str))) (dVarO 1) (dC (.str ("z" : Str))))
def b_is_name : DS := (sSeq (sIf (tOrD (tV (dU (gTyNe "str") (dVarO 0))) (tNotD (tV (dChain gLe gLe (dC (.int 1)) (dN gLen (aCons (dVarO 0) aNil)) (dC (.int 8)))))) (sRet (dC (.bool false))) sNext)
    (sRet (dN gAll (aCons (lD (dLc (dItems (dVar 0)) [1] (gSet 1) tAll e_is_name_1)) aNil))))
def d_is_name : Fn := dDef 1 2 b_is_name
def b__is_name_with : DS := (sSeq (sIf (tOrD (tV (dU (gTyNe "tuple") (dVarO 0))) (tV (dB gNe (dN gLen (aCons (dVarO 0) aNil)) (dC (.int 2))))) (sRet (dC (.bool false))) sNext)
    (sSeq (sAsg (dVar 0) (gTupG 2 (gConsD (gSet 2) (gConsD (gSet 3) gNilD))))
    (sRet (vAnd (dCall d_is_name (aCons (dVar 2) aNil)) (vAnd (dU (gTyEq "int") (dVarO 3)) (dB gIn (dVarO 3) (dVarO 1)))))))
def d__is_name_with : Fn := dDef 2 4 b__is_name_with
def b_is_piece : DS := (sRet (dCall d__is_name_with (aCons (dVar 0) (aCons (dN gTupD (aCons (dC (.int 1)) (aCons (dU gNeg (dC (.int 1))) aNil))) aNil))))
def d_is_piece : Fn := dDef 1 1 b_is_piece
def b_flipped : DS := (sSeq (sAsg (dVar 0) (gTupG 2 (gConsD (gSet 1) (gConsD (gSet 2) gNilD))))
    (sRet (dN gTupD (aCons (dVar 1) (aCons (dU gNeg (dVarO 2)) aNil)))))
def d_flipped : Fn := dDef 1 3 b_flipped
def b__need_pieces_1 : DS := (sSeq (sIf (tNotD (tV (dCall d_is_piece (aCons (dVar 3) aNil)))) (sRaise ("BadYard" : Str) (aCons (dC (.str ("a row or ring holds what is no piece" : Str))) aNil)) sNext)
    (sSeq (sAsg (dVar 3) (gTupG 2 (gConsD (gSet 4) (gConsD (gSet 5) gNilD))))
    (sSeq (sIf (tV (dInS false 1 (dVar 4))) (sRaise ("BadYard" : Str) (aCons (dFstr (aCons (dC (.str ("the name " : Str))) (aCons (dU gFmt (dVar 4)) (aCons (dC (.str (" is there twice" : Str))) aNil)))) aNil)) sNext)
    (sAddS 1 (dVar 4)))))
def b__need_pieces_2 : DS := (sSeq (sIf (tV (dB gEq (dN gLen (aCons (dVarO 2) aNil)) (dC (.int 0)))) (sRaise ("BadYard" : Str) (aCons (dC (.str ("a row or ring has no piece" : Str))) aNil)) sNext)
    (sFor (dItems (dVar 2)) (gSet 3) b__need_pieces_1))
def b__need_pieces : DS := (sSeq (sNewS 1)
    (sSeq (sFor (dItems (dVar 0)) (gSet 2) b__need_pieces_2)
    (sIf (tV (dB gGt (dLenS 1) (dC (.int 60)))) (sRaise ("BadYard" : Str) (aCons (dFstr (aCons (dC (.str ("the yard has more than " : Str))) (aCons (dU gFmt (dC (.int 60))) (aCons (dC (.str (" pieces" : Str))) aNil)))) aNil)) sNext)))
def x__need_pieces : Fx := dDefX 1 6 b__need_pieces
def e__backwards_1 : DE := (dCall d_flipped (aCons (dVar 1) aNil))
def b__backwards : DS := (sRet (dN gTuple (aCons (lD (dLc (dItems (dB gStep (dVarO 0) (dU gNeg (dC (.int 1))))) [1] (gSet 1) tAll e__backwards_1)) aNil)))
def d__backwards : Fn := dDef 1 2 b__backwards
def b__least_row : DS := (sRet (dN gMin (aCons (dN gTuple (aCons (dVarO 0) aNil)) (aCons (dCall d__backwards (aCons (dVar 0) aNil)) aNil))))
def d__least_row : Fn := dDef 1 1 b__least_row
def b__least_ring_1 : DS := (sMut 1 gAppend (aCons (dB gAdd (dSl gSlE (dVarO 2) (pS (dVarO 3)) pN) (dSl gSlE (dVarO 2) pN (pS (dVarO 3)))) aNil))
def b__least_ring_2 : DS := (sFor (dNL gRange1 (aCons (dN gLen (aCons (dVarO 2) aNil)) aNil)) (gSet 3) b__least_ring_1)
def b__least_ring : DS := (sSeq (sSetL 1 (dNL gLstD aNil))
    (sSeq (sFor (dItems (dN gTupD (aCons (dN gTuple (aCons (dVarO 0) aNil)) (aCons (dCall d__backwards (aCons (dVar 0) aNil)) aNil)))) (gSet 2) b__least_ring_2)
    (sRet (dN gMin (aCons (dVarO 1) aNil)))))
def d__least_ring : Fn := dDef 1 4 b__least_ring
def e_least_yard_1 : DE := (dCall d__least_row (aCons (dVar 2) aNil))
def e_least_yard_2 : DE := (dCall d__least_ring (aCons (dVar 3) aNil))
def b_least_yard : DS := (sRet (dN gTupD (aCons (dN gTuple (aCons (lD (dNL gSorted (aCons (lD (dLc (dItems (dVar 0)) [2] (gSet 2) tAll e_least_yard_1)) aNil))) aNil)) (aCons (dN gTuple (aCons (lD (dNL gSorted (aCons (lD (dLc (dItems (dVar 1)) [3] (gSet 3) tAll e_least_yard_2)) aNil))) aNil)) aNil))))
def d_least_yard : Fn := dDef 2 4 b_least_yard
def e__is_list_of_lists_1 : DE := (dU (gTyEq "list") (dVarO 1))
def b__is_list_of_lists : DS := (sRet (vAnd (dU (gTyEq "list") (dVarO 0)) (dN gAll (aCons (lD (dLc (dItems (dVar 0)) [1] (gSet 1) tAll e__is_list_of_lists_1)) aNil))))
def d__is_list_of_lists : Fn := dDef 1 2 b__is_list_of_lists
def b_yard_of : DS := (sSeq (sIf (tOrD (tNotD (tV (dCall d__is_list_of_lists (aCons (dVar 0) aNil)))) (tNotD (tV (dCall d__is_list_of_lists (aCons (dVar 1) aNil))))) (sRaise ("BadYard" : Str) (aCons (dC (.str ("rows and rings are two lists of lists of pieces" : Str))) aNil)) sNext)
    (sSeq (sExprX (xCall x__need_pieces (aCons (lD (dNL gLstD (aStar (dVar 0) (aStar (dVar 1) aNil)))) aNil)))
    (sRet (dCall d_least_yard (aCons (dVar 0) (aCons (dVar 1) aNil))))))
def x_yard_of : Fx := dDefX 2 2 b_yard_of
def e__is_tuple_of_tuples_1 : DE := (dU (gTyEq "tuple") (dVarO 1))
def b__is_tuple_of_tuples : DS := (sRet (vAnd (dU (gTyEq "tuple") (dVarO 0)) (dN gAll (aCons (lD (dLc (dItems (dVar 0)) [1] (gSet 1) tAll e__is_tuple_of_tuples_1)) aNil))))
def d__is_tuple_of_tuples : Fn := dDef 1 2 b__is_tuple_of_tuples
def e__is_pair_of_tuples_1 : DE := (dCall d__is_tuple_of_tuples (aCons (dVar 1) aNil))
def b__is_pair_of_tuples : DS := (sSeq (sIf (tOrD (tV (dU (gTyNe "tuple") (dVarO 0))) (tV (dB gNe (dN gLen (aCons (dVarO 0) aNil)) (dC (.int 2))))) (sRet (dC (.bool false))) sNext)
    (sRet (dN gAll (aCons (lD (dLc (dItems (dVar 0)) [1] (gSet 1) tAll e__is_pair_of_tuples_1)) aNil))))
def d__is_pair_of_tuples : Fn := dDef 1 2 b__is_pair_of_tuples
def b_need_yard : DS := (sSeq (sIf (tNotD (tV (dCall d__is_pair_of_tuples (aCons (dVar 0) aNil)))) (sRaise ("BadYard" : Str) (aCons (dC (.str ("a yard is a tuple of two tuples of rows and rings" : Str))) aNil)) sNext)
    (sSeq (sAsg (dVar 0) (gTupG 2 (gConsD (gSet 2) (gConsD (gSet 3) gNilD))))
    (sSeq (sExprX (xCall x__need_pieces (aCons (lD (dNL gLstD (aStar (dVar 2) (aStar (dVar 3) aNil)))) aNil)))
    (sSeq (sAsg (dCall d_least_yard (aCons (dVar 2) (aCons (dVar 3) aNil))) (gSet 1))
    (sSeq (sIf (tV (dB gNe (dVarO 1) (dVarO 0))) (sRaise ("BadYard" : Str) (aCons (dC (.str ("the yard is not in its least form" : Str))) aNil)) sNext)
    (sRet (dVar 1)))))))
def x_need_yard : Fx := dDefX 1 4 b_need_yard
def b__law_draw : DS := (sSeq (sAsg (dAt 1) (gSet 3))
    (sSeq (sAt 1 (dB gAdd (dVarO 3) (dC (.int 1))))
    (sSeq (sAsg (dB gAdd (dVarO 0) (lD (lRep (dNL gLstD (aCons (dC (.int 0)) aNil)) (dN gInt (aCons (dB gEq (dVarO 0) (lD (dNL gLstD aNil))) aNil))))) (gSet 4))
    (sSeq (sAsg (dB gMod (dB gMul (dB gAdd (dB gAdd (dB gMod (dB gIx (dVarO 4) (dB gMod (dVarO 3) (dN gLen (aCons (dVarO 4) aNil)))) (dC (.int 1000000007))) (dB gMul (dC (.int 31)) (dVarO 3))) (dC (.int 17))) (dC (.int 48271))) (dC (.int 2147483647))) (gSet 5))
    (sRet (dB gMod (dB gFdiv (dB gMod (dB gMul (dVarO 5) (dB gAdd (dB gMul (dVarO 3) (dVarO 3)) (dC (.int 16807)))) (dC (.int 2147483629))) (dC (.int 4096))) (dVarO 2)))))))
def d__law_draw : Fn := dDef 3 6 b__law_draw
def e__law_names_1 : DE := (dCall d__law_draw (aCons (dVar 0) (aCons (dVar 1) (aCons (dVar 12) aNil))))
def e__law_names_2 : DE := (dB gIx (dVarO 3) (dB gMod (dB gAdd (dVarO 7) (dB gMul (dC (.int 5)) (dVarO 13))) (dC (.int 26))))
def b__law_names_3 : DS := (sSeq (sAsg (dB gIx (dVarO 3) (dB gMod (dB gAdd (dVarO 6) (dB gMul (dC (.int 7)) (dVarO 7))) (dC (.int 26)))) (gSet 11))
    (sSeq (sIf (tV (dB gGt (dVarO 2) (dC (.int 26)))) (sAsg (dB gAdd (dB gIx (dVarO 3) (dB gAdd (dB gFdiv (dVarO 6) (dC (.int 26))) (dB gMul (dC (.int 20)) (dVarO 10)))) (dVarO 11)) (gSet 11)) sNext)
    (sMut 5 gAppend (aCons (dB gAdd (dB gAdd (dSl gSlE (dVarO 4) pN (pS (dVarO 9))) (dVarO 11)) (dSl gSlE (dVarO 4) (pS (dVarO 9)) pN)) aNil))))
def b__law_names : DS := (sSeq (sAsg (dC (.str ("abcdefghijklmnopqrstuvwxyz" : Str))) (gSet 3))
    (sSeq (sAsg (lD (dLc (dItems (dN gTupD (aCons (dC (.int 26)) (aCons (dC (.int 7)) (aCons (dC (.int 7)) (aCons (dC (.int 2)) aNil)))))) [12] (gSet 12) tAll e__law_names_1)) (gTupG 4 (gConsD (gSet 7) (gConsD (gSet 8) (gConsD (gSet 9) (gConsD (gSet 10) gNilD))))))
    (sSeq (sAsg (dM gJoin (dC (.str ("" : Str))) (aCons (lD (dLc (dNL gRange1 (aCons (dVarO 8) aNil)) [13] (gSet 13) tAll e__law_names_2)) aNil)) (gSet 4))
    (sSeq (sSetL 5 (dNL gLstD aNil))
    (sSeq (sFor (dNL gRange1 (aCons (dVarO 2) aNil)) (gSet 6) b__law_names_3)
    (sRetL (lStep (dVarO 5) (dB gSub (dC (.int 1)) (dB gMul (dC (.int 2)) (dVarO 10))))))))))
def d__law_names : FnL := dDefL 3 14 b__law_names
def b__law_rows_1 : DS := (sMut 3 gInsert (aCons (dCall d__law_draw (aCons (dVar 0) (aCons (dVar 1) (aCons (dB gAdd (dN gLen (aCons (dVarO 3) aNil)) (dC (.int 1))) aNil)))) (aCons (dN gTupD (aCons (dVar 4) (aCons (dB gSub (dC (.int 1)) (dB gMul (dC (.int 2)) (dCall d__law_draw (aCons (dVar 0) (aCons (dVar 1) (aCons (dC (.int 2)) aNil)))))) aNil))) aNil)))
def t__law_rows_2 : DT := (tV (dB gNe (dVarO 3) (lD (dNL gLstD aNil))))
def e__law_rows_3 : DE := (dB gAdd (dC (.int 1)) (dCall d__law_draw (aCons (dVar 0) (aCons (dVar 1) (aCons (dVar 5) aNil)))))
def e__law_rows_4 : DE := (dN gInt (aCons (dB gEq (dCall d__law_draw (aCons (dVar 0) (aCons (dVar 1) (aCons (dC (.int 3)) aNil)))) (dC (.int 0))) aNil))
def e__law_rows_5 : DE := (dSl gSlE (dVarO 3) pN (pS (dVarO 7)))
def e__law_rows_6 : DE := (dSl gSlE (dVarO 3) (pS (dVarO 7)) pN)
def b__law_rows : DS := (sSeq (sSetL 3 (dNL gLstD aNil))
    (sSeq (sFor (dItems (dVar 2)) (gSet 4) b__law_rows_1)
    (sSeq (sAsg (dB gIx (lD (dNL gLstD (aCons (dC (.int 1)) (aCons (dC (.int 3)) (aCons (dC (.int 8)) (aCons (dC (.int 60)) aNil)))))) (dCall d__law_draw (aCons (dVar 0) (aCons (dVar 1) (aCons (dC (.int 4)) aNil))))) (gSet 5))
    (sTwo 10000 6 7 3 t__law_rows_2 e__law_rows_3 e__law_rows_4 e__law_rows_5 e__law_rows_6))))
def d__law_rows : Fn := dDef 3 8 b__law_rows
def e__law_turned_back_1 : DE := (dN gTupD (aCons (dVar 1) (aCons (dB gSub (dC (.int 0)) (dVarO 2)) aNil)))
def b__law_turned_back : DS := (sRetL (dLc (dItems (dB gStep (dVarO 0) (dU gNeg (dC (.int 1))))) [1, 2] (gTupG 2 (gConsD (gSet 1) (gConsD (gSet 2) gNilD))) tAll e__law_turned_back_1))
def d__law_turned_back : FnL := dDefL 1 3 b__law_turned_back
def e__law_ring_1 : DE := (dN gTuple (aCons (dB gAdd (dSl gSlE (dVarO 2) (pS (dVarO 3)) pN) (dSl gSlE (dVarO 2) pN (pS (dVarO 3)))) aNil))
def b__law_ring_2 : DS := (sAsg (dB gAdd (dVarO 1) (lD (dLc (dNL gRange1 (aCons (dN gLen (aCons (dVarO 2) aNil)) aNil)) [3] (gSet 3) tAll e__law_ring_1))) (gSet 1))
def b__law_ring : DS := (sSeq (sAsg (lD (dNL gLstD aNil)) (gSet 1))
    (sSeq (sFor (dItems (dN gTupD (aCons (lD (dNL gList (aCons (dVarO 0) aNil))) (aCons (lD (dCallL d__law_turned_back (aCons (dVar 0) aNil))) aNil)))) (gSet 2) b__law_ring_2)
    (sRet (dN gMin (aCons (dVarO 1) aNil)))))
def d__law_ring : Fn := dDef 1 4 b__law_ring
def e__law_yard_1 : DE := (dN gMin (aCons (dN gTuple (aCons (dVarO 3) aNil)) (aCons (dN gTuple (aCons (lD (dCallL d__law_turned_back (aCons (dVar 3) aNil))) aNil)) aNil)))
def e__law_yard_2 : DE := (dCall d__law_ring (aCons (dVar 4) aNil))
def b__law_yard : DS := (sSeq (sSetL 2 (dLc (dItems (dVar 0)) [3] (gSet 3) tAll e__law_yard_1))
    (sRet (dN gTupD (aCons (dN gTuple (aCons (lD (dNL gSorted (aCons (dVarO 2) aNil))) aNil)) (aCons (dN gTuple (aCons (lD (dNL gSorted (aCons (lD (dLc (dItems (dVar 1)) [4] (gSet 4) tAll e__law_yard_2)) aNil))) aNil)) aNil)))))
def d__law_yard : Fn := dDef 2 5 b__law_yard
def b__law_shuffled_1 : DS := (sMut 3 gInsert (aCons (dCall d__law_draw (aCons (dVar 0) (aCons (dVar 1) (aCons (dB gAdd (dN gLen (aCons (dVarO 3) aNil)) (dC (.int 1))) aNil)))) (aCons (dVar 4) aNil)))
def b__law_shuffled : DS := (sSeq (sSetL 3 (dNL gLstD aNil))
    (sSeq (sFor (dItems (dVar 2)) (gSet 4) b__law_shuffled_1)
    (sRetL (dOwn 3))))
def d__law_shuffled : FnL := dDefL 3 5 b__law_shuffled
def e__law_other_reading_1 : DE := (dN gTupD (aCons (dVar 6) (aCons (dB gSub (dC (.int 0)) (dVarO 7)) aNil)))
def b__law_other_reading : DS := (sSeq (sAsg (lD (dNL gList (aCons (dVarO 2) aNil))) (gSet 4))
    (sSeq (sIf (tV (dVar 3)) (sSeq (sAsg (dCall d__law_draw (aCons (dVar 0) (aCons (dVar 1) (aCons (dN gLen (aCons (dVarO 4) aNil)) aNil)))) (gSet 5))
    (sAsg (dB gAdd (dSl gSlE (dVarO 4) (pS (dVarO 5)) pN) (dSl gSlE (dVarO 4) pN (pS (dVarO 5)))) (gSet 4))) sNext)
    (sSeq (sIf (tV (dB gEq (dCall d__law_draw (aCons (dVar 0) (aCons (dVar 1) (aCons (dC (.int 2)) aNil)))) (dC (.int 0)))) (sAsg (lD (dLc (dItems (dB gStep (dVarO 4) (dU gNeg (dC (.int 1))))) [6, 7] (gTupG 2 (gConsD (gSet 6) (gConsD (gSet 7) gNilD))) tAll e__law_other_reading_1)) (gSet 4)) sNext)
    (sRet (dVar 4)))))
def d__law_other_reading : Fn := dDef 4 8 b__law_other_reading
def b__law_word : DS := (sSeq (sAsg (lD (dNL gLstD (aCons (dU (gIsE [("BadYard" : Str), ("BadPlaces" : Str), ("BadDeed" : Str), ("BadText" : Str), ("Unlike" : Str)] ("BadYard" : Str)) (dVar 0)) (aCons (dU (gIsE [("BadYard" : Str), ("BadPlaces" : Str), ("BadDeed" : Str), ("BadText" : Str), ("Unlike" : Str)] ("BadPlaces" : Str)) (dVar 0)) (aCons (dU (gIsE [("BadYard" : Str), ("BadPlaces" : Str), ("BadDeed" : Str), ("BadText" : Str), ("Unlike" : Str)] ("BadDeed" : Str)) (dVar 0)) aNil))))) (gSet 1))
    (sSeq (sAsg (dB gAdd (dVarO 1) (lD (dNL gLstD (aCons (dU (gIsE [("BadYard" : Str), ("BadPlaces" : Str), ("BadDeed" : Str), ("BadText" : Str), ("Unlike" : Str)] ("BadText" : Str)) (dVar 0)) (aCons (dU (gIsE [("BadYard" : Str), ("BadPlaces" : Str), ("BadDeed" : Str), ("BadText" : Str), ("Unlike" : Str)] ("Unlike" : Str)) (dVar 0)) aNil))))) (gSet 1))
    (sSeq (sIf (tOrD (tV (dB gNe (dMO gCount (dVarO 1) (aCons (dC (.bool true)) aNil)) (dC (.int 1)))) (tNotD (tV (dU (gIsVE [("BadYard" : Str), ("BadPlaces" : Str), ("BadDeed" : Str), ("BadText" : Str), ("Unlike" : Str)]) (dVar 0))))) (sRet (dC (.str ("other" : Str)))) sNext)
    (sRet (dB gIx (lD (dNL gLstD (aCons (dC (.str ("yard" : Str))) (aCons (dC (.str ("places" : Str))) (aCons (dC (.str ("deed" : Str))) (aCons (dC (.str ("text" : Str))) (aCons (dC (.str ("unlike" : Str))) aNil))))))) (dMO gIndex (dVarO 1) (aCons (dC (.bool true)) aNil)))))))
def d__law_word : Fn := dDef 1 2 b__law_word
def b__law_asked : DS := (sSeq (sAsg (dC .none) (gSet 3))
    (sSeq (sAsg (dC .none) (gSet 4))
    (sSeq (sTryKeep [("BadYard" : Str), ("BadPlaces" : Str), ("BadDeed" : Str), ("BadText" : Str), ("Unlike" : Str)] 5 4 (sSetX 3 (xIf (tV (dVar 2)) (xCall x_need_yard (aCons (dVar 0) aNil)) (xCall x_yard_of (aCons (dVar 0) (aCons (dVar 1) aNil))))))
    (sRet (dIf (tV (dU gIsN (dVarO 4))) (dN gRepr (aCons (dVarO 3) aNil)) (dCall d__law_word (aCons (dVar 4) aNil)))))))
def d__law_asked : Fn := dDef 3 6 b__law_asked
def b__law_odd : DS := (sSeq (sSetL 2 (dNL gLstD (aCons (dC .none) (aCons (dC (.int 5)) (aCons (dC (.str ("abc" : Str))) (aCons (dC (.dict [])) (aCons (dC (.bool true)) (aCons (dN gTupD (aCons (dC (.str ("a" : Str))) (aCons (dC (.int 1)) aNil))) (aCons (lD (dNL gLstD (aCons (dN gTupD (aCons (dC (.str ("a" : Str))) (aCons (dC (.int 1)) aNil))) aNil))) (aCons (lD (dNL gLstD (aCons (lD (dNL gLstD aNil)) aNil))) (aCons (dN gTupD (aCons (dN gTupD aNil) aNil)) (aCons (lD (dNL gLstD (aCons (dN gTupD (aCons (dC (.str ("a" : Str))) (aCons (dC (.int 1)) aNil))) (aCons (dN gTupD (aCons (dC (.str ("b" : Str))) (aCons (dC (.int 1)) aNil))) aNil)))) (aCons (lD (dNL gLstD (aCons (lD (dNL gLstD (aCons (dN gTupD (aCons (dC (.str ("a" : Str))) (aCons (dC (.int 1)) aNil))) (aCons (dC (.int 5)) aNil)))) aNil))) aNil)))))))))))))
    (sSeq (sMut 2 gAppend (aCons (dN gTupD (aCons (dN gTupD (aCons (dC (.str ("a" : Str))) (aCons (dC (.int 1)) aNil))) aNil)) aNil))
    (sSeq (sSetL 2 (dBL gCat (dVarO 2) (lD (dNL gLstD (aCons (lD (dNL gLstD (aCons (lD (dNL gLstD (aCons (dN gTupD (aCons (dC (.str ("a" : Str))) (aCons (dC (.bool true)) aNil))) aNil))) aNil))) (aCons (lD (dNL gLstD (aCons (lD (dNL gLstD (aCons (dN gTupD (aCons (dC (.str ("A" : Str))) (aCons (dC (.int 1)) aNil))) aNil))) aNil))) (aCons (lD (dNL gLstD (aCons (lD (dNL gLstD (aCons (dN gTupD (aCons (dC (.str ("a" : Str))) (aCons (dC (.int 0)) aNil))) aNil))) aNil))) (aCons (lD (dNL gLstD (aCons (dN gTupD (aCons (dN gTupD (aCons (dC (.str ("a" : Str))) (aCons (dC (.int 1)) aNil))) aNil)) aNil))) (aCons (lD (dNL gLstD (aCons (lD (dNL gLstD (aCons (lD (dNL gLstD (aCons (dC (.str ("a" : Str))) (aCons (dC (.int 1)) aNil)))) aNil))) aNil))) (aCons (lD (dNL gLstD (aCons (lD (dNL gLstD (aCons (dC (.str ("a" : Str))) aNil))) aNil))) (aCons (lD (dNL gLstD (aCons (dC .none) aNil))) (aCons (lD (dNL gLstD (aCons (dC (.str ("a" : Str))) aNil))) aNil))))))))))))
    (sSeq (sSetL 2 (dBL gCat (dVarO 2) (lD (dNL gLstD (aCons (lD (dNL gLstD (aCons (lD (dNL gLstD (aCons (dN gTupD (aCons (dC (.str ("a" : Str))) (aCons (dC (.int 1)) aNil))) (aCons (dN gTupD (aCons (dC (.str ("a" : Str))) (aCons (dU gNeg (dC (.int 1))) aNil))) aNil)))) aNil))) (aCons (lD (dNL gLstD (aCons (lD (dNL gLstD (aCons (dN gTupD (aCons (dC (.str ("a" : Str))) (aCons (dC (.int 1)) aNil))) aNil))) (aCons (lD (dNL gLstD (aCons (dN gTupD (aCons (dC (.str ("a" : Str))) (aCons (dC (.int 1)) aNil))) aNil))) aNil)))) (aCons (lD (dNL gLstD (aCons (lD (dNL gLstD (aCons (dN gTupD (aCons (dC (.str ("abcdefghi" : Str))) (aCons (dC (.int 1)) aNil))) aNil))) aNil))) (aCons (lD (dNL gLstD (aCons (lD (dNL gLstD (aCons (dN gTupD (aCons (dC (.str ("a" : Str))) (aCons (dC (.int 1)) (aCons (dC (.int 1)) aNil)))) aNil))) aNil))) aNil))))))))
    (sRet (dB gIx (dVarO 2) (dCall d__law_draw (aCons (dVar 0) (aCons (dVar 1) (aCons (dN gLen (aCons (dVarO 2) aNil)) aNil))))))))))
def d__law_odd : Fn := dDef 2 3 b__law_odd
def b__law_many : DS := (sRet (dCall d__law_rows (aCons (dVar 0) (aCons (dVar 1) (aCons (lD (dCallL d__law_names (aCons (dVar 0) (aCons (dVar 1) (aCons (dVar 2) aNil))))) aNil)))))
def d__law_many : Fn := dDef 3 3 b__law_many
def b__law_changed_1 : DS := (sSeq (sAsg (dB gAdd (dB gAdd (dSl gSlE (dB gIx (dVarO 2) (dVarO 3)) pN (pS (dVarO 5))) (dN gTupD (aCons (dVar 7) aNil))) (dSl gSlE (dB gIx (dVarO 2) (dVarO 3)) (pS (dB gAdd (dVarO 5) (dC (.int 1)))) pN)) (gSet 8))
    (sMut 4 gAppend (aCons (dB gIx (lD (dNL gLstD (aCons (dN gTupD (aCons (dVar 8) (aCons (dB gIx (dVarO 2) (dC (.int 1))) aNil))) (aCons (dN gTupD (aCons (dB gIx (dVarO 2) (dC (.int 0))) (aCons (dVar 8) aNil))) aNil)))) (dVarO 3)) aNil)))
def b__law_changed : DS := (sSeq (sAsg (dCall d__law_draw (aCons (dVar 0) (aCons (dVar 1) (aCons (dC (.int 2)) aNil)))) (gSet 3))
    (sSeq (sSetL 4 (dNL gLstD (aCons (dN gTupD (aCons (dB gStep (dB gIx (dVarO 2) (dC (.int 0))) (dU gNeg (dC (.int 1)))) (aCons (dB gIx (dVarO 2) (dC (.int 1))) aNil))) (aCons (dN gTupD (aCons (dB gIx (dVarO 2) (dC (.int 0))) (aCons (dB gStep (dB gIx (dVarO 2) (dC (.int 1))) (dU gNeg (dC (.int 1)))) aNil))) (aCons (dVar 2) aNil)))))
    (sSeq (sIf (tV (dB gNe (dB gIx (dVarO 2) (dVarO 3)) (dN gTupD aNil))) (sSeq (sAsg (dCall d__law_draw (aCons (dVar 0) (aCons (dVar 1) (aCons (dN gLen (aCons (dB gIx (dVarO 2) (dVarO 3)) aNil)) aNil)))) (gSet 5))
    (sSeq (sAsg (dB gIx (dB gIx (dVarO 2) (dVarO 3)) (dVarO 5)) (gSet 6))
    (sFor (dItems (dN gTupD (aCons (dN gTuple (aCons (lD (dCallL d__law_turned_back (aCons (dVar 6) aNil))) aNil)) (aCons (dB gAdd (dSl gSlE (dVarO 6) (pS (dC (.int 1))) pN) (dSl gSlE (dVarO 6) pN (pS (dC (.int 1))))) aNil)))) (gSet 7) b__law_changed_1))) sNext)
    (sRetL (dOwn 4)))))
def d__law_changed : Fn := dDef 3 9 b__law_changed
def b_law03_1 : DS := (sIf (tOrD (tV (dB gNe (dCall d__law_asked (aCons (dVar 11) (aCons (dVar 12) (aCons (dC (.bool false)) aNil)))) (dC (.str ("yard" : Str))))) (tV (dB gNe (dCall d__law_asked (aCons (dVar 11) (aCons (dVar 12) (aCons (dC (.bool false)) aNil)))) (dC (.str ("yard" : Str)))))) (sRet (dC (.bool false))) sNext)
def e_law03_2 : DE := (lD (dNL gList (aCons (dVarO 14) aNil)))
def e_law03_3 : DE := (lD (dNL gList (aCons (dVarO 15) aNil)))
def b_law03_4 : DS := (sSeq (sAsg (dCall d__law_yard (aCons (lD (dLc (dItems (dB gIx (dVarO 7) (dC (.int 0)))) [14] (gSet 14) tAll e_law03_2)) (aCons (lD (dLc (dItems (dB gIx (dVarO 7) (dC (.int 1)))) [15] (gSet 15) tAll e_law03_3)) aNil))) (gSet 13))
    (sIf (tV (dB gNe (dCall d__law_asked (aCons (dVar 7) (aCons (dC .none) (aCons (dC (.bool true)) aNil)))) (dB gIx (lD (dNL gLstD (aCons (dN gRepr (aCons (dVarO 7) aNil)) (aCons (dC (.str ("yard" : Str))) aNil)))) (dN gInt (aCons (dB gNe (dN gRepr (aCons (dVarO 13) aNil)) (dN gRepr (aCons (dVarO 7) aNil))) aNil))))) (sRet (dC (.bool false))) sNext))
def b_law03_5 : DS := (sIf (tV (dB gNe (dCall d__law_asked (aCons (dVar 7) (aCons (dC .none) (aCons (dC (.bool true)) aNil)))) (dC (.str ("yard" : Str))))) (sRet (dC (.bool false))) sNext)
def b_law03 : DS := (sSeq (sAsg (dCall d__law_many (aCons (dVar 0) (aCons (dVar 1) (aCons (dB gIx (lD (dNL gLstD (aCons (dC (.int 1)) (aCons (dC (.int 3)) (aCons (dC (.int 7)) (aCons (dC (.int 60)) aNil)))))) (dCall d__law_draw (aCons (dVar 0) (aCons (dVar 1) (aCons (dC (.int 4)) aNil))))) aNil)))) (gTupG 2 (gConsD (gSet 9) (gConsD (gSet 10) gNilD))))
    (sSeq (sAsg (dCall d__law_yard (aCons (dVar 9) (aCons (dVar 10) aNil))) (gSet 2))
    (sSeq (sIf (tOrD (tV (dB gNe (dCall d__law_asked (aCons (dVar 9) (aCons (dVar 10) (aCons (dC (.bool false)) aNil)))) (dN gRepr (aCons (dVarO 2) aNil)))) (tV (dB gNe (dCall d__law_asked (aCons (dVar 2) (aCons (dC .none) (aCons (dC (.bool true)) aNil)))) (dN gRepr (aCons (dVarO 2) aNil))))) (sRet (dC (.bool false))) sNext)
    (sSeq (sAsg (dCall d__law_odd (aCons (dVar 0) (aCons (dVar 1) aNil))) (gSet 3))
    (sSeq (sAsg (dCall d__law_many (aCons (dVar 0) (aCons (dVar 1) (aCons (dB gAdd (dC (.int 61)) (dCall d__law_draw (aCons (dVar 0) (aCons (dVar 1) (aCons (dC (.int 40)) aNil))))) aNil)))) (gSet 4))
    (sSeq (sAsg (dB gAdd (dVarO 9) (dVarO 10)) (gSet 5))
    (sSeq (sSetL 6 (dNL gLstD (aCons (dN gTupD (aCons (dVar 3) (aCons (dVar 10) aNil))) (aCons (dN gTupD (aCons (dVar 9) (aCons (dVar 3) aNil))) (aCons (dN gTupD (aCons (dVar 9) (aCons (dB gAdd (dVarO 10) (lD (dNL gLstD (aCons (lD (dNL gLstD aNil)) aNil)))) aNil))) (aCons (dN gTupD (aCons (dB gAdd (dVarO 9) (lD (dNL gLstD (aCons (dB gIx (dVarO 5) (dC (.int 0))) aNil)))) (aCons (dVar 10) aNil))) (aCons (dVar 4) aNil)))))))
    (sSeq (sMut 6 gAppend (aCons (dN gTupD (aCons (dVar 9) (aCons (dB gAdd (dVarO 10) (lD (dNL gLstD (aCons (dB gIx (dVarO 5) (dU gNeg (dC (.int 1)))) aNil)))) aNil))) aNil))
    (sSeq (sSetL 6 (dBL gCat (dVarO 6) (lD (dNL gLstD (aCons (dN gTupD (aCons (dN gTuple (aCons (dVarO 9) aNil)) (aCons (dVar 10) aNil))) (aCons (dN gTupD (aCons (dVar 9) (aCons (dN gTuple (aCons (dVarO 10) aNil)) aNil))) (aCons (dN gTupD (aCons (dC .none) (aCons (dC .none) aNil))) (aCons (dN gTupD (aCons (dB gAdd (dVarO 9) (lD (dNL gLstD (aCons (dN gTuple (aCons (dB gIx (dVarO 5) (dC (.int 0))) aNil)) aNil)))) (aCons (dVar 10) aNil))) aNil))))))))
    (sFreeze 6 (sSeq (sFor (dItems (dVar 6)) (gTupG 2 (gConsD (gSet 11) (gConsD (gSet 12) gNilD))) b_law03_1)
    (sSeq (sFor (dItems (dCall d__law_changed (aCons (dVar 0) (aCons (dVar 1) (aCons (dVar 2) aNil))))) (gSet 7) b_law03_4)
    (sSeq (sAsg (lD (dNL gLstD (aCons (dC .none) (aCons (dC (.int 5)) (aCons (dN gTupD aNil) (aCons (dSl gSlE (dVarO 2) pN (pS (dC (.int 1)))) (aCons (dB gAdd (dVarO 2) (dN gTupD (aCons (dN gTupD aNil) aNil))) (aCons (lD (dNL gList (aCons (dVarO 2) aNil))) (aCons (dN gTupD (aCons (dB gIx (dVarO 2) (dC (.int 0))) (aCons (lD (dNL gList (aCons (dB gIx (dVarO 2) (dC (.int 1))) aNil))) aNil))) (aCons (dN gTupD (aCons (lD (dNL gList (aCons (dB gIx (dVarO 2) (dC (.int 0))) aNil))) (aCons (dB gIx (dVarO 2) (dC (.int 1))) aNil))) aNil)))))))))) (gSet 8))
    (sSeq (sFor (dItems (dB gAdd (dVarO 8) (lD (dNL gLstD (aCons (dCall d__law_yard (aCons (dB gIx (dVarO 4) (dC (.int 0))) (aCons (dB gIx (dVarO 4) (dC (.int 1))) aNil))) (aCons (dN gTupD (aCons (dN gTupD aNil) (aCons (dVar 3) aNil))) (aCons (dN gTupD (aCons (dVar 3) (aCons (dN gTupD aNil) aNil))) (aCons (dN gTupD (aCons (dVar 9) (aCons (dVar 10) aNil))) aNil)))))))) (gSet 7) b_law03_5)
    (sRet (dC (.bool true)))))))))))))))))
def b__piece_text : DS := (sSeq (sAsg (dVar 0) (gTupG 2 (gConsD (gSet 1) (gConsD (gSet 2) gNilD))))
    (sRet (dIf (tV (dB gEq (dVarO 2) (dC (.int 1)))) (dVar 1) (dFstr (aCons (dC (.str ("-" : Str))) (aCons (dU gFmt (dVar 1)) aNil))))))
def d__piece_text : Fn := dDef 1 3 b__piece_text
def e__line_text_1 : DE := (dCall d__piece_text (aCons (dVar 1) aNil))
def b__line_text : DS := (sRet (dM gJoin (dC (.str (" " : Str))) (aCons (lD (dLc (dItems (dVar 0)) [1] (gSet 1) tAll e__line_text_1)) aNil)))
def d__line_text : Fn := dDef 1 2 b__line_text
def e_written_1 : DE := (dCall d__line_text (aCons (dVar 5) aNil))
def e_written_2 : DE := (dFstr (aCons (dC (.str ("(" : Str))) (aCons (dU gFmt (dCall d__line_text (aCons (dVar 6) aNil))) (aCons (dC (.str (")" : Str))) aNil))))
def b_written : DS := (sSeq (sAsg (dVar 0) (gTupG 2 (gConsD (gSet 3) (gConsD (gSet 4) gNilD))))
    (sSeq (sSetL 1 (dLc (dItems (dVar 3)) [5] (gSet 5) tAll e_written_1))
    (sSeq (sSetL 2 (dLc (dItems (dVar 4)) [6] (gSet 6) tAll e_written_2))
    (sFreeze 1 (sFreeze 2 (sRet (dM gJoin (dC (.str (", " : Str))) (aCons (lD (dNL gLstD (aStar (dVar 1) (aStar (dVar 2) aNil)))) aNil))))))))
def d_written : Fn := dDef 1 7 b_written
def b__piece_in : DS := (sRet (dIf (tV (dM gStarts (dVarO 0) (aCons (dC (.str ("-" : Str))) aNil))) (dN gTupD (aCons (dSl gSlE (dVarO 0) (pS (dC (.int 1))) pN) (aCons (dU gNeg (dC (.int 1))) aNil))) (dN gTupD (aCons (dVar 0) (aCons (dC (.int 1)) aNil)))))
def d__piece_in : Fn := dDef 1 1 b__piece_in
def e__pieces_in_1 : DE := (dCall d__piece_in (aCons (dVar 1) aNil))
def b__pieces_in : DS := (sRet (lD (dLc (dItems (lD (dML gSplit (dVarO 0) (aCons (dC (.str (" " : Str))) aNil)))) [1] (gSet 1) tAll e__pieces_in_1)))
def d__pieces_in : Fn := dDef 1 2 b__pieces_in
def b__is_ring : DS := (sRet (vAnd (dM gStarts (dVarO 0) (aCons (dC (.str ("(" : Str))) aNil)) (dM gEnds (dVarO 0) (aCons (dC (.str (")" : Str))) aNil))))
def d__is_ring : Fn := dDef 1 1 b__is_ring
def e_read_1 : DE := (dCall d__pieces_in (aCons (dVar 5) aNil))
def t_read_2 : DT := (tNotD (tV (dCall d__is_ring (aCons (dVar 5) aNil))))
def e_read_3 : DE := (dCall d__pieces_in (aCons (dSl gSlE (dVarO 5) (pS (dC (.int 1))) (pS (dU gNeg (dC (.int 1))))) aNil))
def t_read_4 : DT := (tV (dCall d__is_ring (aCons (dVar 5) aNil)))
def b_read : DS := (sSeq (sIf (tV (dU (gTyNe "str") (dVarO 0))) (sRaise ("BadText" : Str) (aCons (dC (.str ("what is to be read is no text" : Str))) aNil)) sNext)
    (sSeq (sAsg (dIf (tV (dB gNe (dVarO 0) (dC (.str ("" : Str))))) (lD (dML gSplit (dVarO 0) (aCons (dC (.str (", " : Str))) aNil))) (lD (dNL gLstD aNil))) (gSet 1))
    (sSeq (sSetL 2 (dLc (dItems (dVar 1)) [5] (gSet 5) t_read_2 e_read_1))
    (sSeq (sSetL 3 (dLc (dItems (dVar 1)) [5] (gSet 5) t_read_4 e_read_3))
    (sFreeze 2 (sFreeze 3 (sRet (dCallX x_yard_of (aCons (dVar 2) (aCons (dVar 3) aNil))))))))))
def x_read : Fx := dDefX 1 6 b_read
def e__law_text_1 : DE := (dB gAdd (dSl gSlE (dC (.str ("-" : Str))) pN (pS (dN gInt (aCons (dB gLt (dVarO 5) (dC (.int 0))) aNil)))) (dVarO 4))
def b__law_text_2 : DS := (sMut 1 gAppend (aCons (dM gJoin (dC (.str (" " : Str))) (aCons (lD (dLc (dItems (dVar 2)) [4, 5] (gTupG 2 (gConsD (gSet 4) (gConsD (gSet 5) gNilD))) tAll e__law_text_1)) aNil)) aNil))
def e__law_text_3 : DE := (dB gAdd (dSl gSlE (dC (.str ("-" : Str))) pN (pS (dN gInt (aCons (dB gLt (dVarO 5) (dC (.int 0))) aNil)))) (dVarO 4))
def b__law_text_4 : DS := (sMut 1 gAppend (aCons (dB gAdd (dB gAdd (dC (.str ("(" : Str))) (dM gJoin (dC (.str (" " : Str))) (aCons (lD (dLc (dItems (dVar 3)) [4, 5] (gTupG 2 (gConsD (gSet 4) (gConsD (gSet 5) gNilD))) tAll e__law_text_3)) aNil))) (dC (.str (")" : Str)))) aNil))
def b__law_text : DS := (sSeq (sSetL 1 (dNL gLstD aNil))
    (sSeq (sFor (dItems (dB gIx (dVarO 0) (dC (.int 0)))) (gSet 2) b__law_text_2)
    (sSeq (sFor (dItems (dB gIx (dVarO 0) (dC (.int 1)))) (gSet 3) b__law_text_4)
    (sRet (dM gJoin (dC (.str (", " : Str))) (aCons (dVarO 1) aNil))))))
def d__law_text : Fn := dDef 1 6 b__law_text
def b_law06_1 : DS := (sSeq (sAsg (dCall d__law_other_reading (aCons (dVar 0) (aCons (dVar 1) (aCons (dVar 12) (aCons (dB gEq (dVarO 10) (dC (.int 1))) aNil))))) (gSet 13))
    (sMut 8 gAppend (aCons (dCall d__law_text (aCons (dIf (tV (dB gEq (dVarO 10) (dC (.int 0)))) (dN gTupD (aCons (dN gTupD (aCons (dVar 13) aNil)) (aCons (dN gTupD aNil) aNil))) (dN gTupD (aCons (dN gTupD aNil) (aCons (dN gTupD (aCons (dVar 13) aNil)) aNil)))) aNil)) aNil)))
def b_law06_2 : DS := (sFor (dItems (dVar 11)) (gSet 12) b_law06_1)
def b_law06_3 : DS := (sSeq (sSetL 8 (dNL gLstD aNil))
    (sSeq (sFor (dNL gEnum (aCons (dN gTupD (aCons (dVar 6) (aCons (dVar 7) aNil))) aNil)) (gTupG 2 (gConsD (gSet 10) (gConsD (gSet 11) gNilD))) b_law06_2)
    (sFreeze 8 (sSeq (sAsg (dM gJoin (dC (.str (", " : Str))) (aCons (lD (dCallL d__law_shuffled (aCons (dVar 0) (aCons (dVar 1) (aCons (dVar 8) aNil))))) aNil)) (gSet 9))
    (sIf (tV (dB gNe (dN gRepr (aCons (dCallX x_read (aCons (dVar 9) aNil)) aNil)) (dN gRepr (aCons (dVarO 3) aNil)))) (sRet (dC (.bool false))) sNext)))))
def b_law06 : DS := (sSeq (sAsg (lD (dCallL d__law_names (aCons (dVar 0) (aCons (dVar 1) (aCons (dB gIx (lD (dNL gLstD (aCons (dC (.int 0)) (aCons (dC (.int 1)) (aCons (dC (.int 2)) (aCons (dC (.int 5)) (aCons (dC (.int 12)) (aCons (dC (.int 60)) aNil)))))))) (dCall d__law_draw (aCons (dVar 0) (aCons (dVar 1) (aCons (dC (.int 6)) aNil))))) aNil))))) (gSet 2))
    (sSeq (sAsg (dCall d__law_rows (aCons (dVar 0) (aCons (dVar 1) (aCons (dVar 2) aNil)))) (gTupG 2 (gConsD (gSet 6) (gConsD (gSet 7) gNilD))))
    (sSeq (sAsg (dCall d__law_yard (aCons (dVar 6) (aCons (dVar 7) aNil))) (gSet 3))
    (sSeq (sAsg (dCall d_written (aCons (dVar 3) aNil)) (gSet 4))
    (sSeq (sIf (tOrD (tV (dB gNe (dVarO 4) (dCall d__law_text (aCons (dVar 3) aNil)))) (tOrD (tNotD (tV (dU (gIsi "str") (dVarO 4)))) (tV (dB gNe (dN gRepr (aCons (dCallX x_read (aCons (dVar 4) aNil)) aNil)) (dN gRepr (aCons (dVarO 3) aNil)))))) (sRet (dC (.bool false))) sNext)
    (sSeq (sFor (dNL gRange1 (aCons (dC (.int 3)) aNil)) (gSet 5) b_law06_3)
    (sRet (dB gEq (dCall d_written (aCons (dVar 3) aNil)) (dVarO 4)))))))))
end Cm

set_option Elab.async false
set_option linter.all false
set_option maxRecDepth 100000
set_option maxHeartbeats 2000000
namespace K03
open PySem PySem.Spec PyProof.Rows L2 Evl Dn Cm
def topS (i : Nat) : Stmt := PySem.Challenge.pw_cutjoin_k03_yards_refused.main.body.getD i (.Pass ⟨0, 0, 0, 0⟩)
structure Dfn (K : PySem.W.Frag) (mg : Str → Option Value) (x : Str) (st : Stmt) (ps : List Str) (f : Addr) (fd : FuncData) : Prop where
  F : Fun K x x st f fd
  g : mg x = some (.ref f)
  b : Binds K fd ps []
theorem boot_all : bootBuiltins "all" = some (.builtin "all") := by decide +kernel
theorem boot_int : bootBuiltins "int" = some (.type "int") := by decide +kernel
theorem boot_isinstance : bootBuiltins "isinstance" = some (.builtin "isinstance") := by decide +kernel
theorem boot_len : bootBuiltins "len" = some (.builtin "len") := by decide +kernel
theorem boot_list : bootBuiltins "list" = some (.type "list") := by decide +kernel
theorem boot_min : bootBuiltins "min" = some (.builtin "min") := by decide +kernel
theorem boot_repr : bootBuiltins "repr" = some (.builtin "repr") := by decide +kernel
theorem boot_set : bootBuiltins "set" = some (.type "set") := by decide +kernel
theorem boot_sorted : bootBuiltins "sorted" = some (.builtin "sorted") := by decide +kernel
theorem boot_str : bootBuiltins "str" = some (.type "str") := by decide +kernel
theorem boot_tuple : bootBuiltins "tuple" = some (.type "tuple") := by decide +kernel
theorem boot_type : bootBuiltins "type" = some (.type "type") := by decide +kernel
structure Txt (K : PySem.W.Frag) (mg : Str → Option Value) (ad : Nat → Addr) (fds : Nat → FuncData) : Prop where
  b_ValueError : mg "ValueError" = none
  b_all : mg "all" = none
  b_int : mg "int" = none
  b_isinstance : mg "isinstance" = none
  b_len : mg "len" = none
  b_list : mg "list" = none
  b_min : mg "min" = none
  b_range : mg "range" = none
  b_repr : mg "repr" = none
  b_set : mg "set" = none
  b_sorted : mg "sorted" = none
  b_str : mg "str" = none
  b_tuple : mg "tuple" = none
  b_type : mg "type" = none
  c_LONGEST_NAME : ∃ t, mg "LONGEST_NAME" = some (.int 8 t)
  c_MOST_PIECES : ∃ t, mg "MOST_PIECES" = some (.int 60 t)
  errs : Errs K mg "JoinError" [("BadYard" : Str), ("BadPlaces" : Str), ("BadDeed" : Str), ("BadText" : Str), ("Unlike" : Str)]
  f_is_name : Dfn K mg "is_name" (topS 9) ["thing"] (ad 9) (fds 9)
  f_is_piece : Dfn K mg "is_piece" (topS 10) ["thing"] (ad 10) (fds 10)
  f__is_name_with : Dfn K mg "_is_name_with" (topS 11) ["thing", "numbers"] (ad 11) (fds 11)
  f_flipped : Dfn K mg "flipped" (topS 12) ["piece"] (ad 12) (fds 12)
  f_yard_of : Dfn K mg "yard_of" (topS 15) ["rows", "rings"] (ad 15) (fds 15)
  f_need_yard : Dfn K mg "need_yard" (topS 16) ["thing"] (ad 16) (fds 16)
  f_least_yard : Dfn K mg "least_yard" (topS 17) ["rows", "rings"] (ad 17) (fds 17)
  f__is_list_of_lists : Dfn K mg "_is_list_of_lists" (topS 18) ["thing"] (ad 18) (fds 18)
  f__is_tuple_of_tuples : Dfn K mg "_is_tuple_of_tuples" (topS 19) ["thing"] (ad 19) (fds 19)
  f__is_pair_of_tuples : Dfn K mg "_is_pair_of_tuples" (topS 20) ["thing"] (ad 20) (fds 20)
  f__need_pieces : Dfn K mg "_need_pieces" (topS 21) ["lines"] (ad 21) (fds 21)
  f__backwards : Dfn K mg "_backwards" (topS 22) ["line"] (ad 22) (fds 22)
  f__least_row : Dfn K mg "_least_row" (topS 23) ["row"] (ad 23) (fds 23)
  f__least_ring : Dfn K mg "_least_ring" (topS 24) ["ring"] (ad 24) (fds 24)
  f__law_draw : Dfn K mg "_law_draw" (topS 26) ["_law_script", "_law_at", "_law_many_here"] (ad 26) (fds 26)
  f__law_names : Dfn K mg "_law_names" (topS 27) ["_law_script", "_law_at", "_law_many_here"] (ad 27) (fds 27)
  f__law_rows : Dfn K mg "_law_rows" (topS 28) ["_law_script", "_law_at", "_law_names_here"] (ad 28) (fds 28)
  f__law_turned_back : Dfn K mg "_law_turned_back" (topS 29) ["_law_pieces"] (ad 29) (fds 29)
  f__law_ring : Dfn K mg "_law_ring" (topS 30) ["_law_ring_here"] (ad 30) (fds 30)
  f__law_yard : Dfn K mg "_law_yard" (topS 31) ["_law_rows_here", "_law_rings"] (ad 31) (fds 31)
  f__law_word : Dfn K mg "_law_word" (topS 32) ["_law_error"] (ad 32) (fds 32)
  f__law_asked : Dfn K mg "_law_asked" (topS 33) ["_law_one", "_law_two", "_law_is_whole"] (ad 33) (fds 33)
  f__law_odd : Dfn K mg "_law_odd" (topS 34) ["_law_script", "_law_at"] (ad 34) (fds 34)
  f__law_many : Dfn K mg "_law_many" (topS 35) ["_law_script", "_law_at", "_law_many_here"] (ad 35) (fds 35)
  f__law_changed : Dfn K mg "_law_changed" (topS 36) ["_law_script", "_law_at", "_law_due"] (ad 36) (fds 36)
  f_law : Dfn K mg "law" (topS 37) ["_law_script"] (ad 37) (fds 37)
section
variable {P : Program} {w : World} {K : PySem.W.Frag} {mg : Str → Option Value} {base : Heap} {ad : Nat → Addr} {fds : Nat → FuncData}
abbrev s_is_name : Stmt := topS 9
theorem sc_is_name : FnScope ["thing", "letter"] ["thing"] (defScope s_is_name) := ⟨rfl, rfl, rfl, by decide +kernel, rfl, by decide +kernel, by decide +kernel⟩
theorem ok_is_name (T : Txt K mg ad fds) : FnG P w K mg base CX0 1 (ad 9) (fds 9) ["thing"] (spD ⟨K, P, w, mg⟩ d_is_name) :=
  fnG_D T.f_is_name.F sc_is_name b_is_name fun cdv A outer s H E m F0 gd hr =>
    (ss_cons (s_if (t_w (w_or (t_tyNe (o_var 0) T.b_type T.b_str boot_str (by decide)) (w_or1 (t_not (t_chain (o_e e_int) (o_e (e_callB ok_len T.b_len boot_len (p_consO (o_var 0) p_nilO))) (o_e (e_globX T.c_LONGEST_NAME)) (ok_le (hu64 hr)) (ok_le (hu64 hr))))))) (ss_one (s_ret e_bl)) ss_nil)
      (ss_one (s_ret (e_callB (ok_all rfl) T.b_all boot_all (p_consO (o_l (l_lc rfl sc_is_name.nd (own := [(("letter" : Str), 1)]) (blkD (N := ["thing", "letter"]) (sc := defScope s_is_name) (by decide +kernel)) (by decide) (i_seq (e_var 0)) (fun _ _ _ _ _ => (g_name 1 sc_is_name.nd)) (fun _ _ _ _ _ => ts_nil) (fun _ _ _ _ _ => (e_chain (o_e e_str) (o_var 1) (o_e e_str) (ok_le (hu64 hr)) (ok_le (hu64 hr)))))) p_nilO)))))
abbrev s__is_name_with : Stmt := topS 11
theorem sc__is_name_with : FnScope ["thing", "numbers", "name", "number"] ["thing", "numbers"] (defScope s__is_name_with) := ⟨rfl, rfl, rfl, by decide +kernel, rfl, by decide +kernel, by decide +kernel⟩
theorem ok__is_name_with (T : Txt K mg ad fds) : FnG P w K mg base CX0 2 (ad 11) (fds 11) ["thing", "numbers"] (spD ⟨K, P, w, mg⟩ d__is_name_with) :=
  fnG_D T.f__is_name_with.F sc__is_name_with b__is_name_with fun cdv A outer s H E m F0 gd hr =>
    (ss_cons (s_if (t_w (w_or (t_tyNe (o_var 0) T.b_type T.b_tuple boot_tuple (by decide)) (w_or1 (t_cmp (o_e (e_callB ok_len T.b_len boot_len (p_consO (o_var 0) p_nilO))) (o_e e_int) (ok_ne (hu64 hr)) (nomark _))))) (ss_one (s_ret e_bl)) ss_nil)
      (ss_cons (s_asg (e_var 0) (g_tup rfl (gs_cons (g_name 2 sc__is_name_with.nd) (gs_cons (g_name 3 sc__is_name_with.nd) gs_nil))))
      (ss_one (s_ret (v_and (e_callG (ok_is_name T) gd (hr.mono (by decide)) T.f_is_name.g T.f_is_name.F.kp T.f_is_name.b (p_cons (e_var 2) p_nil)) (v_and (e_tyEq (o_var 3) T.b_type T.b_int boot_int (by decide)) (v_one (e_cmp (o_var 3) (o_var 1) (ok_in (hu65 hr)) rfl))))))))
abbrev s_is_piece : Stmt := topS 10
theorem sc_is_piece : FnScope ["thing"] ["thing"] (defScope s_is_piece) := ⟨rfl, rfl, rfl, by decide +kernel, rfl, by decide +kernel, by decide +kernel⟩
theorem ok_is_piece (T : Txt K mg ad fds) : FnG P w K mg base CX0 3 (ad 10) (fds 10) ["thing"] (spD ⟨K, P, w, mg⟩ d_is_piece) :=
  fnG_D T.f_is_piece.F sc_is_piece b_is_piece fun cdv A outer s H E m F0 gd hr =>
    (ss_one (s_ret (e_callG (ok__is_name_with T) gd (hr.mono (by decide)) T.f__is_name_with.g T.f__is_name_with.F.kp T.f__is_name_with.b (p_cons (e_var 0) (p_cons (e_tup (p_cons e_int (p_cons (e_un (o_e e_int) ok_neg) p_nil))) p_nil)))))
abbrev s_flipped : Stmt := topS 12
theorem sc_flipped : FnScope ["piece", "name", "way"] ["piece"] (defScope s_flipped) := ⟨rfl, rfl, rfl, by decide +kernel, rfl, by decide +kernel, by decide +kernel⟩
theorem ok_flipped (T : Txt K mg ad fds) : FnG P w K mg base CX0 1 (ad 12) (fds 12) ["piece"] (spD ⟨K, P, w, mg⟩ d_flipped) :=
  fnG_D T.f_flipped.F sc_flipped b_flipped fun cdv A outer s H E m F0 gd hr =>
    (ss_cons (s_asg (e_var 0) (g_tup rfl (gs_cons (g_name 1 sc_flipped.nd) (gs_cons (g_name 2 sc_flipped.nd) gs_nil))))
      (ss_one (s_ret (e_tup (p_cons (e_var 1) (p_cons (e_un (o_var 2) ok_neg) p_nil))))))
abbrev s__need_pieces : Stmt := topS 21
theorem sc__need_pieces : FnScope ["lines", "seen", "line", "piece", "name", "_"] ["lines"] (defScope s__need_pieces) := ⟨rfl, rfl, rfl, by decide +kernel, rfl, by decide +kernel, by decide +kernel⟩
theorem ok__need_pieces (T : Txt K mg ad fds) : FnG P w K mg base (L2.CX P w) 4 (ad 21) (fds 21) ["lines"] (spX ⟨K, P, w, mg⟩ x__need_pieces) :=
  fnX_D T.f__need_pieces.F sc__need_pieces b__need_pieces fun cdv A outer s H E m F0 W gd hr tk =>
    (ss_cons (s_newS 1 sc__need_pieces.nd T.b_set boot_set)
      (ss_cons (s_for (passes_of rfl) rfl (i_seq (e_var 0)) (g_name 2 sc__need_pieces.nd) (ss_cons (s_if (t_cmp (o_e (e_callB ok_len T.b_len boot_len (p_consO (o_var 2) p_nilO))) (o_e e_int) (ok_eq (hu64 hr)) (nomark _)) (ss_one (s_raiseE tk rfl T.errs (by decide) (p_cons e_str p_nil))) ss_nil)
      (ss_one (s_for (passes_of rfl) rfl (i_seq (e_var 2)) (g_name 3 sc__need_pieces.nd) (ss_cons (s_if (t_not (t_val (e_callG (ok_is_piece T) gd (hr.mono (by decide)) T.f_is_piece.g T.f_is_piece.F.kp T.f_is_piece.b (p_cons (e_var 3) p_nil)))) (ss_one (s_raiseE tk rfl T.errs (by decide) (p_cons e_str p_nil))) ss_nil)
      (ss_cons (s_asg (e_var 3) (g_tup rfl (gs_cons (g_name 4 sc__need_pieces.nd) (gs_cons (g_name 5 sc__need_pieces.nd) gs_nil))))
      (ss_cons (s_if (t_inS 1 (e_var 4)) (ss_one (s_raiseE tk rfl T.errs (by decide) (p_cons (e_fstr (j_cons e_str (j_cons (e_fmt (e_var 4)) (j_cons e_str j_nil)))) p_nil))) ss_nil)
      (ss_one (s_addS 1 (e_var 4))))))))))
      (ss_one (s_if (t_cmp (o_e (e_lenS 1 T.b_len boot_len)) (o_e (e_globX T.c_MOST_PIECES)) ok_gt (nomark _)) (ss_one (s_raiseE tk rfl T.errs (by decide) (p_cons (e_fstr (j_cons e_str (j_cons (e_fmt (e_globX T.c_MOST_PIECES)) (j_cons e_str j_nil)))) p_nil))) ss_nil))))
abbrev s__backwards : Stmt := topS 22
theorem sc__backwards : FnScope ["line", "piece"] ["line"] (defScope s__backwards) := ⟨rfl, rfl, rfl, by decide +kernel, rfl, by decide +kernel, by decide +kernel⟩
theorem ok__backwards (T : Txt K mg ad fds) : FnG P w K mg base CX0 2 (ad 22) (fds 22) ["line"] (spD ⟨K, P, w, mg⟩ d__backwards) :=
  fnG_D T.f__backwards.F sc__backwards b__backwards fun cdv A outer s H E m F0 gd hr =>
    (ss_one (s_ret (e_callTy ok_tuple T.b_tuple boot_tuple (p_consO (o_l (l_lc rfl sc__backwards.nd (own := [(("piece" : Str), 1)]) (blkD (N := ["line", "piece"]) (sc := defScope s__backwards) (by decide +kernel)) (by decide) (i_seq (e_step (o_var 0) (o_e (e_un (o_e e_int) ok_neg)))) (fun _ _ _ _ _ => (g_name 1 sc__backwards.nd)) (fun _ _ _ _ _ => ts_nil) (fun _ _ _ _ _ => (e_callG (ok_flipped T) gd (hr.mono (by decide)) T.f_flipped.g T.f_flipped.F.kp T.f_flipped.b (p_cons (e_var 1) p_nil))))) p_nilO))))
abbrev s__least_row : Stmt := topS 23
theorem sc__least_row : FnScope ["row"] ["row"] (defScope s__least_row) := ⟨rfl, rfl, rfl, by decide +kernel, rfl, by decide +kernel, by decide +kernel⟩
theorem ok__least_row (T : Txt K mg ad fds) : FnG P w K mg base CX0 3 (ad 23) (fds 23) ["row"] (spD ⟨K, P, w, mg⟩ d__least_row) :=
  fnG_D T.f__least_row.F sc__least_row b__least_row fun cdv A outer s H E m F0 gd hr =>
    (ss_one (s_ret (e_callB (ok_min hr.hd (hu66 hr)) T.b_min boot_min (p_consO (o_e (e_callTy ok_tuple T.b_tuple boot_tuple (p_consO (o_var 0) p_nilO))) (p_consO (o_e (e_callG (ok__backwards T) gd (hr.mono (by decide)) T.f__backwards.g T.f__backwards.F.kp T.f__backwards.b (p_cons (e_var 0) p_nil))) p_nilO)))))
abbrev s__least_ring : Stmt := topS 24
theorem sc__least_ring : FnScope ["ring", "readings", "line", "first"] ["ring"] (defScope s__least_ring) := ⟨rfl, rfl, rfl, by decide +kernel, rfl, by decide +kernel, by decide +kernel⟩
theorem ok__least_ring (T : Txt K mg ad fds) : FnG P w K mg base CX0 3 (ad 24) (fds 24) ["ring"] (spD ⟨K, P, w, mg⟩ d__least_ring) :=
  fnG_D T.f__least_ring.F sc__least_ring b__least_ring fun cdv A outer s H E m F0 gd hr =>
    (ss_cons (s_setL 1 sc__least_ring.nd (l_lst p_nil))
      (ss_cons (s_for PassesOwn.never rfl (i_seq (e_tup (p_cons (e_callTy ok_tuple T.b_tuple boot_tuple (p_consO (o_var 0) p_nilO)) (p_cons (e_callG (ok__backwards T) gd (hr.mono (by decide)) T.f__backwards.g T.f__backwards.F.kp T.f__backwards.b (p_cons (e_var 0) p_nil)) p_nil)))) (g_name 2 sc__least_ring.nd) (ss_one (s_for PassesOwn.never rfl (i_range1 T.b_range (p_consO (o_e (e_callB ok_len T.b_len boot_len (p_consO (o_var 2) p_nilO))) p_nilO)) (g_name 3 sc__least_ring.nd) (ss_one (s_append 1 (e_op (o_e (e_slice ok_slE (o_var 2) (o_some (o_var 3)) o_none)) (o_e (e_slice ok_slE (o_var 2) o_none (o_some (o_var 3)))) ok_add))))))
      (ss_one (s_ret (e_callB (ok_min hr.hd (hu66 hr)) T.b_min boot_min (p_consO (o_var 1) p_nilO))))))
abbrev s_least_yard : Stmt := topS 17
theorem sc_least_yard : FnScope ["rows", "rings", "row", "ring"] ["rows", "rings"] (defScope s_least_yard) := ⟨rfl, rfl, rfl, by decide +kernel, rfl, by decide +kernel, by decide +kernel⟩
theorem ok_least_yard (T : Txt K mg ad fds) : FnG P w K mg base CX0 4 (ad 17) (fds 17) ["rows", "rings"] (spD ⟨K, P, w, mg⟩ d_least_yard) :=
  fnG_D T.f_least_yard.F sc_least_yard b_least_yard fun cdv A outer s H E m F0 gd hr =>
    (ss_one (s_ret (e_tup (p_cons (e_callTy ok_tuple T.b_tuple boot_tuple (p_consO (o_e (e_l (l_callB (ok_sorted (hu67 hr)) T.b_sorted boot_sorted (p_consO (o_l (l_lc rfl sc_least_yard.nd (own := [(("row" : Str), 2)]) (blkD (N := ["rows", "rings", "row", "ring"]) (sc := defScope s_least_yard) (by decide +kernel)) (by decide) (i_seq (e_var 0)) (fun _ _ _ _ _ => (g_name 2 sc_least_yard.nd)) (fun _ _ _ _ _ => ts_nil) (fun _ _ _ _ _ => (e_callG (ok__least_row T) gd (hr.mono (by decide)) T.f__least_row.g T.f__least_row.F.kp T.f__least_row.b (p_cons (e_var 2) p_nil))))) p_nilO)))) p_nilO)) (p_cons (e_callTy ok_tuple T.b_tuple boot_tuple (p_consO (o_e (e_l (l_callB (ok_sorted (hu67 hr)) T.b_sorted boot_sorted (p_consO (o_l (l_lc rfl sc_least_yard.nd (own := [(("ring" : Str), 3)]) (blkD (N := ["rows", "rings", "row", "ring"]) (sc := defScope s_least_yard) (by decide +kernel)) (by decide) (i_seq (e_var 1)) (fun _ _ _ _ _ => (g_name 3 sc_least_yard.nd)) (fun _ _ _ _ _ => ts_nil) (fun _ _ _ _ _ => (e_callG (ok__least_ring T) gd (hr.mono (by decide)) T.f__least_ring.g T.f__least_ring.F.kp T.f__least_ring.b (p_cons (e_var 3) p_nil))))) p_nilO)))) p_nilO)) p_nil)))))
abbrev s__is_list_of_lists : Stmt := topS 18
theorem sc__is_list_of_lists : FnScope ["thing", "line"] ["thing"] (defScope s__is_list_of_lists) := ⟨rfl, rfl, rfl, by decide +kernel, rfl, by decide +kernel, by decide +kernel⟩
theorem ok__is_list_of_lists (T : Txt K mg ad fds) : FnG P w K mg base CX0 1 (ad 18) (fds 18) ["thing"] (spD ⟨K, P, w, mg⟩ d__is_list_of_lists) :=
  fnG_D T.f__is_list_of_lists.F sc__is_list_of_lists b__is_list_of_lists fun cdv A outer s H E m F0 gd hr =>
    (ss_one (s_ret (v_and (e_tyEq (o_var 0) T.b_type T.b_list boot_list (by decide)) (v_one (e_callB (ok_all rfl) T.b_all boot_all (p_consO (o_l (l_lc rfl sc__is_list_of_lists.nd (own := [(("line" : Str), 1)]) (blkD (N := ["thing", "line"]) (sc := defScope s__is_list_of_lists) (by decide +kernel)) (by decide) (i_seq (e_var 0)) (fun _ _ _ _ _ => (g_name 1 sc__is_list_of_lists.nd)) (fun _ _ _ _ _ => ts_nil) (fun _ _ _ _ _ => (e_tyEq (o_var 1) T.b_type T.b_list boot_list (by decide))))) p_nilO))))))
abbrev s_yard_of : Stmt := topS 15
theorem sc_yard_of : FnScope ["rows", "rings"] ["rows", "rings"] (defScope s_yard_of) := ⟨rfl, rfl, rfl, by decide +kernel, rfl, by decide +kernel, by decide +kernel⟩
theorem ok_yard_of (T : Txt K mg ad fds) : FnG P w K mg base (L2.CX P w) 5 (ad 15) (fds 15) ["rows", "rings"] (spX ⟨K, P, w, mg⟩ x_yard_of) :=
  fnX_D T.f_yard_of.F sc_yard_of b_yard_of fun cdv A outer s H E m F0 W gd hr tk =>
    (ss_cons (s_if (t_w (w_or (t_not (t_val (e_callG (ok__is_list_of_lists T) gd (hr.mono (by decide)) T.f__is_list_of_lists.g T.f__is_list_of_lists.F.kp T.f__is_list_of_lists.b (p_cons (e_var 0) p_nil)))) (w_or1 (t_not (t_val (e_callG (ok__is_list_of_lists T) gd (hr.mono (by decide)) T.f__is_list_of_lists.g T.f__is_list_of_lists.F.kp T.f__is_list_of_lists.b (p_cons (e_var 1) p_nil))))))) (ss_one (s_raiseE tk rfl T.errs (by decide) (p_cons e_str p_nil))) ss_nil)
      (ss_cons (s_exprX (x_call tk (ok__need_pieces T) gd (hr.mono (by decide)) T.f__need_pieces.g T.f__need_pieces.F.kp T.f__need_pieces.b (p_cons (e_l (l_lst (p_star (e_var 0) (p_star (e_var 1) p_nil)))) p_nil)))
      (ss_one (s_ret (e_callG (ok_least_yard T) gd (hr.mono (by decide)) T.f_least_yard.g T.f_least_yard.F.kp T.f_least_yard.b (p_cons (e_var 0) (p_cons (e_var 1) p_nil)))))))
abbrev s__is_tuple_of_tuples : Stmt := topS 19
theorem sc__is_tuple_of_tuples : FnScope ["thing", "line"] ["thing"] (defScope s__is_tuple_of_tuples) := ⟨rfl, rfl, rfl, by decide +kernel, rfl, by decide +kernel, by decide +kernel⟩
theorem ok__is_tuple_of_tuples (T : Txt K mg ad fds) : FnG P w K mg base CX0 1 (ad 19) (fds 19) ["thing"] (spD ⟨K, P, w, mg⟩ d__is_tuple_of_tuples) :=
  fnG_D T.f__is_tuple_of_tuples.F sc__is_tuple_of_tuples b__is_tuple_of_tuples fun cdv A outer s H E m F0 gd hr =>
    (ss_one (s_ret (v_and (e_tyEq (o_var 0) T.b_type T.b_tuple boot_tuple (by decide)) (v_one (e_callB (ok_all rfl) T.b_all boot_all (p_consO (o_l (l_lc rfl sc__is_tuple_of_tuples.nd (own := [(("line" : Str), 1)]) (blkD (N := ["thing", "line"]) (sc := defScope s__is_tuple_of_tuples) (by decide +kernel)) (by decide) (i_seq (e_var 0)) (fun _ _ _ _ _ => (g_name 1 sc__is_tuple_of_tuples.nd)) (fun _ _ _ _ _ => ts_nil) (fun _ _ _ _ _ => (e_tyEq (o_var 1) T.b_type T.b_tuple boot_tuple (by decide))))) p_nilO))))))
abbrev s__is_pair_of_tuples : Stmt := topS 20
theorem sc__is_pair_of_tuples : FnScope ["thing", "lines"] ["thing"] (defScope s__is_pair_of_tuples) := ⟨rfl, rfl, rfl, by decide +kernel, rfl, by decide +kernel, by decide +kernel⟩
theorem ok__is_pair_of_tuples (T : Txt K mg ad fds) : FnG P w K mg base CX0 2 (ad 20) (fds 20) ["thing"] (spD ⟨K, P, w, mg⟩ d__is_pair_of_tuples) :=
  fnG_D T.f__is_pair_of_tuples.F sc__is_pair_of_tuples b__is_pair_of_tuples fun cdv A outer s H E m F0 gd hr =>
    (ss_cons (s_if (t_w (w_or (t_tyNe (o_var 0) T.b_type T.b_tuple boot_tuple (by decide)) (w_or1 (t_cmp (o_e (e_callB ok_len T.b_len boot_len (p_consO (o_var 0) p_nilO))) (o_e e_int) (ok_ne (hu64 hr)) (nomark _))))) (ss_one (s_ret e_bl)) ss_nil)
      (ss_one (s_ret (e_callB (ok_all rfl) T.b_all boot_all (p_consO (o_l (l_lc rfl sc__is_pair_of_tuples.nd (own := [(("lines" : Str), 1)]) (blkD (N := ["thing", "lines"]) (sc := defScope s__is_pair_of_tuples) (by decide +kernel)) (by decide) (i_seq (e_var 0)) (fun _ _ _ _ _ => (g_name 1 sc__is_pair_of_tuples.nd)) (fun _ _ _ _ _ => ts_nil) (fun _ _ _ _ _ => (e_callG (ok__is_tuple_of_tuples T) gd (hr.mono (by decide)) T.f__is_tuple_of_tuples.g T.f__is_tuple_of_tuples.F.kp T.f__is_tuple_of_tuples.b (p_cons (e_var 1) p_nil))))) p_nilO)))))
abbrev s_need_yard : Stmt := topS 16
theorem sc_need_yard : FnScope ["thing", "yard", "rows", "rings"] ["thing"] (defScope s_need_yard) := ⟨rfl, rfl, rfl, by decide +kernel, rfl, by decide +kernel, by decide +kernel⟩
theorem ok_need_yard (T : Txt K mg ad fds) : FnG P w K mg base (L2.CX P w) 5 (ad 16) (fds 16) ["thing"] (spX ⟨K, P, w, mg⟩ x_need_yard) :=
  fnX_D T.f_need_yard.F sc_need_yard b_need_yard fun cdv A outer s H E m F0 W gd hr tk =>
    (ss_cons (s_if (t_not (t_val (e_callG (ok__is_pair_of_tuples T) gd (hr.mono (by decide)) T.f__is_pair_of_tuples.g T.f__is_pair_of_tuples.F.kp T.f__is_pair_of_tuples.b (p_cons (e_var 0) p_nil)))) (ss_one (s_raiseE tk rfl T.errs (by decide) (p_cons e_str p_nil))) ss_nil)
      (ss_cons (s_asg (e_var 0) (g_tup rfl (gs_cons (g_name 2 sc_need_yard.nd) (gs_cons (g_name 3 sc_need_yard.nd) gs_nil))))
      (ss_cons (s_exprX (x_call tk (ok__need_pieces T) gd (hr.mono (by decide)) T.f__need_pieces.g T.f__need_pieces.F.kp T.f__need_pieces.b (p_cons (e_l (l_lst (p_star (e_var 2) (p_star (e_var 3) p_nil)))) p_nil)))
      (ss_cons (s_set 1 sc_need_yard.nd (e_callG (ok_least_yard T) gd (hr.mono (by decide)) T.f_least_yard.g T.f_least_yard.F.kp T.f_least_yard.b (p_cons (e_var 2) (p_cons (e_var 3) p_nil))))
      (ss_cons (s_if (t_cmp (o_var 1) (o_var 0) (ok_ne (hu64 hr)) (nomark _)) (ss_one (s_raiseE tk rfl T.errs (by decide) (p_cons e_str p_nil))) ss_nil)
      (ss_one (s_ret (e_var 1))))))))
abbrev s__law_draw : Stmt := topS 26
theorem sc__law_draw : FnScope ["_law_script", "_law_at", "_law_many_here", "_law_k", "_law_cells", "_law_number"] ["_law_script", "_law_at", "_law_many_here"] (defScope s__law_draw) := ⟨rfl, rfl, rfl, by decide +kernel, rfl, by decide +kernel, by decide +kernel⟩
theorem ok__law_draw (T : Txt K mg ad fds) : FnG P w K mg base CX0 1 (ad 26) (fds 26) ["_law_script", "_law_at", "_law_many_here"] (spD ⟨K, P, w, mg⟩ d__law_draw) :=
  fnG_D T.f__law_draw.F sc__law_draw b__law_draw fun cdv A outer s H E m F0 gd hr =>
    (ss_cons (s_set 3 sc__law_draw.nd (e_at 1))
      (ss_cons (s_at 1 (e_op (o_var 3) (o_e e_int) ok_add))
      (ss_cons (s_set 4 sc__law_draw.nd (e_op (o_var 0) (o_e (e_l (l_rep (l_lst (p_cons e_int p_nil)) (o_e (e_callTy ok_int T.b_int boot_int (p_consO (o_e (e_cmp (o_var 0) (o_l (l_lst p_nil)) (ok_eq (hu64 hr)) (nomark _))) p_nilO)))))) ok_add))
      (ss_cons (s_set 5 sc__law_draw.nd (e_op (o_e (e_op (o_e (e_op (o_e (e_op (o_e (e_op (o_e (e_ix (o_var 4) (o_e (e_op (o_var 3) (o_e (e_callB ok_len T.b_len boot_len (p_consO (o_var 4) p_nilO))) ok_mod)) (ok_ix (hu1 hr)))) (o_e e_int) ok_mod)) (o_e (e_op (o_e e_int) (o_var 3) ok_mul)) ok_add)) (o_e e_int) ok_add)) (o_e e_int) ok_mul)) (o_e e_int) ok_mod))
      (ss_one (s_ret (e_op (o_e (e_op (o_e (e_op (o_e (e_op (o_var 5) (o_e (e_op (o_e (e_op (o_var 3) (o_var 3) ok_mul)) (o_e e_int) ok_add)) ok_mul)) (o_e e_int) ok_mod)) (o_e e_int) ok_fdiv)) (o_var 2) ok_mod)))))))
abbrev s__law_names : Stmt := topS 27
theorem sc__law_names : FnScope ["_law_script", "_law_at", "_law_many_here", "_law_letters", "_law_tail", "_law_found", "_law_k", "_law_first", "_law_size", "_law_place", "_law_turn", "_law_mark", "_law_most", "_law_j"] ["_law_script", "_law_at", "_law_many_here"] (defScope s__law_names) := ⟨rfl, rfl, rfl, by decide +kernel, rfl, by decide +kernel, by decide +kernel⟩
theorem ok__law_names (T : Txt K mg ad fds) : FnG P w K mg base CX0 2 (ad 27) (fds 27) ["_law_script", "_law_at", "_law_many_here"] (spL ⟨K, P, w, mg⟩ d__law_names) :=
  fnG_L T.f__law_names.F sc__law_names b__law_names fun cdv A outer s H E m F0 gd hr =>
    (ss_cons (s_set 3 sc__law_names.nd e_str)
      (ss_cons (s_asg (e_l (l_lc rfl sc__law_names.nd (own := [(("_law_most" : Str), 12)]) (blkD (N := ["_law_script", "_law_at", "_law_many_here", "_law_letters", "_law_tail", "_law_found", "_law_k", "_law_first", "_law_size", "_law_place", "_law_turn", "_law_mark", "_law_most", "_law_j"]) (sc := defScope s__law_names) (by decide +kernel)) (by decide) (i_seq (e_tup (p_cons e_int (p_cons e_int (p_cons e_int (p_cons e_int p_nil)))))) (fun _ _ _ _ _ => (g_name 12 sc__law_names.nd)) (fun _ _ _ _ _ => ts_nil) (fun _ _ _ _ _ => (e_callG (ok__law_draw T) gd (hr.mono (by decide)) T.f__law_draw.g T.f__law_draw.F.kp T.f__law_draw.b (p_cons (e_var 0) (p_cons (e_var 1) (p_cons (e_var 12) p_nil))))))) (g_tup rfl (gs_cons (g_name 7 sc__law_names.nd) (gs_cons (g_name 8 sc__law_names.nd) (gs_cons (g_name 9 sc__law_names.nd) (gs_cons (g_name 10 sc__law_names.nd) gs_nil))))))
      (ss_cons (s_set 4 sc__law_names.nd (e_join (o_e e_str) (o_l (l_lc rfl sc__law_names.nd (own := [(("_law_j" : Str), 13)]) (blkD (N := ["_law_script", "_law_at", "_law_many_here", "_law_letters", "_law_tail", "_law_found", "_law_k", "_law_first", "_law_size", "_law_place", "_law_turn", "_law_mark", "_law_most", "_law_j"]) (sc := defScope s__law_names) (by decide +kernel)) (by decide) (i_range1 T.b_range (p_consO (o_var 8) p_nilO)) (fun _ _ _ _ _ => (g_name 13 sc__law_names.nd)) (fun _ _ _ _ _ => ts_nil) (fun _ _ _ _ _ => (e_ix (o_var 3) (o_e (e_op (o_e (e_op (o_var 7) (o_e (e_op (o_e e_int) (o_var 13) ok_mul)) ok_add)) (o_e e_int) ok_mod)) (ok_ix (hu1 hr))))))))
      (ss_cons (s_setL 5 sc__law_names.nd (l_lst p_nil))
      (ss_cons (s_for PassesOwn.never rfl (i_range1 T.b_range (p_consO (o_var 2) p_nilO)) (g_name 6 sc__law_names.nd) (ss_cons (s_set 11 sc__law_names.nd (e_ix (o_var 3) (o_e (e_op (o_e (e_op (o_var 6) (o_e (e_op (o_e e_int) (o_var 7) ok_mul)) ok_add)) (o_e e_int) ok_mod)) (ok_ix (hu1 hr))))
      (ss_cons (s_if (t_cmp (o_var 2) (o_e e_int) ok_gt (nomark _)) (ss_one (s_set 11 sc__law_names.nd (e_op (o_e (e_ix (o_var 3) (o_e (e_op (o_e (e_op (o_var 6) (o_e e_int) ok_fdiv)) (o_e (e_op (o_e e_int) (o_var 10) ok_mul)) ok_add)) (ok_ix (hu1 hr)))) (o_var 11) ok_add))) ss_nil)
      (ss_one (s_append 5 (e_op (o_e (e_op (o_e (e_slice ok_slE (o_var 4) o_none (o_some (o_var 9)))) (o_var 11) ok_add)) (o_e (e_slice ok_slE (o_var 4) (o_some (o_var 9)) o_none)) ok_add))))))
      (ss_one (s_retL (l_step (o_var 5) (o_e (e_op (o_e e_int) (o_e (e_op (o_e e_int) (o_var 10) ok_mul)) ok_sub))))))))))
abbrev s__law_rows : Stmt := topS 28
theorem sc__law_rows : FnScope ["_law_script", "_law_at", "_law_names_here", "_law_order", "_law_name", "_law_long", "_law_found", "_law_many_here"] ["_law_script", "_law_at", "_law_names_here"] (defScope s__law_rows) := ⟨rfl, rfl, rfl, by decide +kernel, rfl, by decide +kernel, by decide +kernel⟩
theorem ok__law_rows (T : Txt K mg ad fds) : FnG P w K mg base CX0 2 (ad 28) (fds 28) ["_law_script", "_law_at", "_law_names_here"] (spD ⟨K, P, w, mg⟩ d__law_rows) :=
  fnG_D T.f__law_rows.F sc__law_rows b__law_rows fun cdv A outer s H E m F0 gd hr =>
    (ss_cons (s_setL 3 sc__law_rows.nd (l_lst p_nil))
      (ss_cons (s_for PassesOwn.never rfl (i_seq (e_var 2)) (g_name 4 sc__law_rows.nd) (ss_one (s_insert 3 (e_callG (ok__law_draw T) gd (hr.mono (by decide)) T.f__law_draw.g T.f__law_draw.F.kp T.f__law_draw.b (p_cons (e_var 0) (p_cons (e_var 1) (p_cons (e_op (o_e (e_callB ok_len T.b_len boot_len (p_consO (o_var 3) p_nilO))) (o_e e_int) ok_add) p_nil)))) (e_tup (p_cons (e_var 4) (p_cons (e_op (o_e e_int) (o_e (e_op (o_e e_int) (o_e (e_callG (ok__law_draw T) gd (hr.mono (by decide)) T.f__law_draw.g T.f__law_draw.F.kp T.f__law_draw.b (p_cons (e_var 0) (p_cons (e_var 1) (p_cons e_int p_nil))))) ok_mul)) ok_sub) p_nil))))))
      (ss_cons (s_set 5 sc__law_rows.nd (e_ix (o_l (l_lst (p_cons e_int (p_cons e_int (p_cons e_int (p_cons e_int p_nil)))))) (o_e (e_callG (ok__law_draw T) gd (hr.mono (by decide)) T.f__law_draw.g T.f__law_draw.F.kp T.f__law_draw.b (p_cons (e_var 0) (p_cons (e_var 1) (p_cons e_int p_nil))))) (ok_ix (hu1 hr))))
      (ss_two 10000 6 7 3 sc__law_rows.nd PassesOwn.never (t_cmp (o_var 3) (o_l (l_lst p_nil)) (ok_ne (hu64 hr)) (nomark _)) (e_op (o_e e_int) (o_e (e_callG (ok__law_draw T) gd (hr.mono (by decide)) T.f__law_draw.g T.f__law_draw.F.kp T.f__law_draw.b (p_cons (e_var 0) (p_cons (e_var 1) (p_cons (e_var 5) p_nil))))) ok_add) (e_callTy ok_int T.b_int boot_int (p_consO (o_e (e_cmp (o_e (e_callG (ok__law_draw T) gd (hr.mono (by decide)) T.f__law_draw.g T.f__law_draw.F.kp T.f__law_draw.b (p_cons (e_var 0) (p_cons (e_var 1) (p_cons e_int p_nil))))) (o_e e_int) (ok_eq (hu64 hr)) (nomark _))) p_nilO)) (e_slice ok_slE (o_var 3) o_none (o_some (o_var 7))) (e_slice ok_slE (o_var 3) (o_some (o_var 7)) o_none)))))
abbrev s__law_turned_back : Stmt := topS 29
theorem sc__law_turned_back : FnScope ["_law_pieces", "_law_name", "_law_way"] ["_law_pieces"] (defScope s__law_turned_back) := ⟨rfl, rfl, rfl, by decide +kernel, rfl, by decide +kernel, by decide +kernel⟩
theorem ok__law_turned_back (T : Txt K mg ad fds) : FnG P w K mg base CX0 1 (ad 29) (fds 29) ["_law_pieces"] (spL ⟨K, P, w, mg⟩ d__law_turned_back) :=
  fnG_L T.f__law_turned_back.F sc__law_turned_back b__law_turned_back fun cdv A outer s H E m F0 gd hr =>
    (ss_one (s_retL (l_lc rfl sc__law_turned_back.nd (own := [(("_law_name" : Str), 1), (("_law_way" : Str), 2)]) (blkD (N := ["_law_pieces", "_law_name", "_law_way"]) (sc := defScope s__law_turned_back) (by decide +kernel)) (by decide) (i_seq (e_step (o_var 0) (o_e (e_un (o_e e_int) ok_neg)))) (fun _ _ _ _ _ => (g_tup rfl (gs_cons (g_name 1 sc__law_turned_back.nd) (gs_cons (g_name 2 sc__law_turned_back.nd) gs_nil)))) (fun _ _ _ _ _ => ts_nil) (fun _ _ _ _ _ => (e_tup (p_cons (e_var 1) (p_cons (e_op (o_e e_int) (o_var 2) ok_sub) p_nil)))))))
abbrev s__law_ring : Stmt := topS 30
theorem sc__law_ring : FnScope ["_law_ring_here", "_law_found", "_law_one", "_law_k"] ["_law_ring_here"] (defScope s__law_ring) := ⟨rfl, rfl, rfl, by decide +kernel, rfl, by decide +kernel, by decide +kernel⟩
theorem ok__law_ring (T : Txt K mg ad fds) : FnG P w K mg base CX0 2 (ad 30) (fds 30) ["_law_ring_here"] (spD ⟨K, P, w, mg⟩ d__law_ring) :=
  fnG_D T.f__law_ring.F sc__law_ring b__law_ring fun cdv A outer s H E m F0 gd hr =>
    (ss_cons (s_set 1 sc__law_ring.nd (e_l (l_lst p_nil)))
      (ss_cons (s_for PassesOwn.never rfl (i_seq (e_tup (p_cons (e_l (l_callTy ok_list T.b_list boot_list (p_consO (o_var 0) p_nilO))) (p_cons (e_l (l_callG (ok__law_turned_back T) gd (hr.mono (by decide)) T.f__law_turned_back.g T.f__law_turned_back.F.kp T.f__law_turned_back.b (p_cons (e_var 0) p_nil))) p_nil)))) (g_name 2 sc__law_ring.nd) (ss_one (s_set 1 sc__law_ring.nd (e_op (o_var 1) (o_l (l_lc rfl sc__law_ring.nd (own := [(("_law_k" : Str), 3)]) (blkD (N := ["_law_ring_here", "_law_found", "_law_one", "_law_k"]) (sc := defScope s__law_ring) (by decide +kernel)) (by decide) (i_range1 T.b_range (p_consO (o_e (e_callB ok_len T.b_len boot_len (p_consO (o_var 2) p_nilO))) p_nilO)) (fun _ _ _ _ _ => (g_name 3 sc__law_ring.nd)) (fun _ _ _ _ _ => ts_nil) (fun _ _ _ _ _ => (e_callTy ok_tuple T.b_tuple boot_tuple (p_consO (o_e (e_op (o_e (e_slice ok_slE (o_var 2) (o_some (o_var 3)) o_none)) (o_e (e_slice ok_slE (o_var 2) o_none (o_some (o_var 3)))) ok_add)) p_nilO))))) ok_add))))
      (ss_one (s_ret (e_callB (ok_min hr.hd (hu66 hr)) T.b_min boot_min (p_consO (o_var 1) p_nilO))))))
abbrev s__law_yard : Stmt := topS 31
theorem sc__law_yard : FnScope ["_law_rows_here", "_law_rings", "_law_least", "_law_row", "_law_ring_here"] ["_law_rows_here", "_law_rings"] (defScope s__law_yard) := ⟨rfl, rfl, rfl, by decide +kernel, rfl, by decide +kernel, by decide +kernel⟩
theorem ok__law_yard (T : Txt K mg ad fds) : FnG P w K mg base CX0 3 (ad 31) (fds 31) ["_law_rows_here", "_law_rings"] (spD ⟨K, P, w, mg⟩ d__law_yard) :=
  fnG_D T.f__law_yard.F sc__law_yard b__law_yard fun cdv A outer s H E m F0 gd hr =>
    (ss_cons (s_setLc 2 rfl sc__law_yard.nd rfl (sw_true rfl rfl rfl (by decide +kernel)) (own := [(("_law_row" : Str), 3)]) (blkD (N := ["_law_rows_here", "_law_rings", "_law_least", "_law_row", "_law_ring_here"]) (sc := defScope s__law_yard) (by decide +kernel)) (by decide) (i_seq (e_var 0)) (fun _ _ _ _ _ => (g_name 3 sc__law_yard.nd)) (fun _ _ _ _ _ => ts_nil) (fun _ _ _ _ _ => (e_callB (ok_min hr.hd (hu66 hr)) T.b_min boot_min (p_consO (o_e (e_callTy ok_tuple T.b_tuple boot_tuple (p_consO (o_var 3) p_nilO))) (p_consO (o_e (e_callTy ok_tuple T.b_tuple boot_tuple (p_consO (o_e (e_l (l_callG (ok__law_turned_back T) gd (hr.mono (by decide)) T.f__law_turned_back.g T.f__law_turned_back.F.kp T.f__law_turned_back.b (p_cons (e_var 3) p_nil)))) p_nilO))) p_nilO)))))
      (ss_one (s_ret (e_tup (p_cons (e_callTy ok_tuple T.b_tuple boot_tuple (p_consO (o_e (e_l (l_callB (ok_sorted (hu67 hr)) T.b_sorted boot_sorted (p_consO (o_var 2) p_nilO)))) p_nilO)) (p_cons (e_callTy ok_tuple T.b_tuple boot_tuple (p_consO (o_e (e_l (l_callB (ok_sorted (hu67 hr)) T.b_sorted boot_sorted (p_consO (o_l (l_lc rfl sc__law_yard.nd (own := [(("_law_ring_here" : Str), 4)]) (blkD (N := ["_law_rows_here", "_law_rings", "_law_least", "_law_row", "_law_ring_here"]) (sc := defScope s__law_yard) (by decide +kernel)) (by decide) (i_seq (e_var 1)) (fun _ _ _ _ _ => (g_name 4 sc__law_yard.nd)) (fun _ _ _ _ _ => ts_nil) (fun _ _ _ _ _ => (e_callG (ok__law_ring T) gd (hr.mono (by decide)) T.f__law_ring.g T.f__law_ring.F.kp T.f__law_ring.b (p_cons (e_var 4) p_nil))))) p_nilO)))) p_nilO)) p_nil))))))
abbrev s__law_word : Stmt := topS 32
theorem sc__law_word : FnScope ["_law_error", "_law_kinds"] ["_law_error"] (defScope s__law_word) := ⟨rfl, rfl, rfl, by decide +kernel, rfl, by decide +kernel, by decide +kernel⟩
theorem ok__law_word (T : Txt K mg ad fds) : FnG P w K mg base CX0 1 (ad 32) (fds 32) ["_law_error"] (spD ⟨K, P, w, mg⟩ d__law_word) :=
  fnG_D T.f__law_word.F sc__law_word b__law_word fun cdv A outer s H E m F0 gd hr =>
    (ss_cons (s_set 1 sc__law_word.nd (e_l (l_lst (p_cons (e_isErr T.errs (by decide) (e_var 0) T.b_isinstance) (p_cons (e_isErr T.errs (by decide) (e_var 0) T.b_isinstance) (p_cons (e_isErr T.errs (by decide) (e_var 0) T.b_isinstance) p_nil))))))
      (ss_cons (s_set 1 sc__law_word.nd (e_op (o_var 1) (o_l (l_lst (p_cons (e_isErr T.errs (by decide) (e_var 0) T.b_isinstance) (p_cons (e_isErr T.errs (by decide) (e_var 0) T.b_isinstance) p_nil)))) ok_add))
      (ss_cons (s_if (t_w (w_or (t_cmp (o_e (e_count (hu64 hr) (o_var 1) (p_cons e_bl p_nil))) (o_e e_int) (ok_ne (hu64 hr)) (nomark _)) (w_or1 (t_not (t_val (e_isVE T.errs (e_var 0) T.b_isinstance T.b_ValueError)))))) (ss_one (s_ret e_str)) ss_nil)
      (ss_one (s_ret (e_ix (o_l (l_lst (p_cons e_str (p_cons e_str (p_cons e_str (p_cons e_str (p_cons e_str p_nil))))))) (o_e (e_index (hu65 hr) (o_var 1) (p_cons e_bl p_nil))) (ok_ix (hu1 hr))))))))
abbrev s__law_asked : Stmt := topS 33
theorem sc__law_asked : FnScope ["_law_one", "_law_two", "_law_is_whole", "_law_found", "_law_error", "refusal"] ["_law_one", "_law_two", "_law_is_whole"] (defScope s__law_asked) := ⟨rfl, rfl, rfl, by decide +kernel, rfl, by decide +kernel, by decide +kernel⟩
theorem ok__law_asked (T : Txt K mg ad fds) : FnG P w K mg base CX0 6 (ad 33) (fds 33) ["_law_one", "_law_two", "_law_is_whole"] (spD ⟨K, P, w, mg⟩ d__law_asked) :=
  fnG_D T.f__law_asked.F sc__law_asked b__law_asked fun cdv A outer s H E m F0 gd hr =>
    (ss_cons (s_set 3 sc__law_asked.nd e_non)
      (ss_cons (s_set 4 sc__law_asked.nd e_non)
      (ss_cons (s_tryKeep [("BadYard" : Str), ("BadPlaces" : Str), ("BadDeed" : Str), ("BadText" : Str), ("Unlike" : Str)] 5 4 rfl rfl rfl sc__law_asked.nd (by decide) T.errs (fun pn xe W' tk => (ss_one (s_setX 3 sc__law_asked.nd (x_if (t_val (e_var 2)) (x_call tk (ok_need_yard T) gd (hr.mono (by decide)) T.f_need_yard.g T.f_need_yard.F.kp T.f_need_yard.b (p_cons (e_var 0) p_nil)) (x_call tk (ok_yard_of T) gd (hr.mono (by decide)) T.f_yard_of.g T.f_yard_of.F.kp T.f_yard_of.b (p_cons (e_var 0) (p_cons (e_var 1) p_nil))))))))
      (ss_one (s_ret (e_if (t_isN (o_var 4)) (e_callB (ok_repr gd (hu65 hr)) T.b_repr boot_repr (p_consO (o_var 3) p_nilO)) (e_callG (ok__law_word T) gd (hr.mono (by decide)) T.f__law_word.g T.f__law_word.F.kp T.f__law_word.b (p_cons (e_var 4) p_nil))))))))
abbrev s__law_odd : Stmt := topS 34
theorem sc__law_odd : FnScope ["_law_script", "_law_at", "_law_some"] ["_law_script", "_law_at"] (defScope s__law_odd) := ⟨rfl, rfl, rfl, by decide +kernel, rfl, by decide +kernel, by decide +kernel⟩
theorem ok__law_odd (T : Txt K mg ad fds) : FnG P w K mg base CX0 2 (ad 34) (fds 34) ["_law_script", "_law_at"] (spD ⟨K, P, w, mg⟩ d__law_odd) :=
  fnG_D T.f__law_odd.F sc__law_odd b__law_odd fun cdv A outer s H E m F0 gd hr =>
    (ss_cons (s_setL 2 sc__law_odd.nd (l_lst (p_cons e_non (p_cons e_int (p_cons e_str (p_cons e_dnew (p_cons e_bl (p_cons (e_tup (p_cons e_str (p_cons e_int p_nil))) (p_cons (e_l (l_lst (p_cons (e_tup (p_cons e_str (p_cons e_int p_nil))) p_nil))) (p_cons (e_l (l_lst (p_cons (e_l (l_lst p_nil)) p_nil))) (p_cons (e_tup (p_cons (e_tup p_nil) p_nil)) (p_cons (e_l (l_lst (p_cons (e_tup (p_cons e_str (p_cons e_int p_nil))) (p_cons (e_tup (p_cons e_str (p_cons e_int p_nil))) p_nil)))) (p_cons (e_l (l_lst (p_cons (e_l (l_lst (p_cons (e_tup (p_cons e_str (p_cons e_int p_nil))) (p_cons e_int p_nil)))) p_nil))) p_nil)))))))))))))
      (ss_cons (s_append 2 (e_tup (p_cons (e_tup (p_cons e_str (p_cons e_int p_nil))) p_nil)))
      (ss_cons (s_setL 2 sc__law_odd.nd (l_op (o_var 2) (o_l (l_lst (p_cons (e_l (l_lst (p_cons (e_l (l_lst (p_cons (e_tup (p_cons e_str (p_cons e_bl p_nil))) p_nil))) p_nil))) (p_cons (e_l (l_lst (p_cons (e_l (l_lst (p_cons (e_tup (p_cons e_str (p_cons e_int p_nil))) p_nil))) p_nil))) (p_cons (e_l (l_lst (p_cons (e_l (l_lst (p_cons (e_tup (p_cons e_str (p_cons e_int p_nil))) p_nil))) p_nil))) (p_cons (e_l (l_lst (p_cons (e_tup (p_cons (e_tup (p_cons e_str (p_cons e_int p_nil))) p_nil)) p_nil))) (p_cons (e_l (l_lst (p_cons (e_l (l_lst (p_cons (e_l (l_lst (p_cons e_str (p_cons e_int p_nil)))) p_nil))) p_nil))) (p_cons (e_l (l_lst (p_cons (e_l (l_lst (p_cons e_str p_nil))) p_nil))) (p_cons (e_l (l_lst (p_cons e_non p_nil))) (p_cons (e_l (l_lst (p_cons e_str p_nil))) p_nil)))))))))) ok_cat))
      (ss_cons (s_setL 2 sc__law_odd.nd (l_op (o_var 2) (o_l (l_lst (p_cons (e_l (l_lst (p_cons (e_l (l_lst (p_cons (e_tup (p_cons e_str (p_cons e_int p_nil))) (p_cons (e_tup (p_cons e_str (p_cons (e_un (o_e e_int) ok_neg) p_nil))) p_nil)))) p_nil))) (p_cons (e_l (l_lst (p_cons (e_l (l_lst (p_cons (e_tup (p_cons e_str (p_cons e_int p_nil))) p_nil))) (p_cons (e_l (l_lst (p_cons (e_tup (p_cons e_str (p_cons e_int p_nil))) p_nil))) p_nil)))) (p_cons (e_l (l_lst (p_cons (e_l (l_lst (p_cons (e_tup (p_cons e_str (p_cons e_int p_nil))) p_nil))) p_nil))) (p_cons (e_l (l_lst (p_cons (e_l (l_lst (p_cons (e_tup (p_cons e_str (p_cons e_int (p_cons e_int p_nil)))) p_nil))) p_nil))) p_nil)))))) ok_cat))
      (ss_one (s_ret (e_ix (o_var 2) (o_e (e_callG (ok__law_draw T) gd (hr.mono (by decide)) T.f__law_draw.g T.f__law_draw.F.kp T.f__law_draw.b (p_cons (e_var 0) (p_cons (e_var 1) (p_cons (e_callB ok_len T.b_len boot_len (p_consO (o_var 2) p_nilO)) p_nil))))) (ok_ix (hu1 hr)))))))))
abbrev s__law_many : Stmt := topS 35
theorem sc__law_many : FnScope ["_law_script", "_law_at", "_law_many_here"] ["_law_script", "_law_at", "_law_many_here"] (defScope s__law_many) := ⟨rfl, rfl, rfl, by decide +kernel, rfl, by decide +kernel, by decide +kernel⟩
theorem ok__law_many (T : Txt K mg ad fds) : FnG P w K mg base CX0 3 (ad 35) (fds 35) ["_law_script", "_law_at", "_law_many_here"] (spD ⟨K, P, w, mg⟩ d__law_many) :=
  fnG_D T.f__law_many.F sc__law_many b__law_many fun cdv A outer s H E m F0 gd hr =>
    (ss_one (s_ret (e_callG (ok__law_rows T) gd (hr.mono (by decide)) T.f__law_rows.g T.f__law_rows.F.kp T.f__law_rows.b (p_cons (e_var 0) (p_cons (e_var 1) (p_cons (e_l (l_callG (ok__law_names T) gd (hr.mono (by decide)) T.f__law_names.g T.f__law_names.F.kp T.f__law_names.b (p_cons (e_var 0) (p_cons (e_var 1) (p_cons (e_var 2) p_nil))))) p_nil))))))
abbrev s__law_changed : Stmt := topS 36
theorem sc__law_changed : FnScope ["_law_script", "_law_at", "_law_due", "_law_side", "_law_found", "_law_place", "_law_some", "_law_other", "_law_rows_here"] ["_law_script", "_law_at", "_law_due"] (defScope s__law_changed) := ⟨rfl, rfl, rfl, by decide +kernel, rfl, by decide +kernel, by decide +kernel⟩
theorem ok__law_changed (T : Txt K mg ad fds) : FnG P w K mg base CX0 2 (ad 36) (fds 36) ["_law_script", "_law_at", "_law_due"] (spD ⟨K, P, w, mg⟩ d__law_changed) :=
  fnG_D T.f__law_changed.F sc__law_changed b__law_changed fun cdv A outer s H E m F0 gd hr =>
    (ss_cons (s_set 3 sc__law_changed.nd (e_callG (ok__law_draw T) gd (hr.mono (by decide)) T.f__law_draw.g T.f__law_draw.F.kp T.f__law_draw.b (p_cons (e_var 0) (p_cons (e_var 1) (p_cons e_int p_nil)))))
      (ss_cons (s_setL 4 sc__law_changed.nd (l_lst (p_cons (e_tup (p_cons (e_step (o_e (e_ix (o_var 2) (o_e e_int) (ok_ix (hu1 hr)))) (o_e (e_un (o_e e_int) ok_neg))) (p_cons (e_ix (o_var 2) (o_e e_int) (ok_ix (hu1 hr))) p_nil))) (p_cons (e_tup (p_cons (e_ix (o_var 2) (o_e e_int) (ok_ix (hu1 hr))) (p_cons (e_step (o_e (e_ix (o_var 2) (o_e e_int) (ok_ix (hu1 hr)))) (o_e (e_un (o_e e_int) ok_neg))) p_nil))) (p_cons (e_var 2) p_nil)))))
      (ss_cons (s_if (t_cmp (o_e (e_ix (o_var 2) (o_var 3) (ok_ix (hu1 hr)))) (o_e (e_tup p_nil)) (ok_ne (hu64 hr)) (nomark _)) (ss_cons (s_set 5 sc__law_changed.nd (e_callG (ok__law_draw T) gd (hr.mono (by decide)) T.f__law_draw.g T.f__law_draw.F.kp T.f__law_draw.b (p_cons (e_var 0) (p_cons (e_var 1) (p_cons (e_callB ok_len T.b_len boot_len (p_consO (o_e (e_ix (o_var 2) (o_var 3) (ok_ix (hu1 hr)))) p_nilO)) p_nil)))))
      (ss_cons (s_set 6 sc__law_changed.nd (e_ix (o_e (e_ix (o_var 2) (o_var 3) (ok_ix (hu1 hr)))) (o_var 5) (ok_ix (hu1 hr))))
      (ss_one (s_for PassesOwn.never rfl (i_seq (e_tup (p_cons (e_callTy ok_tuple T.b_tuple boot_tuple (p_consO (o_e (e_l (l_callG (ok__law_turned_back T) gd (hr.mono (by decide)) T.f__law_turned_back.g T.f__law_turned_back.F.kp T.f__law_turned_back.b (p_cons (e_var 6) p_nil)))) p_nilO)) (p_cons (e_op (o_e (e_slice ok_slE (o_var 6) (o_some (o_e e_int)) o_none)) (o_e (e_slice ok_slE (o_var 6) o_none (o_some (o_e e_int)))) ok_add) p_nil)))) (g_name 7 sc__law_changed.nd) (ss_cons (s_set 8 sc__law_changed.nd (e_op (o_e (e_op (o_e (e_slice ok_slE (o_e (e_ix (o_var 2) (o_var 3) (ok_ix (hu1 hr)))) o_none (o_some (o_var 5)))) (o_e (e_tup (p_cons (e_var 7) p_nil))) ok_add)) (o_e (e_slice ok_slE (o_e (e_ix (o_var 2) (o_var 3) (ok_ix (hu1 hr)))) (o_some (o_e (e_op (o_var 5) (o_e e_int) ok_add))) o_none)) ok_add))
      (ss_one (s_append 4 (e_ix (o_l (l_lst (p_cons (e_tup (p_cons (e_var 8) (p_cons (e_ix (o_var 2) (o_e e_int) (ok_ix (hu1 hr))) p_nil))) (p_cons (e_tup (p_cons (e_ix (o_var 2) (o_e e_int) (ok_ix (hu1 hr))) (p_cons (e_var 8) p_nil))) p_nil)))) (o_var 3) (ok_ix (hu1 hr)))))))))) ss_nil)
      (ss_one (s_retO 4)))))
abbrev s_law : Stmt := topS 37
theorem sc_law : FnScope ["_law_script", "_law_at", "_law_due", "_law_odd_here", "_law_more", "_law_again", "_law_wrong", "_law_thing", "_law_yards", "_law_rows_here", "_law_rings", "_law_one", "_law_two", "_law_least", "_law_row", "_law_ring_here"] ["_law_script"] (defScope s_law) := ⟨rfl, rfl, rfl, by decide +kernel, rfl, by decide +kernel, by decide +kernel⟩
theorem ok_law (T : Txt K mg ad fds) (hl : ∀ ns : List Int, ns.length ≤ 63 → lawRun 16 1 b_law03 ns = some (.bool true)) : FnG P w K mg base CX0 7 (ad 37) (fds 37) ["_law_script"] (spLaw K) :=
  fnG_law (i := 1) T.f_law.F sc_law b_law03 rfl (by decide) (fun cdv A outer s H E => ps_set (i := 1) sc_law.nd rfl (.inl rfl) (pe_lst (pa_cons pe_int pa_nil))) (fun cdv A outer s H E m F0 H0 gd hr =>
    (ss_cons (s_asg (e_callG (ok__law_many T) gd (hr.mono (by decide)) T.f__law_many.g T.f__law_many.F.kp T.f__law_many.b (p_cons (e_var 0) (p_cons (e_var 1) (p_cons (e_ix (o_l (l_lst (p_cons e_int (p_cons e_int (p_cons e_int (p_cons e_int p_nil)))))) (o_e (e_callG (ok__law_draw T) gd (hr.mono (by decide)) T.f__law_draw.g T.f__law_draw.F.kp T.f__law_draw.b (p_cons (e_var 0) (p_cons (e_var 1) (p_cons e_int p_nil))))) (ok_ix (hu1 hr))) p_nil)))) (g_tup rfl (gs_cons (g_name 9 sc_law.nd) (gs_cons (g_name 10 sc_law.nd) gs_nil))))
      (ss_cons (s_set 2 sc_law.nd (e_callG (ok__law_yard T) gd (hr.mono (by decide)) T.f__law_yard.g T.f__law_yard.F.kp T.f__law_yard.b (p_cons (e_var 9) (p_cons (e_var 10) p_nil))))
      (ss_cons (s_if (t_w (w_or (t_cmp (o_e (e_callG (ok__law_asked T) gd (hr.mono (by decide)) T.f__law_asked.g T.f__law_asked.F.kp T.f__law_asked.b (p_cons (e_var 9) (p_cons (e_var 10) (p_cons e_bl p_nil))))) (o_e (e_callB (ok_repr gd (hu65 hr)) T.b_repr boot_repr (p_consO (o_var 2) p_nilO))) (ok_ne (hu64 hr)) (nomark _)) (w_or1 (t_cmp (o_e (e_callG (ok__law_asked T) gd (hr.mono (by decide)) T.f__law_asked.g T.f__law_asked.F.kp T.f__law_asked.b (p_cons (e_var 2) (p_cons e_non (p_cons e_bl p_nil))))) (o_e (e_callB (ok_repr gd (hu65 hr)) T.b_repr boot_repr (p_consO (o_var 2) p_nilO))) (ok_ne (hu64 hr)) (nomark _))))) (ss_one (s_ret e_bl)) ss_nil)
      (ss_cons (s_set 3 sc_law.nd (e_callG (ok__law_odd T) gd (hr.mono (by decide)) T.f__law_odd.g T.f__law_odd.F.kp T.f__law_odd.b (p_cons (e_var 0) (p_cons (e_var 1) p_nil))))
      (ss_cons (s_set 4 sc_law.nd (e_callG (ok__law_many T) gd (hr.mono (by decide)) T.f__law_many.g T.f__law_many.F.kp T.f__law_many.b (p_cons (e_var 0) (p_cons (e_var 1) (p_cons (e_op (o_e e_int) (o_e (e_callG (ok__law_draw T) gd (hr.mono (by decide)) T.f__law_draw.g T.f__law_draw.F.kp T.f__law_draw.b (p_cons (e_var 0) (p_cons (e_var 1) (p_cons e_int p_nil))))) ok_add) p_nil)))))
      (ss_cons (s_set 5 sc_law.nd (e_op (o_var 9) (o_var 10) ok_add))
      (ss_cons (s_setL 6 sc_law.nd (l_lst (p_cons (e_tup (p_cons (e_var 3) (p_cons (e_var 10) p_nil))) (p_cons (e_tup (p_cons (e_var 9) (p_cons (e_var 3) p_nil))) (p_cons (e_tup (p_cons (e_var 9) (p_cons (e_op (o_var 10) (o_l (l_lst (p_cons (e_l (l_lst p_nil)) p_nil))) ok_add) p_nil))) (p_cons (e_tup (p_cons (e_op (o_var 9) (o_l (l_lst (p_cons (e_ix (o_var 5) (o_e e_int) (ok_ix (hu1 hr))) p_nil))) ok_add) (p_cons (e_var 10) p_nil))) (p_cons (e_var 4) p_nil)))))))
      (ss_cons (s_append 6 (e_tup (p_cons (e_var 9) (p_cons (e_op (o_var 10) (o_l (l_lst (p_cons (e_ix (o_var 5) (o_e (e_un (o_e e_int) ok_neg)) (ok_ix (hu1 hr))) p_nil))) ok_add) p_nil))))
      (ss_cons (s_setL 6 sc_law.nd (l_op (o_var 6) (o_l (l_lst (p_cons (e_tup (p_cons (e_callTy ok_tuple T.b_tuple boot_tuple (p_consO (o_var 9) p_nilO)) (p_cons (e_var 10) p_nil))) (p_cons (e_tup (p_cons (e_var 9) (p_cons (e_callTy ok_tuple T.b_tuple boot_tuple (p_consO (o_var 10) p_nilO)) p_nil))) (p_cons (e_tup (p_cons e_non (p_cons e_non p_nil))) (p_cons (e_tup (p_cons (e_op (o_var 9) (o_l (l_lst (p_cons (e_callTy ok_tuple T.b_tuple boot_tuple (p_consO (o_e (e_ix (o_var 5) (o_e e_int) (ok_ix (hu1 hr)))) p_nilO)) p_nil))) ok_add) (p_cons (e_var 10) p_nil))) p_nil)))))) ok_cat))
      (ss_freeze 6 (ss_cons (s_for PassesOwn.never rfl (i_seq (e_var 6)) (g_tup rfl (gs_cons (g_name 11 sc_law.nd) (gs_cons (g_name 12 sc_law.nd) gs_nil))) (ss_one (s_if (t_w (w_or (t_cmp (o_e (e_callG (ok__law_asked T) gd (hr.mono (by decide)) T.f__law_asked.g T.f__law_asked.F.kp T.f__law_asked.b (p_cons (e_var 11) (p_cons (e_var 12) (p_cons e_bl p_nil))))) (o_e e_str) (ok_ne (hu64 hr)) (nomark _)) (w_or1 (t_cmp (o_e (e_callG (ok__law_asked T) gd (hr.mono (by decide)) T.f__law_asked.g T.f__law_asked.F.kp T.f__law_asked.b (p_cons (e_var 11) (p_cons (e_var 12) (p_cons e_bl p_nil))))) (o_e e_str) (ok_ne (hu64 hr)) (nomark _))))) (ss_one (s_ret e_bl)) ss_nil)))
      (ss_cons (s_for PassesOwn.never rfl (i_seq (e_callG (ok__law_changed T) gd (hr.mono (by decide)) T.f__law_changed.g T.f__law_changed.F.kp T.f__law_changed.b (p_cons (e_var 0) (p_cons (e_var 1) (p_cons (e_var 2) p_nil))))) (g_name 7 sc_law.nd) (ss_cons (s_set 13 sc_law.nd (e_callG (ok__law_yard T) gd (hr.mono (by decide)) T.f__law_yard.g T.f__law_yard.F.kp T.f__law_yard.b (p_cons (e_l (l_lc rfl sc_law.nd (own := [(("_law_row" : Str), 14)]) (blkD (N := ["_law_script", "_law_at", "_law_due", "_law_odd_here", "_law_more", "_law_again", "_law_wrong", "_law_thing", "_law_yards", "_law_rows_here", "_law_rings", "_law_one", "_law_two", "_law_least", "_law_row", "_law_ring_here"]) (sc := defScope s_law) (by decide +kernel)) (by decide) (i_seq (e_ix (o_var 7) (o_e e_int) (ok_ix (hu1 hr)))) (fun _ _ _ _ _ => (g_name 14 sc_law.nd)) (fun _ _ _ _ _ => ts_nil) (fun _ _ _ _ _ => (e_l (l_callTy ok_list T.b_list boot_list (p_consO (o_var 14) p_nilO)))))) (p_cons (e_l (l_lc rfl sc_law.nd (own := [(("_law_ring_here" : Str), 15)]) (blkD (N := ["_law_script", "_law_at", "_law_due", "_law_odd_here", "_law_more", "_law_again", "_law_wrong", "_law_thing", "_law_yards", "_law_rows_here", "_law_rings", "_law_one", "_law_two", "_law_least", "_law_row", "_law_ring_here"]) (sc := defScope s_law) (by decide +kernel)) (by decide) (i_seq (e_ix (o_var 7) (o_e e_int) (ok_ix (hu1 hr)))) (fun _ _ _ _ _ => (g_name 15 sc_law.nd)) (fun _ _ _ _ _ => ts_nil) (fun _ _ _ _ _ => (e_l (l_callTy ok_list T.b_list boot_list (p_consO (o_var 15) p_nilO)))))) p_nil))))
      (ss_one (s_if (t_cmp (o_e (e_callG (ok__law_asked T) gd (hr.mono (by decide)) T.f__law_asked.g T.f__law_asked.F.kp T.f__law_asked.b (p_cons (e_var 7) (p_cons e_non (p_cons e_bl p_nil))))) (o_e (e_ix (o_l (l_lst (p_cons (e_callB (ok_repr gd (hu65 hr)) T.b_repr boot_repr (p_consO (o_var 7) p_nilO)) (p_cons e_str p_nil)))) (o_e (e_callTy ok_int T.b_int boot_int (p_consO (o_e (e_cmp (o_e (e_callB (ok_repr gd (hu65 hr)) T.b_repr boot_repr (p_consO (o_var 13) p_nilO))) (o_e (e_callB (ok_repr gd (hu65 hr)) T.b_repr boot_repr (p_consO (o_var 7) p_nilO))) (ok_ne (hu64 hr)) (nomark _))) p_nilO))) (ok_ix (hu1 hr)))) (ok_ne (hu64 hr)) (nomark _)) (ss_one (s_ret e_bl)) ss_nil))))
      (ss_cons (s_set 8 sc_law.nd (e_l (l_lst (p_cons e_non (p_cons e_int (p_cons (e_tup p_nil) (p_cons (e_slice ok_slE (o_var 2) o_none (o_some (o_e e_int))) (p_cons (e_op (o_var 2) (o_e (e_tup (p_cons (e_tup p_nil) p_nil))) ok_add) (p_cons (e_l (l_callTy ok_list T.b_list boot_list (p_consO (o_var 2) p_nilO))) (p_cons (e_tup (p_cons (e_ix (o_var 2) (o_e e_int) (ok_ix (hu1 hr))) (p_cons (e_l (l_callTy ok_list T.b_list boot_list (p_consO (o_e (e_ix (o_var 2) (o_e e_int) (ok_ix (hu1 hr)))) p_nilO))) p_nil))) (p_cons (e_tup (p_cons (e_l (l_callTy ok_list T.b_list boot_list (p_consO (o_e (e_ix (o_var 2) (o_e e_int) (ok_ix (hu1 hr)))) p_nilO))) (p_cons (e_ix (o_var 2) (o_e e_int) (ok_ix (hu1 hr))) p_nil))) p_nil)))))))))))
      (ss_cons (s_for PassesOwn.never rfl (i_seq (e_op (o_var 8) (o_l (l_lst (p_cons (e_callG (ok__law_yard T) gd (hr.mono (by decide)) T.f__law_yard.g T.f__law_yard.F.kp T.f__law_yard.b (p_cons (e_ix (o_var 4) (o_e e_int) (ok_ix (hu1 hr))) (p_cons (e_ix (o_var 4) (o_e e_int) (ok_ix (hu1 hr))) p_nil))) (p_cons (e_tup (p_cons (e_tup p_nil) (p_cons (e_var 3) p_nil))) (p_cons (e_tup (p_cons (e_var 3) (p_cons (e_tup p_nil) p_nil))) (p_cons (e_tup (p_cons (e_var 9) (p_cons (e_var 10) p_nil))) p_nil)))))) ok_add)) (g_name 7 sc_law.nd) (ss_one (s_if (t_cmp (o_e (e_callG (ok__law_asked T) gd (hr.mono (by decide)) T.f__law_asked.g T.f__law_asked.F.kp T.f__law_asked.b (p_cons (e_var 7) (p_cons e_non (p_cons e_bl p_nil))))) (o_e e_str) (ok_ne (hu64 hr)) (nomark _)) (ss_one (s_ret e_bl)) ss_nil)))
      (ss_one (s_ret e_bl))))))))))))))))) hl
end
end K03

set_option Elab.async false
set_option linter.all false
set_option maxRecDepth 100000
set_option maxHeartbeats 1000000
/-! computations evaluated part by part -/
namespace Dn
open PySem PySem.Spec PyProof.Rows L2 Evl
section
variable {ρ ρ' ρ2 : Ev} {k k1 k2 k3 : Int} {x y z d : Dt} {b : Bool} {ds es : List Dt} {f fa fb fc : DE} {g h : DL} {t u : DT} {s s2 : DS} {o : Out}
theorem evB {op : Dt → Dt → Option Dt} (h1 : fa ρ k = some (x, k1)) (h2 : fb ρ k1 = some (y, k2)) (h3 : op x y = some d) : dB op fa fb ρ k = some (d, k2) := by simp [h1, h2, h3]
theorem evBL {op : Dt → Dt → Option (List Dt)} (h1 : fa ρ k = some (x, k1)) (h2 : fb ρ k1 = some (y, k2)) (h3 : op x y = some ds) : dBL op fa fb ρ k = some (ds, k2) := by simp [h1, h2, h3]
theorem evU {op : Dt → Option Dt} (h1 : fa ρ k = some (x, k1)) (h3 : op x = some d) : dU op fa ρ k = some (d, k1) := by simp [h1, h3]
theorem evN {op : List Dt → Option Dt} (h1 : g ρ k = some (ds, k1)) (h3 : op ds = some d) : dN op g ρ k = some (d, k1) := by simp [h1, h3]
theorem evNL {op : List Dt → Option (List Dt)} (h1 : g ρ k = some (ds, k1)) (h3 : op ds = some es) : dNL op g ρ k = some (es, k1) := by simp [h1, h3]
theorem evA (h1 : f ρ k = some (x, k1)) (h2 : g ρ k1 = some (ds, k2)) : aCons f g ρ k = some (x :: ds, k2) := by simp [h1, h2]
theorem evA0 : aNil ρ k = some ([], k) := rfl
theorem evC {F : Fn} (h1 : g ρ k = some (ds, k1)) (h2 : F ds k1 = some (d, k2)) : dCall F g ρ k = some (d, k2) := by simp [h1, h2]
theorem evCL {F : FnL} (h1 : g ρ k = some (ds, k1)) (h2 : F ds k1 = some (es, k2)) : dCallL F g ρ k = some (es, k2) := by simp [h1, h2]
theorem evL (h1 : g ρ k = some (ds, k1)) : lD g ρ k = some (.list ds, k1) := by simp [h1]
theorem evM {op : Dt → List Dt → Option Dt} {w : Str} (h1 : f ρ k = some (.str w, k1)) (h2 : g ρ k1 = some (ds, k2)) (h3 : op (.str w) ds = some d) : dM op f g ρ k = some (d, k2) := by simp [h1, h2, h3]
theorem evML {op : Dt → List Dt → Option (List Dt)} {w : Str} (h1 : f ρ k = some (.str w, k1)) (h2 : g ρ k1 = some (ds, k2)) (h3 : op (.str w) ds = some es) : dML op f g ρ k = some (es, k2) := by simp [h1, h2, h3]
theorem evSl {op : Dt → Option Int → Option Int → Option Dt} {l r : DP} {i j : Option Int} (h1 : f ρ k = some (x, k1)) (h2 : l ρ k1 = some (i, k2)) (h3 : r ρ k2 = some (j, k3)) (h4 : op x i j = some d) : dSl op f l r ρ k = some (d, k3) := by simp [h1, h2, h3, h4]
theorem evSlL {op : Dt → Option Int → Option Int → Option (List Dt)} {l r : DP} {i j : Option Int} (h1 : f ρ k = some (x, k1)) (h2 : l ρ k1 = some (i, k2)) (h3 : r ρ k2 = some (j, k3)) (h4 : op x i j = some ds) : dSlL op f l r ρ k = some (ds, k3) := by simp [h1, h2, h3, h4]
theorem evP {i : Int} (h1 : f ρ k = some (.int i, k1)) : pS f ρ k = some (some i, k1) := by simp [h1]
theorem evP0 : pN ρ k = some (none, k) := rfl
theorem evI (h1 : f ρ k = some (x, k1)) (h2 : gItems x = some ds) : dItems f ρ k = some (ds, k1) := by simp only [dItems, h1, Option.bind_some, h2]
theorem evLc {vs : List Nat} {tg : DG} {e : DE} (h1 : g ρ k = some (ds, k1)) (hl : ds.length ≤ 1000000) (h2 : lcLoop (wipeE ρ vs) tg t e ds k1 = some (es, k2)) : dLc g vs tg t e ρ k = some (es, k2) := by simp [h1, hl, h2]
theorem evV (h1 : f ρ k = some (.bool b, k1)) : tV f ρ k = some (b, k1) := by simp [h1]
theorem evNot (h1 : t ρ k = some (b, k1)) : tNotD t ρ k = some (!b, k1) := by simp [h1]
theorem evOrT (h1 : t ρ k = some (true, k1)) : tOrD t u ρ k = some (true, k1) := by simp [h1]
theorem evOrF (h1 : t ρ k = some (false, k1)) (h2 : u ρ k1 = some (b, k2)) : tOrD t u ρ k = some (b, k2) := by simp [h1, h2]
theorem evAndT (h1 : t ρ k = some (true, k1)) (h2 : u ρ k1 = some (b, k2)) : tAndD t u ρ k = some (b, k2) := by simp [h1, h2]
theorem evAndF (h1 : t ρ k = some (false, k1)) : tAndD t u ρ k = some (false, k1) := by simp [h1]
theorem evvOrT (h1 : fa ρ k = some (.bool true, k1)) : vOr fa fb ρ k = some (.bool true, k1) := by simp [h1]
theorem evvOrF (h1 : fa ρ k = some (.bool false, k1)) (h2 : fb ρ k1 = some (x, k2)) : vOr fa fb ρ k = some (x, k2) := by simp [h1, h2]
theorem evvAndT (h1 : fa ρ k = some (.bool true, k1)) (h2 : fb ρ k1 = some (x, k2)) : vAnd fa fb ρ k = some (x, k2) := by simp [h1, h2]
theorem evvAndF (h1 : fa ρ k = some (.bool false, k1)) : vAnd fa fb ρ k = some (.bool false, k1) := by simp [h1]
theorem evIfT (h1 : t ρ k = some (true, k1)) (h2 : fa ρ k1 = some (x, k2)) : dIf t fa fb ρ k = some (x, k2) := by simp [h1, h2]
theorem evIfF (h1 : t ρ k = some (false, k1)) (h2 : fb ρ k1 = some (x, k2)) : dIf t fa fb ρ k = some (x, k2) := by simp [h1, h2]
theorem evSh {i : Nat} (h : ρ[i]? = some (.sh x)) : dVar i ρ k = some (x, k) := by simp [h]
theorem evSo {i : Nat} (h : ρ[i]? = some (.sh x)) : dVarO i ρ k = some (x, k) := by simp [h]
theorem evOw {i : Nat} (h : ρ[i]? = some (.ow ds)) : dVarO i ρ k = some (.list ds, k) := by simp [h]
/-! statements -/
theorem stS (h1 : s ρ k = some (.next ρ' k1)) (h2 : s2 ρ' k1 = some o) : sSeq s s2 ρ k = some o := by simp [h1, h2]
theorem stA {i : Nat} (h1 : f ρ k = some (x, k1)) : sAsg f (gSet i) ρ k = some (.next (ρ.set i (.sh x)) k1) := by simp [h1]
theorem stG {tg : DG} (h1 : f ρ k = some (x, k1)) (h2 : tg ρ x = some ρ') : sAsg f tg ρ k = some (.next ρ' k1) := by simp [h1, h2]
theorem stL {i : Nat} (h1 : g ρ k = some (ds, k1)) : sSetL i g ρ k = some (.next (ρ.set i (.ow ds)) k1) := by simp [h1]
theorem stR (h1 : f ρ k = some (x, k1)) : sRet f ρ k = some (.ret x k1) := by simp [h1]
theorem stRL (h1 : g ρ k = some (ds, k1)) : sRetL g ρ k = some (.retL ds k1) := by simp [h1]
theorem stIT (h1 : t ρ k = some (true, k1)) (h2 : s ρ k1 = some o) : sIf t s s2 ρ k = some o := by simp [h1, h2]
theorem stIF (h1 : t ρ k = some (false, k1)) (h2 : s2 ρ k1 = some o) : sIf t s s2 ρ k = some o := by simp [h1, h2]
theorem stM {i : Nat} {op : List Dt → List Dt → Option (List Dt)} {xs : List Dt} (h1 : g ρ k = some (ds, k1)) (h2 : ρ[i]? = some (.ow xs)) (h3 : op xs ds = some es) : sMut i op g ρ k = some (.next (ρ.set i (.ow es)) k1) := by simp [h1, h2, h3]
theorem stF {tg : DG} {body : DS} (h1 : g ρ k = some (ds, k1)) (h2 : forLoop tg body ds ρ k1 = some o) : sFor g tg body ρ k = some o := by simp [h1, h2]
theorem stZ {i : Nat} {xs : List Dt} (h1 : ρ[i]? = some (.ow xs)) (h2 : s (ρ.set i (.sh (.list xs))) k = some o) : sFreeze i s ρ k = some o := by simp [h1, h2]
theorem stD (h1 : f ρ k = some (x, k1)) : sDrop f ρ k = some (.next ρ k1) := by simp [h1]
theorem fnR {n sl : Nat} {body : DS} (hn : ds.length = n) (h1 : body (startE sl ds) k = some (.ret d k1)) : dDef n sl body ds k = some (d, k1) := by simp only [dDef, hn, if_true, h1, Option.bind_some]
theorem fnRL {n sl : Nat} {body : DS} (hn : ds.length = n) (h1 : body (startE sl ds) k = some (.retL es k1)) : dDefL n sl body ds k = some (es, k1) := by simp only [dDefL, hn, if_true, h1, Option.bind_some]
theorem fnRO {n sl : Nat} {body : DS} (hn : ds.length = n) (h1 : body (startE sl ds) k = some (.retL es k1)) : dDef n sl body ds k = some (.list es, k1) := by simp only [dDef, hn, if_true, h1, Option.bind_some]
theorem forNil {tg : DG} {body : DS} : forLoop tg body [] ρ k = some (.next ρ k) := rfl
theorem forStep {tg : DG} {body : DS} (h1 : tg ρ x = some ρ') (h2 : body ρ' k = some (.next ρ2 k1)) (h3 : forLoop tg body ds ρ2 k1 = some o) : forLoop tg body (x :: ds) ρ k = some o := by simp [forLoop, h1, h2, h3]
theorem forRet {tg : DG} {body : DS} (h1 : tg ρ x = some ρ') (h2 : body ρ' k = some (.ret d k1)) : forLoop tg body (x :: ds) ρ k = some (.ret d k1) := by simp [forLoop, h1, h2]
end
end Dn

set_option Elab.async false
set_option linter.all false
set_option maxRecDepth 100000
set_option maxHeartbeats 1000000
/-! the order of data; sorted lists and least items, by what is among them -/
namespace Mx
open PySem PySem.Spec PyProof.Rows Dn PySem.W

mutual
theorem toks_inj : ∀ (x y : Dt), alike x y = true → ∀ r r' : List (Int ⊕ List Nat), keyToks x ++ r = keyToks y ++ r' → x = y ∧ r = r'
  | .none, y, h, r, r', e => by
    cases y <;> simp [alike] at h
    simpa [keyToks] using e
  | .bool a, y, h, r, r', e => by
    cases y <;> simp [alike] at h
    rename_i b
    simp only [keyToks, List.cons_append, List.nil_append, List.cons.injEq, Sum.inl.injEq] at e
    refine ⟨?_, e.2⟩
    cases a <;> cases b <;> simp at e <;> rfl
  | .int a, y, h, r, r', e => by
    cases y <;> simp [alike] at h
    simp only [keyToks, List.cons_append, List.nil_append, List.cons.injEq, Sum.inl.injEq] at e
    exact ⟨by rw [e.1], e.2⟩
  | .str a, y, h, r, r', e => by
    cases y <;> simp [alike] at h
    simp only [keyToks, List.cons_append, List.nil_append, List.cons.injEq, Sum.inr.injEq] at e
    exact ⟨by rw [str_of_cps e.1], e.2⟩
  | .list xs, y, h, r, r', e => by
    cases y <;> simp [alike] at h
    have := toksAll_inj xs _ h r r' (by simpa [keyToks] using e)
    exact ⟨by rw [this.1], this.2⟩
  | .tuple xs, y, h, r, r', e => by
    cases y <;> simp [alike] at h
    have := toksAll_inj xs _ h r r' (by simpa [keyToks] using e)
    exact ⟨by rw [this.1], this.2⟩
  | .dict _, y, h, r, r', e => by cases y <;> simp [alike] at h
theorem toksAll_inj : ∀ (xs ys : List Dt), alikeAll xs ys = true → ∀ r r' : List (Int ⊕ List Nat), keyToksAll xs ++ r = keyToksAll ys ++ r' → xs = ys ∧ r = r'
  | [], [], _, r, r', e => by simpa [keyToksAll] using e
  | [], y :: ys, _, r, r', e => by simp [keyToksAll] at e
  | x :: xs, [], _, r, r', e => by simp [keyToksAll] at e
  | x :: xs, y :: ys, h, r, r', e => by
    simp only [alikeAll, Bool.and_eq_true] at h
    simp only [keyToksAll, List.cons_append, List.append_assoc, List.cons.injEq, true_and] at e
    obtain ⟨e1, e2⟩ := toks_inj x y h.1 _ _ e
    obtain ⟨e3, e4⟩ := toksAll_inj xs ys h.2 _ _ e2
    exact ⟨by rw [e1, e3], e4⟩
end
theorem leDt_total : TotalLe leDt := sortLe_total (listOrd itemOrd) false fun b => keyToks b
theorem leDt_lt (a b : Dt) : leDt a b = !dataLt b a := rfl
theorem leDt_anti {a b : Dt} (h : alike a b = true) (h1 : leDt a b = true) (h2 : leDt b a = true) : a = b := by
  rw [leDt_lt, Bool.not_eq_true'] at h1 h2
  have e : keyToks a = keyToks b := (listOrd itemOrd).total _ _ h2 h1
  exact (toks_inj a b h [] [] (by rw [e])).1
theorem lt_irrefl (a : Dt) : dataLt a a = false := (listOrd itemOrd).irrefl _
/-- sorted lists of the same alike items are the same -/
theorem sort_perm {l r : List Dt} (h : ∀ x ∈ l, ∀ y ∈ l, alike x y = true) (p : l.Perm r) : l.mergeSort leDt = r.mergeSort leDt := by
  have pl := List.mergeSort_perm l leDt
  have pr := List.mergeSort_perm r leDt
  refine List.Perm.eq_of_pairwise (le := fun a b => leDt a b = true) (fun a b ha hb h1 h2 => leDt_anti (h a (pl.mem_iff.mp ha) b (p.mem_iff.mpr (pr.mem_iff.mp hb))) h1 h2) (sort_pairwise leDt_total l) (sort_pairwise leDt_total r) (pl.trans (p.trans pr.symm))
/-! the least item -/
theorem minD_mem (x : Dt) (xs : List Dt) : minD x xs ∈ x :: xs := by
  unfold minD
  induction xs generalizing x with
  | nil => exact List.mem_cons_self
  | cons y ys ih =>
    rw [List.foldl_cons]
    have := ih (if dataLt y x then y else x)
    rcases List.mem_cons.mp this with e | e
    · rw [e]
      split
      · exact .tail _ List.mem_cons_self
      · exact List.mem_cons_self
    · exact .tail _ (.tail _ e)
theorem minD_le (x : Dt) (xs : List Dt) : ∀ y ∈ x :: xs, leDt (minD x xs) y = true := by
  unfold minD
  induction xs generalizing x with
  | nil =>
    intro y hy
    cases List.mem_singleton.mp hy
    exact leDt_total.refl _
  | cons z zs ih =>
    intro y hy
    rw [List.foldl_cons]
    have h0 := ih (if dataLt z x then z else x) _ List.mem_cons_self
    have hxz : leDt (if dataLt z x then z else x) x = true ∧ leDt (if dataLt z x then z else x) z = true := by
      by_cases hz : dataLt z x = true
      · rw [if_pos hz]
        refine ⟨?_, leDt_total.refl _⟩
        rcases leDt_total.total z x with e | e
        · exact e
        · rw [leDt_lt, hz] at e
          cases e
      · rw [if_neg hz]
        refine ⟨leDt_total.refl _, ?_⟩
        rw [leDt_lt]
        simpa using hz
    rcases List.mem_cons.mp hy with rfl | hy
    · exact leDt_total.trans _ _ _ h0 hxz.1
    · rcases List.mem_cons.mp hy with rfl | hy
      · exact leDt_total.trans _ _ _ h0 hxz.2
      · exact ih _ y (.tail _ hy)
theorem minD_unique {x x' : Dt} {xs xs' : List Dt} (h : ∀ a ∈ x :: xs, ∀ b ∈ x :: xs, alike a b = true) (hm : ∀ a, a ∈ x :: xs ↔ a ∈ x' :: xs') : minD x xs = minD x' xs' :=
  leDt_anti (h _ (minD_mem x xs) _ ((hm _).mpr (minD_mem x' xs'))) (minD_le x xs _ ((hm _).mpr (minD_mem x' xs'))) (minD_le x' xs' _ ((hm _).mp (minD_mem x xs)))
end Mx

set_option Elab.async false
set_option linter.all false
set_option maxRecDepth 100000
set_option maxHeartbeats 1000000
/-! pieces, lines, yards: what the program's least form and the law's compute -/
namespace Mx
open PySem PySem.Spec PyProof.Rows L2 Evl Dn Cm
open PySem.W (alike alikeAll keyToks dataLt minD TotalLe)

@[simp] theorem isObj_none : isObj .none = false := rfl
@[simp] theorem isObj_bool (b : Bool) : isObj (.bool b) = false := rfl
@[simp] theorem isObj_int (b : Int) : isObj (.int b) = false := rfl
@[simp] theorem isObj_str (b : Str) : isObj (.str b) = false := rfl
@[simp] theorem isObj_list (b : List Dt) : isObj (.list b) = false := rfl
@[simp] theorem isObj_tuple (b : List Dt) : isObj (.tuple b) = false := rfl
@[simp] theorem isObj_dict0 : isObj (.dict []) = false := rfl

def letter (c : Nat) : Bool := decide (97 ≤ c) && decide (c ≤ 122)
structure IsName (x : Str) : Prop where
  lo : 1 ≤ x.length
  hi : x.length ≤ 8
  lt : x.cps.toList.all letter = true
theorem IsName.ok {x : Str} (h : IsName x) : PyData.strOk x = true := by
  simp only [PyData.strOk, Array.all_eq_true_iff_forall_mem]
  intro c hc
  have := List.all_eq_true.mp h.lt c (by simpa using hc)
  simp only [letter, Bool.and_eq_true, decide_eq_true_eq] at this
  simp
  omega
abbrev Pc := Str × Bool
def wy : Bool → Int
  | true => 1
  | false => -1
@[simp] theorem wy_neg (b : Bool) : wy (!b) = -wy b := by cases b <;> rfl
def pD (p : Pc) : Dt := .tuple [.str p.1, .int (wy p.2)]
def fl (p : Pc) : Pc := (p.1, !p.2)
abbrev Ln := List Pc
def lnT (l : Ln) : Dt := .tuple (l.map pD)
def lnL (l : Ln) : Dt := .list (l.map pD)
def bw (l : Ln) : Ln := (l.map fl).reverse
@[simp] theorem fl_fl (p : Pc) : fl (fl p) = p := by simp [fl]
@[simp] theorem bw_bw (l : Ln) : bw (bw l) = l := by
  unfold bw
  rw [List.map_reverse, List.reverse_reverse, List.map_map]
  have : fl ∘ fl = id := funext fl_fl
  rw [this, List.map_id]
@[simp] theorem bw_length (l : Ln) : (bw l).length = l.length := by simp [bw]
inductive SeqOf : Dt → List Dt → Prop
  | lst (ds : List Dt) : SeqOf (.list ds) ds
  | tup (ds : List Dt) : SeqOf (.tuple ds) ds
structure LnOk (l : Ln) : Prop where
  nm : ∀ p ∈ l, IsName p.1
  few : l.length ≤ 1000
theorem LnOk.bw {l : Ln} (h : LnOk l) : LnOk (bw l) := ⟨fun p hp => by
  simp only [Mx.bw, List.mem_reverse, List.mem_map] at hp
  obtain ⟨q, hq, rfl⟩ := hp
  exact h.nm q hq, by rw [bw_length]; exact h.few⟩
theorem pD_lay {p : Pc} (h : IsName p.1) : (pD p).canLay0 = true := by simp [pD, h.ok]
@[simp] theorem pD_depth (p : Pc) : (pD p).depth = 1 := by simp [pD]
theorem pD_ok {p : Pc} (h : IsName p.1) : okD (pD p) = true := by simp [okD_eq, pD_lay h]
theorem ln_lay {l : Ln} (h : ∀ p ∈ l, IsName p.1) : PyData.canLayAll0 (l.map pD) = true ∧ PyData.depthAll (l.map pD) ≤ 1 := okAll fun d hd => by
  obtain ⟨p, hp, rfl⟩ := List.mem_map.mp hd
  exact ⟨pD_lay (h p hp), by simp⟩
theorem lnT_lay {l : Ln} (h : ∀ p ∈ l, IsName p.1) : (lnT l).canLay0 = true ∧ (lnT l).depth ≤ 2 := by
  have := ln_lay h
  simp [lnT, this.1]
  exact this.2
theorem lnL_lay {l : Ln} (h : ∀ p ∈ l, IsName p.1) : (lnL l).canLay0 = true ∧ (lnL l).depth ≤ 2 := by
  have := ln_lay h
  simp [lnL, this.1]
  exact this.2
theorem lnT_ok {l : Ln} (h : ∀ p ∈ l, IsName p.1) : okD (lnT l) = true := by
  have := lnT_lay h
  simp [okD_eq, this.1]
  omega
theorem lnL_ok {l : Ln} (h : ∀ p ∈ l, IsName p.1) : okD (lnL l) = true := by
  have := lnL_lay h
  simp [okD_eq, this.1]
  omega
theorem alike_pD (p q : Pc) : alike (pD p) (pD q) = true := by simp [pD, alike, alikeAll]
theorem alike_lnA : ∀ l r : Ln, alikeAll (l.map pD) (r.map pD) = true
  | [], r => by simp [alikeAll]
  | _ :: _, [] => by simp [alikeAll]
  | p :: l, q :: r => by simp [alikeAll, alike_pD, alike_lnA l r]
theorem alike_ln (l r : Ln) : alike (lnT l) (lnT r) = true := by simp [lnT, alike, alike_lnA]
theorem pD_inj {p q : Pc} (h : pD p = pD q) : p = q := by
  obtain ⟨a, b⟩ := p
  obtain ⟨c, d⟩ := q
  simp only [pD, PyData.tuple.injEq, List.cons.injEq, PyData.str.injEq, PyData.int.injEq, and_true] at h
  obtain ⟨rfl, h⟩ := h
  cases b <;> cases d <;> first | rfl | (simp [wy] at h)
theorem lnA_inj : ∀ {l r : Ln}, l.map pD = r.map pD → l = r
  | [], [], _ => rfl
  | p :: l, q :: r, h => by
    simp only [List.map_cons, List.cons.injEq] at h
    rw [pD_inj h.1, lnA_inj h.2]
theorem lnT_inj {l r : Ln} (h : lnT l = lnT r) : l = r := lnA_inj (by simpa [lnT] using h)
/-! ### readings -/
theorem flipped_D (p : Pc) (k : Int) : d_flipped [pD p] k = some (pD (fl p), k) := by
  simp [d_flipped, b_flipped, pD, fl]
theorem lc_of {ρ : Ev} {g : DG} {e : DE} {k : Int} {α : Type} (f : α → Dt) (v : α → Dt) {xs : List α} (h : ∀ x ∈ xs, ∃ ρ', g ρ (f x) = some ρ' ∧ e ρ' k = some (v x, k)) : lcLoop ρ g tAll e (xs.map f) k = some (xs.map v, k) := by
  induction xs with
  | nil => rfl
  | cons x xs ih =>
    obtain ⟨ρ', h1, h2⟩ := h x List.mem_cons_self
    have := ih fun y hy => h y (List.mem_cons_of_mem _ hy)
    simp [lcLoop, h1, h2, this]
theorem back_D {d : Dt} {l : Ln} (hd : SeqOf d (l.map pD)) (h : LnOk l) (k : Int) : d__backwards [d] k = some (lnT (bw l), k) := by
  have hl := h.few
  have hl2 : l.length ≤ 1000000 := by omega
  have key : lcLoop [.sh d, .un] (gSet 1) tAll e__backwards_1 (l.reverse.map pD) k = some (l.reverse.map (fun p => pD (fl p)), k) := lc_of _ _ fun p hp => ⟨[.sh d, .sh (pD p)], rfl, by simp [e__backwards_1, flipped_D]⟩
  have e : l.reverse.map (fun p => pD (fl p)) = (bw l).map pD := by simp [bw, List.map_reverse]
  rw [e] at key
  rw [List.map_reverse] at key
  cases hd with
  | lst => simp [d__backwards, b__backwards, key, hl2, lnT]
  | tup => simp [d__backwards, b__backwards, key, hl2, lnT]
theorem turned_back_D {d : Dt} {l : Ln} (hd : SeqOf d (l.map pD)) (h : LnOk l) (k : Int) : d__law_turned_back [d] k = some ((bw l).map pD, k) := by
  have hl := h.few
  have hl2 : l.length ≤ 1000000 := by omega
  have key : lcLoop [.sh d, .un, .un] (gTupG 2 (gConsD (gSet 1) (gConsD (gSet 2) gNilD))) tAll e__law_turned_back_1 (l.reverse.map pD) k = some (l.reverse.map (fun p => pD (fl p)), k) :=
    lc_of _ _ fun p hp => ⟨[.sh d, .sh (.str p.1), .sh (.int (wy p.2))], by simp [pD], by simp [e__law_turned_back_1, pD, fl]⟩
  have e : l.reverse.map (fun p => pD (fl p)) = (bw l).map pD := by simp [bw, List.map_reverse]
  rw [e] at key
  rw [List.map_reverse] at key
  cases hd with
  | lst => simp [d__law_turned_back, b__law_turned_back, key, hl2]
  | tup => simp [d__law_turned_back, b__law_turned_back, key, hl2]
/-! ### least readings -/
def ltL (a b : Ln) : Bool := dataLt (lnT a) (lnT b)
def minL (x : Ln) (xs : List Ln) : Ln := xs.foldl (fun a y => if ltL y a then y else a) x
theorem minL_D (x : Ln) (xs : List Ln) : lnT (minL x xs) = minD (lnT x) (xs.map lnT) := by
  unfold minL minD
  induction xs generalizing x with
  | nil => rfl
  | cons y ys ih =>
    rw [List.foldl_cons, List.map_cons, List.foldl_cons, ih]
    congr 1
    unfold ltL
    split <;> rfl
theorem minL_mem (x : Ln) (xs : List Ln) : minL x xs ∈ x :: xs := by
  have := minD_mem (lnT x) (xs.map lnT)
  rw [← minL_D, ← List.map_cons (f := lnT), List.mem_map] at this
  obtain ⟨y, hy, e⟩ := this
  rwa [lnT_inj e] at hy
theorem minL_unique {x x' : Ln} {xs xs' : List Ln} (hm : ∀ a, a ∈ x :: xs ↔ a ∈ x' :: xs') : minL x xs = minL x' xs' := by
  apply lnT_inj
  rw [minL_D, minL_D]
  refine minD_unique (fun a ha b hb => ?_) fun a => ?_
  · rw [← List.map_cons (f := lnT), List.mem_map] at ha hb
    obtain ⟨u, _, rfl⟩ := ha
    obtain ⟨v, _, rfl⟩ := hb
    exact alike_ln u v
  · rw [← List.map_cons (f := lnT), ← List.map_cons (f := lnT), List.mem_map, List.mem_map]
    exact ⟨fun ⟨u, hu, e⟩ => ⟨u, (hm u).mp hu, e⟩, fun ⟨u, hu, e⟩ => ⟨u, (hm u).mpr hu, e⟩⟩
theorem min_ok {ls : List Ln} (h : ∀ l ∈ ls, ∀ p ∈ l, IsName p.1) : minOk (ls.map lnT) = true := by
  unfold minOk
  simp only [Bool.and_eq_true, List.all_eq_true]
  refine ⟨⟨?_, ?_⟩, ?_⟩
  · unfold alikeB
    simp only [List.all_eq_true, List.mem_map]
    rintro _ ⟨a, _, rfl⟩ _ ⟨b, _, rfl⟩
    exact alike_ln a b
  · intro d hd
    obtain ⟨l, hl, rfl⟩ := List.mem_map.mp hd
    exact lnT_ok (h l hl)
  · intro d hd
    obtain ⟨l, hl, rfl⟩ := List.mem_map.mp hd
    rfl
def lrow (l : Ln) : Ln := minL l [bw l]
theorem lrow_mem (l : Ln) : lrow l = l ∨ lrow l = bw l := by
  have := minL_mem l [bw l]
  rcases List.mem_cons.mp this with e | e
  · exact .inl e
  · exact .inr (List.mem_singleton.mp e)
theorem lrow_bw (l : Ln) : lrow (bw l) = lrow l := minL_unique fun a => by
  rw [bw_bw]
  simp only [List.mem_cons, List.not_mem_nil, or_false]
  exact Or.comm
theorem least_row_D {d : Dt} {l : Ln} (hd : SeqOf d (l.map pD)) (h : LnOk l) (k : Int) : d__least_row [d] k = some (lnT (lrow l), k) := by
  have hb := back_D hd h k
  have hm : minOk [lnT l, lnT (bw l)] = true := min_ok (ls := [l, bw l]) fun r hr => by
    rcases List.mem_cons.mp hr with rfl | hr
    · exact h.nm
    · rw [List.mem_singleton.mp hr]
      exact h.bw.nm
  have e : lnT (lrow l) = minD (lnT l) [lnT (bw l)] := minL_D l [bw l]
  rw [e]
  simp only [lnT] at hb hm ⊢
  cases hd with
  | lst => simp [d__least_row, b__least_row, hb, hm]
  | tup => simp [d__least_row, b__least_row, hb, hm]
/-- a ring begun at another of its pieces -/
def rot (l : Ln) (j : Nat) : Ln := l.drop j ++ l.take j
def rots (l : Ln) : List Ln := (List.range l.length).map (rot l)
def reads (l : Ln) : List Ln := rots l ++ rots (bw l)
def lring (l : Ln) : Ln := match reads l with
  | [] => []
  | x :: xs => minL x xs
theorem rot_length (l : Ln) (j : Nat) : (rot l j).length = l.length := by
  simp only [rot, List.length_append, List.length_drop, List.length_take]
  omega
theorem rot_nm {l : Ln} (h : ∀ p ∈ l, IsName p.1) (j : Nat) : ∀ p ∈ rot l j, IsName p.1 := fun p hp => by
  rcases List.mem_append.mp hp with hp | hp
  · exact h p (List.mem_of_mem_drop hp)
  · exact h p (List.mem_of_mem_take hp)
theorem reads_nm {l : Ln} (h : LnOk l) : ∀ r ∈ reads l, ∀ p ∈ r, IsName p.1 := fun r hr => by
  rcases List.mem_append.mp hr with hr | hr
  · obtain ⟨j, _, rfl⟩ := List.mem_map.mp hr
    exact rot_nm h.nm j
  · obtain ⟨j, _, rfl⟩ := List.mem_map.mp hr
    exact rot_nm h.bw.nm j
theorem cut_from (ds : List Dt) (j : Nat) : Dn.cutD ds (some (j : Int)) none = ds.drop j := by
  unfold Dn.cutD
  rw [HT.sIx_nat, HT.sIx_none]
  by_cases h : j ≤ ds.length
  · rw [Nat.min_eq_left h, List.take_of_length_le (by rw [List.length_drop]; omega)]
  · rw [Nat.min_eq_right (by omega), List.drop_eq_nil_of_le (Nat.le_refl _), List.drop_eq_nil_of_le (by omega)]
    simp
theorem cut_to (ds : List Dt) (j : Nat) : Dn.cutD ds none (some (j : Int)) = ds.take j := by
  unfold Dn.cutD
  rw [HT.sIx_nat, HT.sIx_none, List.drop_zero, Nat.sub_zero]
  by_cases h : j ≤ ds.length
  · rw [Nat.min_eq_left h]
  · rw [Nat.min_eq_right (by omega), List.take_of_length_le (Nat.le_refl _), List.take_of_length_le (by omega)]
theorem rot_map (l : Ln) (j : Nat) : (rot l j).map pD = (l.map pD).drop j ++ (l.map pD).take j := by
  simp [rot, List.map_drop, List.map_take]
theorem rot_sum (l : Ln) (j : Nat) (h : l.length ≤ 1000) : ((l.map pD).drop j).length + ((l.map pD).take j).length ≤ 1000000 := by
  simp only [List.length_drop, List.length_take, List.length_map]
  omega
theorem ring_loop {l : Ln} (h : LnOk l) (k : Int) (a b c : Dt) : ∀ (n s : Nat) (acc : List Dt) (x : Cell), acc.length + n ≤ 100000 →
    ∃ y, forLoop (gSet 3) b__least_ring_1 ((List.range' s n).map fun (i : Nat) => PyData.int (i : Int)) [.sh a, .ow acc, .sh (lnT l), x] k = some (.next [.sh a, .ow (acc ++ (List.range' s n).map fun j => lnT (rot l j)), .sh (lnT l), y] k)
  | 0, s, acc, x, _ => ⟨x, by simp [forLoop]⟩
  | n + 1, s, acc, x, hn => by
    obtain ⟨y, hy⟩ := ring_loop h k a b c n (s + 1) (acc ++ [lnT (rot l s)]) (.sh (.int (s : Int))) (by simp only [List.length_append, List.length_singleton]; omega)
    refine ⟨y, ?_⟩
    have hs := rot_sum l s h.few
    have hr := rot_map l s
    have ha : acc.length < 1000000 := by omega
    rw [List.range'_succ, List.map_cons, forLoop]
    simp only [gSet, List.set_cons_succ, List.set_cons_zero, Option.bind_some]
    have step : b__least_ring_1 [.sh a, .ow acc, .sh (lnT l), .sh (.int (s : Int))] k = some (.next [.sh a, .ow (acc ++ [lnT (rot l s)]), .sh (lnT l), .sh (.int (s : Int))] k) := by
      simp only [b__least_ring_1, lnT, hr]
      have hs2 : l.length - s + min s l.length ≤ 1000000 := by simpa using hs
      simp [cut_from, cut_to, ha, hs2]
    rw [step, Option.bind_some]
    simp only []
    rw [hy]
    simp [List.append_assoc]
theorem reads_ne {l : Ln} (h : l ≠ []) : ∃ x xs, reads l = x :: xs := by
  cases l with
  | nil => exact absurd rfl h
  | cons p l => exact ⟨_, _, by simp [reads, rots, List.range_succ_eq_map]; exact ⟨rfl, rfl⟩⟩
theorem lring_D {l : Ln} (hn : l ≠ []) (h : LnOk l) : gMin [.list ((reads l).map lnT)] = some (lnT (lring l)) := by
  obtain ⟨x, xs, e⟩ := reads_ne hn
  have hm := min_ok (reads_nm h)
  unfold lring
  rw [e] at hm ⊢
  simp only [gMin, List.map_cons] at hm ⊢
  rw [if_pos hm, minL_D]
theorem least_ring_D {d : Dt} {l : Ln} (hd : SeqOf d (l.map pD)) (hn : l ≠ []) (h : LnOk l) (k : Int) : d__least_ring [d] k = some (lnT (lring l), k) := by
  have hb := back_D hd h k
  have hl := h.few
  obtain ⟨y1, h1⟩ := ring_loop h k d d d l.length 0 [] .un (by simp; omega)
  obtain ⟨y2, h2⟩ := ring_loop h.bw k d d d l.length 0 ((List.range' 0 l.length).map fun j => lnT (rot l j)) y1 (by simp; omega)
  have hm := lring_D hn h
  have e : (List.range' 0 l.length).map (fun j => lnT (rot l j)) ++ (List.range' 0 l.length).map (fun j => lnT (rot (bw l) j)) = (reads l).map lnT := by
    simp [reads, rots, List.range_eq_range', Function.comp_def]
  rw [List.nil_append] at h1
  rw [e] at h2
  have hlen : (l.length : Int) ≤ 1000000 := by omega
  have hlen2 : l.length ≤ 1000000 := by omega
  have hb2 : (bw l).length = l.length := bw_length l
  have inner : ∀ (r : Ln) (acc : List Dt) (x : Cell), r.length = l.length → b__least_ring_2 [.sh d, .ow acc, .sh (lnT r), x] k = forLoop (gSet 3) b__least_ring_1 ((List.range' 0 l.length).map fun (i : Nat) => PyData.int (i : Int)) [.sh d, .ow acc, .sh (lnT r), x] k := by
    intro r acc x hr
    simp [b__least_ring_2, lnT, hr, hlen, hlen2, List.range_eq_range']
  have i1 := inner l [] .un rfl
  have i2 := inner (bw l) ((List.range' 0 l.length).map fun j => lnT (rot l j)) y1 hb2
  rw [h1] at i1
  rw [h2] at i2
  have ht : gTuple [d] = some (lnT l) := by cases hd <;> simp [lnT]
  have hrun : b__least_ring (startE 4 [d]) k = some (.ret (lnT (lring l)) k) := by
    have e1 : sFor (dItems (dN gTupD (aCons (dN gTuple (aCons (dVarO 0) aNil)) (aCons (dCall d__backwards (aCons (dVar 0) aNil)) aNil)))) (gSet 2) b__least_ring_2 [.sh d, .ow [], .un, .un] k = some (.next [.sh d, .ow ((reads l).map lnT), .sh (lnT (bw l)), y2] k) := by
      simp [-gTuple, ht, hb, forLoop, i1, i2]
    have e0 : b__least_ring (startE 4 [d]) k = (sSeq (sFor (dItems (dN gTupD (aCons (dN gTuple (aCons (dVarO 0) aNil)) (aCons (dCall d__backwards (aCons (dVar 0) aNil)) aNil)))) (gSet 2) b__least_ring_2) (sRet (dN gMin (aCons (dVarO 1) aNil)))) [.sh d, .ow [], .un, .un] k := by
      simp [b__least_ring]
    rw [e0]
    unfold sSeq
    rw [e1]
    simp [-gMin, hm]
  simp [d__least_ring, -startE, hrun]
theorem law_ring_comp {l : Ln} (h : LnOk l) (k : Int) (a f : Dt) (x : Cell) : lcLoop [.sh a, .sh f, .sh (lnL l), x] (gSet 3) tAll e__law_ring_1 ((List.range l.length).map fun (i : Nat) => PyData.int (i : Int)) k = some ((rots l).map lnT, k) := by
  have := lc_of (ρ := [.sh a, .sh f, .sh (lnL l), x]) (g := gSet 3) (e := e__law_ring_1) (k := k) (fun (i : Nat) => PyData.int (i : Int)) (fun j => lnT (rot l j)) (xs := List.range l.length) fun s hs => ⟨[.sh a, .sh f, .sh (lnL l), .sh (.int (s : Int))], rfl, by
    have hs := rot_sum l s h.few
    have hs2 : l.length - s + min s l.length ≤ 1000000 := by simpa using hs
    have hr := rot_map l s
    simp only [e__law_ring_1, lnL, lnT, hr]
    simp [cut_from, cut_to, hs2]⟩
  rw [this]
  simp [rots, Function.comp_def]
theorem law_ring_D {d : Dt} {l : Ln} (hd : SeqOf d (l.map pD)) (hn : l ≠ []) (h : LnOk l) (k : Int) : d__law_ring [d] k = some (lnT (lring l), k) := by
  have hb := turned_back_D hd h k
  have hl := h.few
  have hm := lring_D hn h
  have hlen : (l.length : Int) ≤ 1000000 := by omega
  have hlen2 : l.length ≤ 1000000 := by omega
  have hb2 : (bw l).length = l.length := bw_length l
  have ht : gList [d] = some (l.map pD) := by cases hd <;> simp
  have c1 := law_ring_comp h k d (.list []) .un
  have c2 := law_ring_comp h.bw k d (.list ((rots l).map lnT)) .un
  rw [hb2] at c2
  have r1 : (rots l).length = l.length := by simp [rots]
  have r2 : (rots (bw l)).length = l.length := by simp [rots, hb2]
  have e : (rots l).map lnT ++ (rots (bw l)).map lnT = (reads l).map lnT := by simp [reads]
  have hsum : l.length + l.length ≤ 1000000 := by omega
  have b1 : b__law_ring_2 [.sh d, .sh (.list []), .sh (lnL l), .un] k = some (.next [.sh d, .sh (.list ((rots l).map lnT)), .sh (lnL l), .un] k) := by
    simp only [b__law_ring_2, lnL] at c1 ⊢
    simp [c1, hlen, hlen2, r1]
  have b2 : b__law_ring_2 [.sh d, .sh (.list ((rots l).map lnT)), .sh (lnL (bw l)), .un] k = some (.next [.sh d, .sh (.list ((reads l).map lnT)), .sh (lnL (bw l)), .un] k) := by
    rw [← e]
    simp only [b__law_ring_2, lnL] at c2 ⊢
    simp [c2, hlen, hlen2, r1, r2, hb2, hsum]
  have hrun : b__law_ring (startE 4 [d]) k = some (.ret (lnT (lring l)) k) := by
    have e1 : sFor (dItems (dN gTupD (aCons (lD (dNL gList (aCons (dVarO 0) aNil))) (aCons (lD (dCallL d__law_turned_back (aCons (dVar 0) aNil))) aNil)))) (gSet 2) b__law_ring_2 [.sh d, .sh (.list []), .un, .un] k = some (.next [.sh d, .sh (.list ((reads l).map lnT)), .sh (lnL (bw l)), .un] k) := by
      have f1 : (PyData.list (l.map pD)) = lnL l := rfl
      have f2 : (PyData.list ((bw l).map pD)) = lnL (bw l) := rfl
      simp [-gList, ht, hb, forLoop, f1, f2, b1, b2]
    have e0 : b__law_ring (startE 4 [d]) k = (sSeq (sFor (dItems (dN gTupD (aCons (lD (dNL gList (aCons (dVarO 0) aNil))) (aCons (lD (dCallL d__law_turned_back (aCons (dVar 0) aNil))) aNil)))) (gSet 2) b__law_ring_2) (sRet (dN gMin (aCons (dVarO 1) aNil)))) [.sh d, .sh (.list []), .un, .un] k := by
      simp [b__law_ring]
    rw [e0]
    unfold sSeq
    rw [e1]
    simp [-gMin, hm]
  simp [d__law_ring, -startE, hrun]
/-! ### yards -/
theorem map_inj {α β : Type} {f : α → β} (hf : ∀ a b, f a = f b → a = b) : ∀ {l r : List α}, l.map f = r.map f → l = r
  | [], [], _ => rfl
  | [], _ :: _, h => by simp at h
  | _ :: _, [], h => by simp at h
  | a :: l, b :: r, h => by
    simp only [List.map_cons, List.cons.injEq] at h
    rw [hf _ _ h.1, map_inj hf h.2]
/-- two lists, item by item -/
inductive Rel2 {α β : Type} (R : α → β → Prop) : List α → List β → Prop
  | nil : Rel2 R [] []
  | cons {a : α} {b : β} {as : List α} {bs : List β} : R a b → Rel2 R as bs → Rel2 R (a :: as) (b :: bs)
theorem Rel2.length_eq {α β : Type} {R : α → β → Prop} : ∀ {as : List α} {bs : List β}, Rel2 R as bs → as.length = bs.length
  | _, _, .nil => rfl
  | _, _, .cons _ r => congrArg (· + 1) r.length_eq
theorem Rel2.map {α β : Type} {R : α → β → Prop} {f : β → α} (h : ∀ b, R (f b) b) : ∀ bs : List β, Rel2 R (bs.map f) bs
  | [] => .nil
  | b :: bs => .cons (h b) (Rel2.map h bs)
def leL (a b : Ln) : Bool := leDt (lnT a) (lnT b)
def sortL (ls : List Ln) : List Ln := ls.mergeSort leL
theorem sortL_D (ls : List Ln) : (sortL ls).map lnT = (ls.map lnT).mergeSort leDt := by
  unfold sortL
  exact List.map_mergeSort fun a _ b _ => rfl
theorem sortL_perm {l r : List Ln} (p : l.Perm r) : sortL l = sortL r := by
  have : (sortL l).map lnT = (sortL r).map lnT := by
    rw [sortL_D, sortL_D]
    refine sort_perm (fun x hx y hy => ?_) (p.map _)
    obtain ⟨u, _, rfl⟩ := List.mem_map.mp hx
    obtain ⟨v, _, rfl⟩ := List.mem_map.mp hy
    exact alike_ln u v
  exact map_inj (fun a b h => lnT_inj h) this
structure LsOk (ls : List Ln) : Prop where
  ok : ∀ l ∈ ls, LnOk l
  ne : ∀ l ∈ ls, l ≠ []
  few : ls.length ≤ 1000
theorem lrow_ok {l : Ln} (h : LnOk l) : LnOk (lrow l) := by
  rcases lrow_mem l with e | e <;> rw [e]
  · exact h
  · exact h.bw
theorem lrow_ne {l : Ln} (h : l ≠ []) : lrow l ≠ [] := by
  rcases lrow_mem l with e | e <;> rw [e]
  · exact h
  · intro z
    have := bw_length l
    rw [z] at this
    cases l with
    | nil => exact h rfl
    | cons _ _ => simp at this
theorem lring_mem {l : Ln} (h : l ≠ []) : lring l ∈ reads l := by
  obtain ⟨x, xs, e⟩ := reads_ne h
  unfold lring
  rw [e]
  exact minL_mem x xs
theorem reads_length {l r : Ln} (h : r ∈ reads l) : r.length = l.length := by
  rcases List.mem_append.mp h with h | h
  · obtain ⟨j, _, rfl⟩ := List.mem_map.mp h
    exact rot_length l j
  · obtain ⟨j, _, rfl⟩ := List.mem_map.mp h
    rw [rot_length, bw_length]
theorem lring_ok {l : Ln} (hn : l ≠ []) (h : LnOk l) : LnOk (lring l) := ⟨reads_nm h _ (lring_mem hn), by rw [reads_length (lring_mem hn)]; exact h.few⟩
theorem lring_ne {l : Ln} (hn : l ≠ []) : lring l ≠ [] := fun z => by
  have := reads_length (lring_mem hn)
  rw [z] at this
  cases l with
  | nil => exact hn rfl
  | cons _ _ => simp at this
theorem LsOk.rows {ls : List Ln} (h : LsOk ls) : LsOk (ls.map lrow) := ⟨fun l hl => by
  obtain ⟨r, hr, rfl⟩ := List.mem_map.mp hl
  exact lrow_ok (h.ok r hr), fun l hl => by
  obtain ⟨r, hr, rfl⟩ := List.mem_map.mp hl
  exact lrow_ne (h.ne r hr), by rw [List.length_map]; exact h.few⟩
theorem LsOk.rings {ls : List Ln} (h : LsOk ls) : LsOk (ls.map lring) := ⟨fun l hl => by
  obtain ⟨r, hr, rfl⟩ := List.mem_map.mp hl
  exact lring_ok (h.ne r hr) (h.ok r hr), fun l hl => by
  obtain ⟨r, hr, rfl⟩ := List.mem_map.mp hl
  exact lring_ne (h.ne r hr), by rw [List.length_map]; exact h.few⟩
theorem LsOk.sort {ls : List Ln} (h : LsOk ls) : LsOk (sortL ls) := by
  have p : (sortL ls).Perm ls := List.mergeSort_perm _ _
  exact ⟨fun l hl => h.ok l (p.mem_iff.mp hl), fun l hl => h.ne l (p.mem_iff.mp hl), by rw [p.length_eq]; exact h.few⟩
theorem sort_ok {ls : List Ln} (h : LsOk ls) : gSorted [.list (ls.map lnT)] = some ((sortL ls).map lnT) := by
  have hs : sortOk (ls.map lnT) = true := by
    have hf := h.few
    unfold sortOk alikeB
    simp only [Bool.and_eq_true, Bool.or_eq_true, List.all_eq_true, decide_eq_true_eq, List.length_map]
    refine ⟨⟨⟨?_, .inl ?_⟩, ?_⟩, by omega⟩
    · rintro _ ha _ hb
      obtain ⟨a, _, rfl⟩ := List.mem_map.mp ha
      obtain ⟨b, _, rfl⟩ := List.mem_map.mp hb
      exact alike_ln a b
    · intro d hd
      obtain ⟨l, hl, rfl⟩ := List.mem_map.mp hd
      have := h.ne l hl
      cases l with
      | nil => exact absurd rfl this
      | cons p l => rfl
    · intro d hd
      obtain ⟨l, hl, rfl⟩ := List.mem_map.mp hd
      exact lnT_ok (h.ok l hl).nm
  simp [hs, sortL_D]
abbrev Yd := List Ln × List Ln
def ydT (y : Yd) : Dt := .tuple [.tuple (y.1.map lnT), .tuple (y.2.map lnT)]
def lyard (rows rings : List Ln) : Yd := (sortL (rows.map lrow), sortL (rings.map lring))
/-- lists or tuples of pieces, in a list or a tuple -/
def LinesOf (d : Dt) (ls : List Ln) : Prop := ∃ ds, SeqOf d ds ∧ Rel2 (fun x (l : Ln) => SeqOf x (l.map pD)) ds ls
theorem lc_rel {ρ : Ev} {g : DG} {e : DE} {k : Int} {α : Type} {R : Dt → α → Prop} (v : α → Dt) {ds : List Dt} {xs : List α} (r : Rel2 R ds xs) (h : ∀ d x, x ∈ xs → R d x → ∃ ρ', g ρ d = some ρ' ∧ e ρ' k = some (v x, k)) : lcLoop ρ g tAll e ds k = some (xs.map v, k) := by
  induction r with
  | nil => rfl
  | cons hr r ih =>
    obtain ⟨ρ', h1, h2⟩ := h _ _ List.mem_cons_self hr
    have := ih fun d y hy => h d y (List.mem_cons_of_mem _ hy)
    simp [lcLoop, h1, h2, this]
theorem SeqOf.items {d : Dt} {ds : List Dt} (h : SeqOf d ds) : gItems d = some ds := by cases h <;> rfl
theorem least_yard_D {dr dg : Dt} {rows rings : List Ln} (hr : LinesOf dr rows) (hg : LinesOf dg rings) (h1 : LsOk rows) (h2 : LsOk rings) (k : Int) : d_least_yard [dr, dg] k = some (ydT (lyard rows rings), k) := by
  obtain ⟨ds2, sr, fr⟩ := hr
  obtain ⟨ds1, sg, fg⟩ := hg
  have ir := sr.items
  have ig := sg.items
  have c1 : lcLoop [.sh dr, .sh dg, .un, .un] (gSet 2) tAll e_least_yard_1 _ k = some (rows.map fun l => lnT (lrow l), k) := lc_rel _ fr fun d l hl hd => ⟨[.sh dr, .sh dg, .sh d, .un], rfl, by simp [e_least_yard_1, least_row_D hd (h1.ok l hl)]⟩
  have c2 : lcLoop [.sh dr, .sh dg, .un, .un] (gSet 3) tAll e_least_yard_2 _ k = some (rings.map fun l => lnT (lring l), k) := lc_rel _ fg fun d l hl hd => ⟨[.sh dr, .sh dg, .un, .sh d], rfl, by simp [e_least_yard_2, least_ring_D hd (h2.ne l hl) (h2.ok l hl)]⟩
  have l1 := fr.length_eq
  have l2 := fg.length_eq
  have f1 := h1.few
  have f2 := h2.few
  have s1 := sort_ok h1.rows
  have s2 := sort_ok h2.rings
  rw [List.map_map] at s1 s2
  have g1 : (fun l => lnT (lrow l)) = lnT ∘ lrow := rfl
  have g2 : (fun l => lnT (lring l)) = lnT ∘ lring := rfl
  rw [g1] at c1
  rw [g2] at c2
  have z1 : ds2.length ≤ 1000000 := by omega
  have z2 : ds1.length ≤ 1000000 := by omega
  simp [-gItems, -gSorted, d_least_yard, b_least_yard, ir, ig, c1, c2, s1, s2, z1, z2, lyard, ydT]
theorem law_yard_D {dr dg : Dt} {rows rings : List Ln} (hr : LinesOf dr rows) (hg : LinesOf dg rings) (h1 : LsOk rows) (h2 : LsOk rings) (k : Int) : d__law_yard [dr, dg] k = some (ydT (lyard rows rings), k) := by
  obtain ⟨ds2, sr, fr⟩ := hr
  obtain ⟨ds1, sg, fg⟩ := hg
  have ir := sr.items
  have ig := sg.items
  have c1 : lcLoop [.sh dr, .sh dg, .un, .un, .un] (gSet 3) tAll e__law_yard_1 _ k = some (rows.map fun l => lnT (lrow l), k) := lc_rel _ fr fun d l hl hd => ⟨[.sh dr, .sh dg, .un, .sh d, .un], rfl, by
    have hb := turned_back_D hd (h1.ok l hl) k
    have hm : minOk [lnT l, lnT (bw l)] = true := min_ok (ls := [l, bw l]) fun r hr => by
      rcases List.mem_cons.mp hr with rfl | hr
      · exact (h1.ok _ hl).nm
      · rw [List.mem_singleton.mp hr]
        exact (h1.ok _ hl).bw.nm
    have e : lnT (lrow l) = minD (lnT l) [lnT (bw l)] := minL_D l [bw l]
    rw [e]
    simp only [lnT] at hm ⊢
    cases hd with
    | lst => simp [e__law_yard_1, hb, hm]
    | tup => simp [e__law_yard_1, hb, hm]⟩
  have l1 := fr.length_eq
  have l2 := fg.length_eq
  have f1 := h1.few
  have f2 := h2.few
  have s1 := sort_ok h1.rows
  have s2 := sort_ok h2.rings
  rw [List.map_map] at s1 s2
  have g1 : (fun l => lnT (lrow l)) = lnT ∘ lrow := rfl
  rw [g1] at c1
  have c2 : lcLoop [.sh dr, .sh dg, .ow (rows.map (lnT ∘ lrow)), .un, .un] (gSet 4) tAll e__law_yard_2 _ k = some (rings.map fun l => lnT (lring l), k) := lc_rel _ fg fun d l hl hd => ⟨[.sh dr, .sh dg, .ow (rows.map (lnT ∘ lrow)), .un, .sh d], rfl, by simp [e__law_yard_2, law_ring_D hd (h2.ne l hl) (h2.ok l hl)]⟩
  have g2 : (fun l => lnT (lring l)) = lnT ∘ lring := rfl
  rw [g2] at c2
  have z1 : ds2.length ≤ 1000000 := by omega
  have z2 : ds1.length ≤ 1000000 := by omega
  simp [-gItems, -gSorted, d__law_yard, b__law_yard, ir, ig, c1, c2, s1, s2, z1, z2, lyard, ydT]
end Mx

set_option Elab.async false
set_option linter.all false
set_option maxRecDepth 100000
set_option maxHeartbeats 1000000
/-! draws, names, rows and rings by draws -/
namespace Mx
open PySem PySem.Spec PyProof.Rows L2 Evl Dn Cm
open PySem.W (alike alikeAll keyToks dataLt minD TotalLe)

def scr (ns : List Int) : Dt := .list (ns.map .int)
theorem scr_ok (ns : List Int) : okD (scr ns) = true := okL fun d hd => by
  obtain ⟨i, _, rfl⟩ := List.mem_map.mp hd
  simp
def cellsOf (ns : List Int) : List Int := if ns = [] then [0] else ns
def drawV (ns : List Int) (k many : Int) : Int :=
  let c := (cellsOf ns).getD (k % ((cellsOf ns).length : Int)).toNat 0
  let n := (c % 1000000007 + 31 * k + 17) * 48271 % 2147483647
  n * (k * k + 16807) % 2147483629 / 4096 % many
theorem getD_at (xs : List Int) (j : Nat) (h : j < xs.length) : xs[j]? = some (xs.getD j 0) := by
  rw [List.getD_eq_getElem?_getD, List.getElem?_eq_getElem h]
  rfl
theorem atI_map {xs : List Int} {i : Int} (h0 : 0 ≤ i) (h1 : i < (xs.length : Int)) : L2.atI (xs.map PyData.int) i = some (.int (xs.getD i.toNat 0)) := by
  have hi : i.toNat < xs.length := by omega
  have := L2.atI_nat (xs := xs.map PyData.int) (j := i.toNat) (v := .int (xs.getD i.toNat 0)) (by
    rw [List.getElem?_map, getD_at xs _ hi]
    rfl)
  rwa [Int.toNat_of_nonneg h0] at this
def catDraw : DE := dB gAdd (dVarO 0) (lD (lRep (dNL gLstD (aCons (dC (.int 0)) aNil)) (dN gInt (aCons (dB gEq (dVarO 0) (lD (dNL gLstD aNil))) aNil))))
theorem cat_eq (ns : List Int) (hl : ns.length ≤ 63) (ρ : Ev) (k : Int) (h : ρ[0]? = some (.sh (scr ns))) : catDraw ρ k = some (.list ((cellsOf ns).map .int), k) := by
  have hso := scr_ok ns
  have hl2 : ns.length + 1 ≤ 1000000 := by omega
  have hl3 : ns.length ≤ 1000000 := by omega
  cases ns with
  | nil =>
    have e1 : scr [] = .list [] := rfl
    rw [e1] at h
    simp [catDraw, h, cellsOf]
  | cons n ns =>
    have e1 : scr (n :: ns) = .list (.int n :: ns.map .int) := rfl
    have hl4 : ns.length + 1 ≤ 1000000 := by simpa using hl3
    rw [e1] at h hso
    simp [catDraw, h, cellsOf, hso, hl4]
theorem draw_eq (ns : List Int) (hl : ns.length ≤ 63) (k many : Int) (h0 : 0 ≤ k) (h1 : k < 1000000) (hm : 0 < many) : d__law_draw [scr ns, ctrD, .int many] k = some (.int (drawV ns k many), k + 1) := by
  have hpos : 0 < (cellsOf ns).length := by
    unfold cellsOf
    split
    · simp
    · exact List.length_pos_iff.mpr ‹_›
  have hlen : (cellsOf ns).length ≤ 63 := by
    unfold cellsOf
    split
    · simp
    · exact hl
  have hi0 : 0 ≤ k % ((cellsOf ns).length : Int) := Int.emod_nonneg _ (by omega)
  have hi1 : k % ((cellsOf ns).length : Int) < ((cellsOf ns).length : Int) := Int.emod_lt_of_pos _ (by omega)
  have hat := atI_map (xs := cellsOf ns) hi0 hi1
  have hk1 : -18446744073709551616 < k := by omega
  have hk2 : k < 18446744073709551616 := by omega
  have hn : ∀ c : Int, -18446744073709551616 < (c % 1000000007 + 31 * k + 17) * 48271 % 2147483647 ∧ (c % 1000000007 + 31 * k + 17) * 48271 % 2147483647 < 18446744073709551616 := fun c => by
    have a1 := Int.emod_nonneg ((c % 1000000007 + 31 * k + 17) * 48271) (show (2147483647 : Int) ≠ 0 by decide)
    have a2 := Int.emod_lt_of_pos ((c % 1000000007 + 31 * k + 17) * 48271) (show (0 : Int) < 2147483647 by decide)
    omega
  have hc := cat_eq ns hl [.sh (scr ns), .sh ctrD, .sh (.int many), .sh (.int k), .un, .un] (k + 1) rfl
  have hl5 : (cellsOf ns).length ≤ 1000000 := by omega
  have hp5 : (0 : Int) < ((cellsOf ns).length : Int) := by omega
  have hb : b__law_draw = sSeq (sAsg (dAt 1) (gSet 3)) (sSeq (sAt 1 (dB gAdd (dVarO 3) (dC (.int 1)))) (sSeq (sAsg catDraw (gSet 4)) (sSeq (sAsg (dB gMod (dB gMul (dB gAdd (dB gAdd (dB gMod (dB gIx (dVarO 4) (dB gMod (dVarO 3) (dN gLen (aCons (dVarO 4) aNil)))) (dC (.int 1000000007))) (dB gMul (dC (.int 31)) (dVarO 3))) (dC (.int 17))) (dC (.int 48271))) (dC (.int 2147483647))) (gSet 5))
    (sRet (dB gMod (dB gFdiv (dB gMod (dB gMul (dVarO 5) (dB gAdd (dB gMul (dVarO 3) (dVarO 3)) (dC (.int 16807)))) (dC (.int 2147483629))) (dC (.int 4096))) (dVarO 2)))))) := rfl
  unfold drawV
  generalize cellsOf ns = cs at *
  generalize cs.getD (k % (cs.length : Int)).toNat 0 = c at *
  have hn2 := hn c
  have hct : Dn.isCtr ctrD = true := rfl
  simp [d__law_draw, hb, hct, hc, hl5, hpos, hat, hm, hk1, hk2, hn2.1, hn2.2]
theorem drawV_bd (ns : List Int) (k many : Int) (hm : 0 < many) : 0 ≤ drawV ns k many ∧ drawV ns k many < many := by
  unfold drawV
  exact ⟨Int.emod_nonneg _ (by omega), Int.emod_lt_of_pos _ hm⟩
/-- a draw: some number below many -/
theorem draw_N (ns : List Int) (hl : ns.length ≤ 63) (k : Int) (many : Nat) (h0 : 0 ≤ k) (h1 : k < 1000000) (hm : 0 < many) : ∃ n : Nat, n < many ∧ d__law_draw [scr ns, ctrD, .int (many : Int)] k = some (.int (n : Int), k + 1) := by
  have hm2 : (0 : Int) < (many : Int) := by omega
  obtain ⟨b0, b1⟩ := drawV_bd ns k many hm2
  refine ⟨(drawV ns k many).toNat, by omega, ?_⟩
  rw [draw_eq ns hl k many h0 h1 hm2, Int.toNat_of_nonneg b0]
/-! ### names -/
def sOf (cs : List Nat) : Str := ⟨cs.toArray⟩
@[simp] theorem sOf_len (cs : List Nat) : (sOf cs).length = cs.length := by
  show (cs.toArray).size = _
  simp
@[simp] theorem sOf_cps (cs : List Nat) : (sOf cs).cps.toList = cs := by simp [sOf]
theorem sOf_app (as bs : List Nat) : sOf as ++ sOf bs = sOf (as ++ bs) := by
  show (⟨as.toArray ++ bs.toArray⟩ : Str) = _
  simp [sOf]
theorem sOf_inj {as bs : List Nat} (h : sOf as = sOf bs) : as = bs := by
  have := congrArg (fun s : Str => s.cps.toList) h
  simpa using this
theorem sOf_of (x : Str) : sOf x.cps.toList = x := by
  cases x
  simp [sOf]
theorem signD_sOf (c : Nat) : signD c = .str (sOf [c]) := rfl
theorem cutS_to (cs : List Nat) (j : Nat) : L2.cutS (sOf cs) none (some (j : Int)) = sOf (cs.take j) := by
  unfold L2.cutS
  rw [HT.sIx_nat, HT.sIx_none, sOf_len, sOf_cps, List.drop_zero, Nat.sub_zero]
  by_cases h : j ≤ cs.length
  · rw [Nat.min_eq_left h]
    rfl
  · rw [Nat.min_eq_right (by omega), List.take_of_length_le (Nat.le_refl _), List.take_of_length_le (by omega)]
    rfl
theorem cutS_from (cs : List Nat) (j : Nat) : L2.cutS (sOf cs) (some (j : Int)) none = sOf (cs.drop j) := by
  unfold L2.cutS
  rw [HT.sIx_nat, HT.sIx_none, sOf_len, sOf_cps]
  by_cases h : j ≤ cs.length
  · rw [Nat.min_eq_left h, List.take_of_length_le (by rw [List.length_drop]; omega)]
    rfl
  · rw [Nat.min_eq_right (by omega), List.drop_eq_nil_of_le (Nat.le_refl _), List.drop_eq_nil_of_le (by omega)]
    simp [sOf]
def abc : Str := "abcdefghijklmnopqrstuvwxyz"
theorem abc_len : abc.length = 26 := by decide +kernel
theorem abc_list : abc.cps.toList = List.range' 97 26 := by decide +kernel
theorem abc_at {i : Nat} (h : i < 26) : L2.atI abc.cps.toList (i : Int) = some (97 + i) := by
  rw [abc_list]
  refine L2.atI_nat ?_
  rw [List.getElem?_range' (by omega)]
  simp
theorem letter_of {i : Nat} (h : i < 26) : letter (97 + i) = true := by
  simp only [letter, Bool.and_eq_true, decide_eq_true_eq]
  omega
theorem signs_join : ∀ cs : List Nat, Txt.join Str.empty (cs.map fun c => sOf [c]) = sOf cs := by
  intro cs
  rw [TL.join_eq]
  induction cs with
  | nil => rfl
  | cons c cs ih =>
    cases cs with
    | nil => rfl
    | cons d cs =>
      show (sOf [c] ++ Str.empty ++ Str.join Str.empty ((d :: cs).map fun c => sOf [c]) : Str) = _
      have e : Str.empty = sOf [] := rfl
      rw [ih, e, sOf_app, sOf_app]
      rfl
theorem signs_ss (cs : List Nat) : asSs (cs.map fun c => .str (sOf [c])) = some (cs.map fun c => sOf [c]) := by
  rw [← asSs_map, List.map_map]
  rfl
def mark (many turn first j : Nat) : List Nat := if many > 26 then [97 + (j / 26 + 20 * turn), 97 + (j + 7 * first) % 26] else [97 + (j + 7 * first) % 26]
def nameC (cs : List Nat) (many turn first place j : Nat) : List Nat := cs.take place ++ mark many turn first j ++ cs.drop place
theorem mark_inj {many turn first i j : Nat} (hi : i < many) (hj : j < many) (hm : many ≤ 100) (h : mark many turn first i = mark many turn first j) : i = j := by
  unfold mark at h
  split at h
  · simp only [List.cons.injEq, and_true] at h
    omega
  · simp only [List.cons.injEq, and_true] at h
    omega
theorem mark_len (many turn first i j : Nat) : (mark many turn first i).length = (mark many turn first j).length := by
  unfold mark
  split <;> rfl
theorem nameC_inj {cs : List Nat} {many turn first place i j : Nat} (hi : i < many) (hj : j < many) (hm : many ≤ 100) (h : nameC cs many turn first place i = nameC cs many turn first place j) : i = j := by
  unfold nameC at h
  have := List.append_cancel_right h
  exact mark_inj hi hj hm (List.append_cancel_left this)
theorem name_ok {cs : List Nat} {many turn first place j : Nat} (hc : cs.all letter = true) (hl : cs.length ≤ 6) (hm : many ≤ 100) (ht : turn ≤ 1) (hj : j < many) : IsName (sOf (nameC cs many turn first place j)) := by
  have hlen : (nameC cs many turn first place j).length = cs.length + (mark many turn first j).length := by
    simp only [nameC, List.length_append, List.length_take, List.length_drop]
    omega
  have hm2 : 1 ≤ (mark many turn first j).length ∧ (mark many turn first j).length ≤ 2 := by
    unfold mark
    split <;> simp
  refine ⟨by rw [sOf_len, hlen]; omega, by rw [sOf_len, hlen]; omega, ?_⟩
  rw [sOf_cps]
  simp only [nameC, List.all_append, Bool.and_eq_true, List.all_eq_true]
  rw [List.all_eq_true] at hc
  refine ⟨⟨fun c h => hc c (List.mem_of_mem_take h), ?_⟩, fun c h => hc c (List.mem_of_mem_drop h)⟩
  intro c hcm
  unfold mark at hcm
  split at hcm
  · rcases List.mem_cons.mp hcm with rfl | hcm
    · exact letter_of (by omega)
    · rw [List.mem_singleton.mp hcm]
      exact letter_of (Nat.mod_lt _ (by decide))
  · rw [List.mem_singleton.mp hcm]
    exact letter_of (Nat.mod_lt _ (by decide))
end Mx

set_option Elab.async false
set_option linter.all false
set_option maxRecDepth 100000
set_option maxHeartbeats 1000000
/-! the law's names, its rows and rings -/
namespace Mx
open PySem PySem.Spec PyProof.Rows L2 Evl Dn Cm
open PySem.W (alike alikeAll keyToks dataLt minD TotalLe)

theorem gAddS (as bs : List Nat) (h : as.length + bs.length ≤ 1000000) : gAdd (.str (sOf as)) (.str (sOf bs)) = some (.str (sOf (as ++ bs))) := by
  simp [h, sOf_app]
theorem gIxS {i : Nat} {z : Int} (h : i < 26) (e : z = (i : Int)) : gIx (.str abc) (.int z) = some (.str (sOf [97 + i])) := by
  subst e
  have al : abc.length ≤ 1000000 := by rw [abc_len]; decide
  simp [al, abc_at h, signD_sOf]
theorem gSlTo (cs : List Nat) (j : Nat) (h : cs.length ≤ 1000000) : gSlE (.str (sOf cs)) none (some (j : Int)) = some (.str (sOf (cs.take j))) := by simp [cutS_to, h]
theorem gSlFrom (cs : List Nat) (j : Nat) (h : cs.length ≤ 1000000) : gSlE (.str (sOf cs)) (some (j : Int)) none = some (.str (sOf (cs.drop j))) := by simp [cutS_from, h]
theorem gApp (acc : List Dt) (d : Dt) (h : acc.length < 1000000) : gAppend acc [d] = some (acc ++ [d]) := by simp [h]
theorem names_step {cs : List Nat} {many turn first place s : Nat} (hl : cs.length ≤ 6) (ht : turn ≤ 1) (hm : many ≤ 100) (s0 s1 sz : Dt) (c11 c12 c13 : Cell) (k : Int) (acc : List Dt) (hs : s < many) (ha : acc.length = s) :
    ∃ d11, b__law_names_3 [.sh s0, .sh s1, .sh (.int (many : Int)), .sh (.str abc), .sh (.str (sOf cs)), .ow acc, .sh (.int (s : Int)), .sh (.int (first : Int)), .sh sz, .sh (.int (place : Int)), .sh (.int (turn : Int)), c11, c12, c13] k =
        some (.next [.sh s0, .sh s1, .sh (.int (many : Int)), .sh (.str abc), .sh (.str (sOf cs)), .ow (acc ++ [.str (sOf (nameC cs many turn first place s))]), .sh (.int (s : Int)), .sh (.int (first : Int)), .sh sz, .sh (.int (place : Int)), .sh (.int (turn : Int)), d11, c12, c13] k) := by
  have hcs : cs.length ≤ 1000000 := by omega
  have i1 : gIx (.str abc) (.int (((s : Int) + 7 * (first : Int)) % 26)) = some (.str (sOf [97 + (s + 7 * first) % 26])) := gIxS (Nat.mod_lt _ (by decide)) (by omega)
  by_cases hbig : many > 26
  · have e1 : mark many turn first s = [97 + (s / 26 + 20 * turn), 97 + (s + 7 * first) % 26] := by simp [mark, hbig]
    have i2 : gIx (.str abc) (.int ((s : Int) / 26 + 20 * (turn : Int))) = some (.str (sOf [97 + (s / 26 + 20 * turn)])) := gIxS (by omega) (by omega)
    have g1 : gAdd (.str (sOf [97 + (s / 26 + 20 * turn)])) (.str (sOf [97 + (s + 7 * first) % 26])) = some (.str (sOf (mark many turn first s))) := by
      rw [e1]
      exact gAddS _ _ (by simp)
    have g2 := gAddS (cs.take place) (mark many turn first s) (by rw [e1]; simp only [List.length_take, List.length_cons, List.length_nil]; omega)
    have g3 := gAddS (cs.take place ++ mark many turn first s) (cs.drop place) (by rw [e1]; simp only [List.length_append, List.length_take, List.length_drop, List.length_cons, List.length_nil]; omega)
    have gg : gGt (.int (many : Int)) (.int 26) = some (.bool true) := by
      have : (26 : Int) < (many : Int) := by omega
      simp [this]
    exact ⟨_, stS (stA (evB rfl (evB (evB rfl (evB rfl rfl rfl) rfl) rfl rfl) i1)) (stS (stIT (evV (evB rfl rfl gg)) (stA (evB (evB rfl (evB (evB rfl rfl rfl) (evB rfl rfl rfl) rfl) i2) rfl g1)))
      (stM (evA (evB (evB (evSl rfl evP0 (evP rfl) (gSlTo cs place hcs)) rfl g2) (evSl rfl (evP rfl) evP0 (gSlFrom cs place hcs)) g3) evA0) rfl (gApp acc _ (by omega))))⟩
  · have e1 : mark many turn first s = [97 + (s + 7 * first) % 26] := by simp [mark, hbig]
    rw [← e1] at i1
    have g2 := gAddS (cs.take place) (mark many turn first s) (by rw [e1]; simp only [List.length_take, List.length_cons, List.length_nil]; omega)
    have g3 := gAddS (cs.take place ++ mark many turn first s) (cs.drop place) (by rw [e1]; simp only [List.length_append, List.length_take, List.length_drop, List.length_cons, List.length_nil]; omega)
    have gg : gGt (.int (many : Int)) (.int 26) = some (.bool false) := by
      have : ¬ (26 : Int) < (many : Int) := by omega
      simp [this]
    exact ⟨_, stS (stA (evB rfl (evB (evB rfl (evB rfl rfl rfl) rfl) rfl rfl) i1)) (stS (stIF (evV (evB rfl rfl gg)) rfl)
      (stM (evA (evB (evB (evSl rfl evP0 (evP rfl) (gSlTo cs place hcs)) rfl g2) (evSl rfl (evP rfl) evP0 (gSlFrom cs place hcs)) g3) evA0) rfl (gApp acc _ (by omega))))⟩
theorem names_loop {cs : List Nat} {many turn first place : Nat} (hl : cs.length ≤ 6) (ht : turn ≤ 1) (hm : many ≤ 100) (s0 s1 : Dt) (sz : Dt) (c12 c13 : Cell) (k : Int) :
    ∀ (n s : Nat) (acc : List Dt) (c6 c11 : Cell), s + n ≤ many → acc.length = s → ∃ d6 d11, forLoop (gSet 6) b__law_names_3 ((List.range' s n).map fun (i : Nat) => PyData.int (i : Int)) [.sh s0, .sh s1, .sh (.int (many : Int)), .sh (.str abc), .sh (.str (sOf cs)), .ow acc, c6, .sh (.int (first : Int)), .sh sz, .sh (.int (place : Int)), .sh (.int (turn : Int)), c11, c12, c13] k =
      some (.next [.sh s0, .sh s1, .sh (.int (many : Int)), .sh (.str abc), .sh (.str (sOf cs)), .ow (acc ++ (List.range' s n).map fun j => .str (sOf (nameC cs many turn first place j))), d6, .sh (.int (first : Int)), .sh sz, .sh (.int (place : Int)), .sh (.int (turn : Int)), d11, c12, c13] k)
  | 0, s, acc, c6, c11, _, _ => ⟨c6, c11, by simp [forLoop]⟩
  | n + 1, s, acc, c6, c11, hs, ha => by
    obtain ⟨d11', hstep⟩ := names_step (first := first) (place := place) hl ht hm s0 s1 sz c11 c12 c13 k acc (show s < many by omega) ha
    obtain ⟨d6, d11, hrest⟩ := names_loop (first := first) (place := place) hl ht hm s0 s1 sz c12 c13 k n (s + 1) (acc ++ [.str (sOf (nameC cs many turn first place s))]) (.sh (.int (s : Int))) d11' (by omega) (by simp [ha])
    refine ⟨d6, d11, ?_⟩
    rw [List.range'_succ, List.map_cons]
    refine (forStep rfl hstep hrest).trans ?_
    simp [List.append_assoc]
theorem names_eq (ns : List Int) (hl : ns.length ≤ 63) (k : Int) (many : Nat) (h0 : 0 ≤ k) (h1 : k + 4 < 1000000) (hm : many ≤ 100) : ∃ xs : List Str, d__law_names [scr ns, ctrD, .int (many : Int)] k = some (xs.map .str, k + 4) ∧ xs.length = many ∧ xs.Nodup ∧ ∀ x ∈ xs, IsName x := by
  obtain ⟨first, hf, e1⟩ := draw_N ns hl k 26 h0 (by omega) (by decide)
  obtain ⟨size, hs, e2⟩ := draw_N ns hl (k + 1) 7 (by omega) (by omega) (by decide)
  obtain ⟨place, hp, e3⟩ := draw_N ns hl (k + 1 + 1) 7 (by omega) (by omega) (by decide)
  obtain ⟨turn, ht, e4⟩ := draw_N ns hl (k + 1 + 1 + 1) 2 (by omega) (by omega) (by decide)
  let cs : List Nat := (List.range size).map fun j => 97 + (first + 5 * j) % 26
  have hcl : cs.length = size := by simp [cs]
  have hca : cs.all letter = true := by
    rw [List.all_eq_true]
    intro c hc
    obtain ⟨j, _, rfl⟩ := List.mem_map.mp hc
    exact letter_of (Nat.mod_lt _ (by decide))
  let xs : List Str := (List.range many).map fun j => sOf (nameC cs many turn first place j)
  have hxs : ∀ x ∈ xs, IsName x := fun x hx => by
    obtain ⟨j, hj, rfl⟩ := List.mem_map.mp hx
    exact name_ok hca (by omega) hm (by omega) (List.mem_range.mp hj)
  have hnd : xs.Nodup := by
    refine List.Pairwise.map _ (R := fun i j : Nat => i ≠ j ∧ i < many ∧ j < many) (fun i j h z => h.1 (nameC_inj h.2.1 h.2.2 hm (sOf_inj z))) ?_
    refine List.Pairwise.imp_of_mem (R := fun i j => i ≠ j) (fun {a b} ha hb h => ⟨h, List.mem_range.mp ha, List.mem_range.mp hb⟩) ?_
    exact List.nodup_range
  have draws : lcLoop [.sh (scr ns), .sh ctrD, .sh (.int (many : Int)), .sh (.str abc), .un, .un, .un, .un, .un, .un, .un, .un, .un, .un] (gSet 12) tAll e__law_names_1 [.int 26, .int 7, .int 7, .int 2] k = some ([.int (first : Int), .int (size : Int), .int (place : Int), .int (turn : Int)], k + 4) := by
    have e1' : d__law_draw [scr ns, ctrD, .int 26] k = some (.int (first : Int), k + 1) := e1
    have e2' : d__law_draw [scr ns, ctrD, .int 7] (k + 1) = some (.int (size : Int), k + 1 + 1) := e2
    have e3' : d__law_draw [scr ns, ctrD, .int 7] (k + 1 + 1) = some (.int (place : Int), k + 1 + 1 + 1) := e3
    have e4' : d__law_draw [scr ns, ctrD, .int 2] (k + 1 + 1 + 1) = some (.int (turn : Int), k + 1 + 1 + 1 + 1) := e4
    simp [lcLoop, e__law_names_1, e1', e2', e3', e4']
    omega
  have tailc : lcLoop [.sh (scr ns), .sh ctrD, .sh (.int (many : Int)), .sh (.str abc), .un, .un, .un, .sh (.int (first : Int)), .sh (.int (size : Int)), .sh (.int (place : Int)), .sh (.int (turn : Int)), .un, .un, .un] (gSet 13) tAll e__law_names_2 ((List.range size).map fun (i : Nat) => PyData.int (i : Int)) (k + 4) = some ((List.range size).map fun j => .str (sOf [97 + (first + 5 * j) % 26]), k + 4) :=
    lc_of _ _ fun j hj => ⟨[.sh (scr ns), .sh ctrD, .sh (.int (many : Int)), .sh (.str abc), .un, .un, .un, .sh (.int (first : Int)), .sh (.int (size : Int)), .sh (.int (place : Int)), .sh (.int (turn : Int)), .un, .un, .sh (.int (j : Int))], rfl, by
      have i1 : gIx (.str abc) (.int (((first : Int) + 5 * (j : Int)) % 26)) = some (.str (sOf [97 + (first + 5 * j) % 26])) := gIxS (Nat.mod_lt _ (by decide)) (by omega)
      exact evB rfl (evB (evB rfl (evB rfl rfl rfl) rfl) rfl rfl) i1⟩
  obtain ⟨d6, d11, hloop⟩ := names_loop (cs := cs) (many := many) (turn := turn) (first := first) (place := place) (by omega) (by omega) hm (scr ns) ctrD (.int (size : Int)) .un .un (k + 4) many 0 [] .un .un (by omega) rfl
  have hr : (List.range' 0 many).map (fun j => PyData.str (sOf (nameC cs many turn first place j))) = xs.map .str := by
    simp [xs, List.range_eq_range', Function.comp_def]
  rw [List.nil_append, hr, ← List.range_eq_range'] at hloop
  have hcj : (List.range size).map (fun j => PyData.str (sOf [97 + (first + 5 * j) % 26])) = (cs.map fun c => PyData.str (sOf [c])) := by simp [cs, Function.comp_def]
  rw [hcj] at tailc
  have hjs := signs_ss cs
  have hjj := signs_join cs
  have hsum : ((cs.map fun c => sOf [c]).map (·.length)).sum = cs.length := by
    clear hjs hjj hcj tailc hloop hca hcl hxs hnd hr
    generalize cs = l
    induction l with
    | nil => rfl
    | cons c l ih =>
      rw [List.map_cons, List.map_cons, List.sum_cons, ih, sOf_len]
      simp
      omega
  have z1 : (size : Int) ≤ 1000000 := by omega
  have z2 : size ≤ 1000000 := by omega
  have z3 : (many : Int) ≤ 1000000 := by omega
  have ht' : turn = 0 ∨ turn = 1 := by omega
  refine ⟨if turn = 0 then xs else xs.reverse, ?_, ?_, ?_, ?_⟩
  · have gr1 : gRange1 [.int (size : Int)] = some ((List.range size).map fun (i : Nat) => PyData.int (i : Int)) := by simp [z1]
    have gr2 : gRange1 [.int (many : Int)] = some ((List.range many).map fun (i : Nat) => PyData.int (i : Int)) := by simp [z3]
    have gj : gJoin (.str ("" : Str)) [.list (cs.map fun c => .str (sOf [c]))] = some (.str (sOf cs)) := by
      have e0 : ("" : Str) = Str.empty := rfl
      rw [e0]
      simp only [gJoin, hjs, Option.bind_some, hsum, hjj]
      rw [if_pos]
      rw [show Str.empty.length = 0 from rfl]
      omega
    have gst : ∃ es, lStep (dVarO 5) (dB gSub (dC (.int 1)) (dB gMul (dC (.int 2)) (dVarO 10))) [.sh (scr ns), .sh ctrD, .sh (.int (many : Int)), .sh (.str abc), .sh (.str (sOf cs)), .ow (xs.map .str), d6, .sh (.int (first : Int)), .sh (.int (size : Int)), .sh (.int (place : Int)), .sh (.int (turn : Int)), d11, .un, .un] (k + 4) = some (es, k + 4) ∧ es = (if turn = 0 then xs else xs.reverse).map .str := by
      rcases ht' with rfl | rfl
      · exact ⟨_, rfl, rfl⟩
      · exact ⟨_, rfl, by simp⟩
    obtain ⟨es, gst, ees⟩ := gst
    rw [← ees]
    refine fnRL rfl (stS (stA rfl) (stS (stG (evL (evLc (evI (evN (evA rfl (evA rfl (evA rfl (evA rfl evA0)))) rfl) rfl) (by simp) draws)) rfl) (stS (stA (evM rfl (evA (evL (evLc (evNL (evA rfl evA0) gr1) (by simp; omega) tailc)) evA0) gj)) (stS (stL rfl) (stS (stF (evNL (evA rfl evA0) gr2) hloop) (stRL gst))))))
  · split <;> simp [xs]
  · split
    · exact hnd
    · exact List.pairwise_reverse.mpr (hnd.imp fun h => h.symm)
  · intro x hx
    split at hx
    · exact hxs x hx
    · exact hxs x (List.mem_reverse.mp hx)
/-! ### rows and rings -/
theorem rows_ins (ns : List Int) (hl : ns.length ≤ 63) (a2 : Dt) (c5 c6 c7 : Cell) : ∀ (xs : List Str) (acc : Ln) (c4 : Cell) (k : Int), 0 ≤ k → k + 2 * (xs.length : Int) < 1000000 → acc.length + xs.length ≤ 1000 →
    ∃ (out : Ln) (d4 : Cell), forLoop (gSet 4) b__law_rows_1 (xs.map .str) [.sh (scr ns), .sh ctrD, .sh a2, .ow (acc.map pD), c4, c5, c6, c7] k = some (.next [.sh (scr ns), .sh ctrD, .sh a2, .ow (out.map pD), d4, c5, c6, c7] (k + 2 * (xs.length : Int))) ∧ (out.map (·.1)).Perm (acc.map (·.1) ++ xs)
  | [], acc, c4, k, _, _, _ => ⟨acc, c4, by simp [forLoop], by simp⟩
  | x :: xs, acc, c4, k, h0, h1, h2 => by
    simp only [List.length_cons] at h1 h2
    obtain ⟨j, hj, e1⟩ := draw_N ns hl k (acc.length + 1) h0 (by omega) (by omega)
    obtain ⟨w, hw, e2⟩ := draw_N ns hl (k + 1) 2 (by omega) (by omega) (by decide)
    let p : Pc := (x, decide (w = 0))
    have hp : PyData.tuple [.str x, .int (1 - 2 * (w : Int))] = pD p := by
      have : w = 0 ∨ w = 1 := by omega
      rcases this with rfl | rfl <;> simp [p, pD, wy]
    have e1' : d__law_draw [scr ns, ctrD, .int ((acc.length : Int) + 1)] k = some (.int (j : Int), k + 1) := by
      have : ((acc.length : Int) + 1) = ((acc.length + 1 : Nat) : Int) := by omega
      rw [this]
      exact e1
    have gi : gInsert (acc.map pD) [.int (j : Int), pD p] = some (((acc.take j ++ p :: acc.drop j)).map pD) := by
      have ha : acc.length < 1000000 := by omega
      have hj2 : (j : Int) ≤ 1000000 := by omega
      simp [ha, hj2, List.map_take, List.map_drop]
    have gl : gLen [.list (acc.map pD)] = some (.int (acc.length : Int)) := by
      have ha : acc.length ≤ 1000000 := by omega
      simp [ha]
    have step : b__law_rows_1 [.sh (scr ns), .sh ctrD, .sh a2, .ow (acc.map pD), .sh (.str x), c5, c6, c7] k = some (.next [.sh (scr ns), .sh ctrD, .sh a2, .ow ((acc.take j ++ p :: acc.drop j).map pD), .sh (.str x), c5, c6, c7] (k + 1 + 1)) := by
      rw [← hp] at gi
      exact stM (evA (evC (evA rfl (evA rfl (evA (evB (evN (evA rfl evA0) gl) rfl rfl) evA0))) e1') (evA (evN (evA rfl (evA (evB rfl (evB rfl (evC (evA rfl (evA rfl (evA rfl evA0))) e2) rfl) rfl) evA0)) rfl) evA0)) rfl gi
    have hlen : (acc.take j ++ p :: acc.drop j).length = acc.length + 1 := by
      simp only [List.length_append, List.length_cons, List.length_take, List.length_drop]
      omega
    obtain ⟨out, d4, hr, pr⟩ := rows_ins ns hl a2 c5 c6 c7 xs (acc.take j ++ p :: acc.drop j) (.sh (.str x)) (k + 1 + 1) (by omega) (by omega) (by rw [hlen]; omega)
    refine ⟨out, d4, ?_, ?_⟩
    · rw [List.map_cons]
      have e : k + 1 + 1 + 2 * (xs.length : Int) = k + 2 * ((xs.length + 1 : Nat) : Int) := by omega
      rw [e] at hr
      exact forStep rfl step hr
    · refine pr.trans ?_
      have : ((acc.take j ++ p :: acc.drop j).map (·.1)).Perm (x :: acc.map (·.1)) := by
        have q : (acc.take j ++ p :: acc.drop j).Perm (p :: acc) := by
          have := List.perm_middle (l₁ := acc.take j) (a := p) (l₂ := acc.drop j)
          rwa [List.take_append_drop] at this
        simpa using q.map (·.1)
      refine (this.append_right xs).trans ?_
      simpa using List.perm_middle.symm
theorem ne_nil (o : Ln) (h : ∀ p ∈ o, IsName p.1) : gNe (.list (o.map pD)) (.list []) = some (.bool (!o.isEmpty)) := by
  have ho : okD (.list (o.map pD)) = true := lnL_ok h
  cases o with
  | nil => simp
  | cons p o => simp at ho ⊢; exact ho
theorem cut_take (o : Ln) (j : Nat) : gSlE (.list (o.map pD)) none (some (j : Int)) = some (lnL (o.take j)) := by simp [lnL, cut_to, List.map_take]
theorem cut_drop (o : Ln) (j : Nat) : gSlE (.list (o.map pD)) (some (j : Int)) none = some (lnL (o.drop j)) := by simp [lnL, cut_from, List.map_drop]
theorem two_loop (ns : List Int) (hl : ns.length ≤ 63) (a2 : Dt) (a4 : Cell) (long : Nat) (hlong : 0 < long) (c6 : Cell) : ∀ (n : Nat) (o : Ln) (rows rings : List Ln) (c3 c7 : Cell) (k : Int), (c3 = .ow (o.map pD) ∨ c3 = .sh (lnL o)) → (∀ p ∈ o, IsName p.1) → o.length < n → 0 ≤ k → k + 2 * (o.length : Int) < 1000000 → rows.length + rings.length + o.length ≤ 1000 →
    ∃ (rows' rings' : List Ln) (k' : Int), twoLoop 7 3 t__law_rows_2 e__law_rows_3 e__law_rows_4 e__law_rows_5 e__law_rows_6 n [.sh (scr ns), .sh ctrD, .sh a2, c3, a4, .sh (.int (long : Int)), c6, c7] k (rows.map lnL) (rings.map lnL) = some (rows'.map lnL, rings'.map lnL, k') ∧
      (rows' ++ rings').flatten.Perm ((rows ++ rings).flatten ++ o) ∧ (∀ l ∈ rows' ++ rings', l ∈ rows ++ rings ∨ l ≠ []) ∧ k ≤ k' ∧ k' ≤ k + 2 * (o.length : Int) ∧ rows'.length + rings'.length ≤ rows.length + rings.length + o.length
  | 0, o, _, _, _, _, _, _, _, h, _, _, _ => absurd h (by omega)
  | n + 1, o, rows, rings, c3, c7, k, hc, hn, h1, h2, h3, h4 => by
    have v3 : dVarO 3 [.sh (scr ns), .sh ctrD, .sh a2, c3, a4, .sh (.int (long : Int)), c6, c7] k = some (.list (o.map pD), k) := by rcases hc with rfl | rfl <;> rfl
    have ht : t__law_rows_2 [.sh (scr ns), .sh ctrD, .sh a2, c3, a4, .sh (.int (long : Int)), c6, c7] k = some (!o.isEmpty, k) := evV (evB v3 (evL (evNL evA0 rfl)) (ne_nil o hn))
    by_cases ho : o = []
    · subst ho
      refine ⟨rows, rings, k, ?_, by simp, fun l hl => .inl hl, by omega, by simp, by simp⟩
      rw [twoLoop, ht]
      rfl
    · have hpos : 0 < o.length := List.length_pos_iff.mpr ho
      obtain ⟨d, hd, e1⟩ := draw_N ns hl k long h2 (by omega) hlong
      obtain ⟨s, hs, e2⟩ := draw_N ns hl (k + 1) 3 (by omega) (by omega) (by decide)
      have hm : e__law_rows_3 [.sh (scr ns), .sh ctrD, .sh a2, c3, a4, .sh (.int (long : Int)), c6, c7] k = some (.int ((1 + d : Nat) : Int), k + 1) := by
        have : ((1 + d : Nat) : Int) = 1 + (d : Int) := by omega
        rw [this]
        exact evB rfl (evC (evA rfl (evA rfl (evA rfl evA0))) e1) rfl
      have hi : ∀ c7', e__law_rows_4 [.sh (scr ns), .sh ctrD, .sh a2, c3, a4, .sh (.int (long : Int)), c6, c7'] (k + 1) = some (.int (if s = 0 then 1 else 0), k + 1 + 1) := fun c7' => by
        have ge : gEq (.int (s : Int)) (.int 0) = some (.bool (decide (s = 0))) := by
          simp
          by_cases z : s = 0 <;> simp [z]
        have gi : gInt [.bool (decide (s = 0))] = some (.int (if s = 0 then 1 else 0)) := by
          by_cases z : s = 0 <;> simp [z]
        exact evN (evA (evB (evC (evA rfl (evA rfl (evA rfl evA0))) e2) rfl ge) evA0) gi
      have v3' : ∀ k', dVarO 3 [.sh (scr ns), .sh ctrD, .sh a2, c3, a4, .sh (.int (long : Int)), c6, .sh (.int ((1 + d : Nat) : Int))] k' = some (.list (o.map pD), k') := fun k' => by rcases hc with rfl | rfl <;> rfl
      have ha : e__law_rows_5 [.sh (scr ns), .sh ctrD, .sh a2, c3, a4, .sh (.int (long : Int)), c6, .sh (.int ((1 + d : Nat) : Int))] (k + 1 + 1) = some (lnL (o.take (1 + d)), k + 1 + 1) := evSl (v3' _) evP0 (evP rfl) (cut_take o (1 + d))
      have hb : e__law_rows_6 [.sh (scr ns), .sh ctrD, .sh a2, c3, a4, .sh (.int (long : Int)), c6, .sh (.int ((1 + d : Nat) : Int))] (k + 1 + 1) = some (lnL (o.drop (1 + d)), k + 1 + 1) := evSl (v3' _) (evP rfl) evP0 (cut_drop o (1 + d))
      have hne : (!o.isEmpty) = true := by simpa using ho
      rw [hne] at ht
      have hl1 : rows.length < 1000000 ∧ rings.length < 1000000 := by omega
      have hdl : (o.drop (1 + d)).length + 1 ≤ o.length := by
        rw [List.length_drop]
        omega
      have tne : o.take (1 + d) ≠ [] := fun z => by
        have := congrArg List.length z
        rw [List.length_take, List.length_nil] at this
        omega
      have hn' : ∀ p ∈ o.drop (1 + d), IsName p.1 := fun p hp => hn p (List.mem_of_mem_drop hp)
      by_cases hz : s = 0
      · have unfolds : twoLoop 7 3 t__law_rows_2 e__law_rows_3 e__law_rows_4 e__law_rows_5 e__law_rows_6 (n + 1) [.sh (scr ns), .sh ctrD, .sh a2, c3, a4, .sh (.int (long : Int)), c6, c7] k (rows.map lnL) (rings.map lnL) =
            twoLoop 7 3 t__law_rows_2 e__law_rows_3 e__law_rows_4 e__law_rows_5 e__law_rows_6 n [.sh (scr ns), .sh ctrD, .sh a2, .sh (lnL (o.drop (1 + d))), a4, .sh (.int (long : Int)), c6, .sh (.int ((1 + d : Nat) : Int))] (k + 1 + 1) (rows.map lnL) (rings.map lnL ++ [lnL (o.take (1 + d))]) := by
          simp only [if_pos hz] at hi
          rw [twoLoop, ht]
          simp only [Option.bind_some, if_true, hm, List.set_cons_succ, List.set_cons_zero, hi, ha, hb, List.length_map, hl1, and_self]
        rw [unfolds]
        obtain ⟨rows', rings', k', q1, q2, q3, q4, q5, q6⟩ := two_loop ns hl a2 a4 long hlong c6 n (o.drop (1 + d)) rows (rings ++ [o.take (1 + d)]) (.sh (lnL (o.drop (1 + d)))) (.sh (.int ((1 + d : Nat) : Int))) (k + 1 + 1) (.inr rfl) hn' (by omega) (by omega) (by omega) (by rw [List.length_append, List.length_singleton]; omega)
        rw [List.map_append] at q1
        refine ⟨rows', rings', k', q1, ?_, ?_, by omega, by omega, ?_⟩
        · refine q2.trans ?_
          have : (rows ++ (rings ++ [o.take (1 + d)])).flatten ++ o.drop (1 + d) = (rows ++ rings).flatten ++ o := by
            rw [← List.append_assoc, List.flatten_append, List.append_assoc]
            simp
          rw [this]
        · intro l hl
          rcases q3 l hl with h | h
          · rw [← List.append_assoc, List.mem_append] at h
            rcases h with h | h
            · exact .inl h
            · rw [List.mem_singleton.mp h]
              exact .inr tne
          · exact .inr h
        · rw [List.length_append, List.length_singleton] at q6
          omega
      · have unfolds : twoLoop 7 3 t__law_rows_2 e__law_rows_3 e__law_rows_4 e__law_rows_5 e__law_rows_6 (n + 1) [.sh (scr ns), .sh ctrD, .sh a2, c3, a4, .sh (.int (long : Int)), c6, c7] k (rows.map lnL) (rings.map lnL) =
            twoLoop 7 3 t__law_rows_2 e__law_rows_3 e__law_rows_4 e__law_rows_5 e__law_rows_6 n [.sh (scr ns), .sh ctrD, .sh a2, .sh (lnL (o.drop (1 + d))), a4, .sh (.int (long : Int)), c6, .sh (.int ((1 + d : Nat) : Int))] (k + 1 + 1) (rows.map lnL ++ [lnL (o.take (1 + d))]) (rings.map lnL) := by
          simp only [if_neg hz] at hi
          rw [twoLoop, ht]
          simp only [Option.bind_some, if_true, hm, List.set_cons_succ, List.set_cons_zero, hi, ha, hb, List.length_map, hl1, and_self]
        rw [unfolds]
        obtain ⟨rows', rings', k', q1, q2, q3, q4, q5, q6⟩ := two_loop ns hl a2 a4 long hlong c6 n (o.drop (1 + d)) (rows ++ [o.take (1 + d)]) rings (.sh (lnL (o.drop (1 + d)))) (.sh (.int ((1 + d : Nat) : Int))) (k + 1 + 1) (.inr rfl) hn' (by omega) (by omega) (by omega) (by rw [List.length_append, List.length_singleton]; omega)
        rw [List.map_append] at q1
        refine ⟨rows', rings', k', q1, ?_, ?_, by omega, by omega, ?_⟩
        · refine q2.trans ?_
          rw [List.flatten_append, List.flatten_append, List.flatten_append]
          have e3 : (List.flatten [o.take (1 + d)]) = o.take (1 + d) := by simp
          rw [e3]
          have p1 : (rows.flatten ++ o.take (1 + d) ++ rings.flatten ++ o.drop (1 + d)).Perm (rows.flatten ++ rings.flatten ++ (o.take (1 + d) ++ o.drop (1 + d))) := by
            rw [List.append_assoc, List.append_assoc, List.append_assoc]
            refine List.Perm.append_left _ ?_
            rw [← List.append_assoc, ← List.append_assoc]
            exact List.Perm.append_right _ List.perm_append_comm
          rwa [List.take_append_drop] at p1
        · intro l hl
          rcases q3 l hl with h | h
          · rw [List.append_assoc, List.mem_append, List.mem_append] at h
            rcases h with h | h | h
            · exact .inl (List.mem_append_left _ h)
            · rw [List.mem_singleton.mp h]
              exact .inr tne
            · exact .inl (List.mem_append_right _ h)
          · exact .inr h
        · rw [List.length_append, List.length_singleton] at q6
          omega
/-- rows and rings of pieces whose names, all together, are some names -/
structure Drawn (xs : List Str) (rows rings : List Ln) : Prop where
  nm : ((rows ++ rings).flatten.map (·.1)).Perm xs
  ne : ∀ l ∈ rows ++ rings, l ≠ []
  few : rows.length + rings.length ≤ xs.length
theorem rows_eq (ns : List Int) (hl : ns.length ≤ 63) (xs : List Str) (hx : ∀ x ∈ xs, IsName x) (h100 : xs.length ≤ 100) (k : Int) (h0 : 0 ≤ k) (h1 : k + 1000 < 1000000) :
    ∃ (rows rings : List Ln) (k' : Int), d__law_rows [scr ns, ctrD, .list (xs.map .str)] k = some (.list [.list (rows.map lnL), .list (rings.map lnL)], k') ∧ Drawn xs rows rings ∧ k ≤ k' ∧ k' ≤ k + 401 := by
  obtain ⟨out, d4, e1, p1⟩ := rows_ins ns hl (.list (xs.map .str)) .un .un .un xs [] .un k h0 (by omega) (by simp; omega)
  obtain ⟨w, hw, e2⟩ := draw_N ns hl (k + 2 * (xs.length : Int)) 4 (by omega) (by omega) (by decide)
  have hlo : ∃ long : Nat, 0 < long ∧ gIx (.list [.int 1, .int 3, .int 8, .int 60]) (.int (w : Int)) = some (.int (long : Int)) := by
    have : w = 0 ∨ w = 1 ∨ w = 2 ∨ w = 3 := by omega
    rcases this with rfl | rfl | rfl | rfl
    · exact ⟨1, by decide, rfl⟩
    · exact ⟨3, by decide, rfl⟩
    · exact ⟨8, by decide, rfl⟩
    · exact ⟨60, by decide, rfl⟩
  obtain ⟨long, hlong, e3⟩ := hlo
  have p2 : (out.map (·.1)).Perm xs := by simpa using p1
  have hlen : out.length = xs.length := by
    have := p2.length_eq
    simpa using this
  have hon : ∀ p ∈ out, IsName p.1 := fun p hp => hx _ (p2.mem_iff.mp (List.mem_map.mpr ⟨p, hp, rfl⟩))
  -- slot 4 holds the last name, or nothing yet
  have d4c : ∃ c4 : Cell, c4 = d4 := ⟨d4, rfl⟩
  obtain ⟨rows, rings, k', q1, q2, q3, q4, q5, q6⟩ := two_loop ns hl (.list (xs.map .str)) d4 long hlong .un 10000 out [] [] (.ow (out.map pD)) .un (k + 2 * (xs.length : Int) + 1) (.inl rfl) hon (by omega) (by omega) (by omega) (by simp; omega)
  have hrun : b__law_rows (startE 8 [scr ns, ctrD, .list (xs.map .str)]) k = some (.retL [.list (rows.map lnL), .list (rings.map lnL)] k') := by
    refine stS (stL rfl) (stS (stF (evI rfl rfl) e1) (stS (stA (evB (evL (evNL (evA rfl (evA rfl (evA rfl (evA rfl evA0)))) rfl)) (evC (evA rfl (evA rfl (evA rfl evA0))) e2) e3)) ?_))
    have q1' : twoLoop 7 3 t__law_rows_2 e__law_rows_3 e__law_rows_4 e__law_rows_5 e__law_rows_6 10000 [.sh (scr ns), .sh ctrD, .sh (.list (xs.map .str)), .ow (out.map pD), d4, .sh (.int (long : Int)), .un, .un] (k + 2 * (xs.length : Int) + 1) [] [] = some (rows.map lnL, rings.map lnL, k') := q1
    simp [q1']
  refine ⟨rows, rings, k', fnRO rfl hrun, ⟨?_, fun l h => (q3 l h).elim (fun z => by simp at z) id, ?_⟩, by omega, by omega⟩
  · have := q2.map (·.1)
    simp only [List.append_nil, List.flatten_nil, List.nil_append] at this
    exact this.trans p2
  · simp at q6
    omega
end Mx

set_option Elab.async false
set_option linter.all false
set_option maxRecDepth 100000
set_option maxHeartbeats 1000000
/-! texts of lines and yards: written, and read back -/
namespace Mx
open PySem PySem.Spec PyProof.Rows L2 Evl Dn Cm
open PySem.W (alike alikeAll keyToks dataLt minD TotalLe)

theorem map_tl_sOf : ∀ l : List (List Nat), (l.map sOf).map TL.tl = l
  | [] => rfl
  | x :: l => congrArg (fun z => x :: z) (map_tl_sOf l)
theorem join_sOf (a : List Nat) (ys : List (List Nat)) : Txt.join (sOf a) (ys.map sOf) = sOf (TL.joinL a ys) := by
  have e := TL.tl_join (sOf a) (ys.map sOf)
  rw [map_tl_sOf] at e
  exact TL.ext_tl ((congrArg TL.tl (TL.join_eq (sOf a) (ys.map sOf))).trans e)
theorem split_sOf {a b : List Nat} (hb : b ≠ []) (hk : b.all (· < 256) = true) : Txt.split (sOf a) (sOf b) = (TL.spl b 0 [] a).map sOf := by
  refine TL.map_tl_inj ?_
  rw [map_tl_sOf]
  refine TL.split_spl (sOf a) (sOf b) hb (TL.kind_ok ?_)
  rw [← Array.all_toList]
  exact hk
theorem gJoin_map (a : Str) (ys : List Str) (h : (ys.map (·.length)).sum + ys.length * a.length ≤ 16777216) : gJoin (.str a) [.list (ys.map .str)] = some (.str (Txt.join a ys)) := by
  show (asSs (ys.map .str)).bind (fun ys => if (ys.map (·.length)).sum + ys.length * a.length ≤ 16777216 then some (PyData.str (Txt.join a ys)) else none) = _
  rw [asSs_map, Option.bind_some, if_pos h]
theorem starts_sOf (a : List Nat) (c : Nat) : Txt.startswith (sOf a) (sOf [c]) = (a.head? == some c) := by
  unfold Txt.startswith
  rw [StrLaws.subAt_eq, sOf_len, sOf_len, sOf_cps, sOf_cps]
  cases a with
  | nil => rfl
  | cons x a => simp
theorem ends_sOf (a : List Nat) (x c : Nat) : Txt.endswith (sOf (a ++ [x])) (sOf [c]) = (x == c) := by
  unfold Txt.endswith
  rw [StrLaws.subAt_eq, sOf_len, sOf_len, sOf_cps, sOf_cps]
  simp
/-! ### words, lines, parts -/
def wT (p : Pc) : List Nat := if p.2 = true then p.1.cps.toList else 45 :: p.1.cps.toList
def tL (l : Ln) : List Nat := TL.joinL [32] (l.map wT)
def tR (l : Ln) : List Nat := 40 :: tL l ++ [41]
def tYd (y : Yd) : List Nat := TL.joinL [44, 32] (y.1.map tL ++ y.2.map tR)
theorem IsName.len {x : Str} (h : IsName x) : x.cps.toList.length ≤ 8 := h.hi
theorem wT_len {p : Pc} (h : IsName p.1) : (wT p).length ≤ 9 ∧ 1 ≤ (wT p).length := by
  have h1 := h.len
  have h2 : 1 ≤ p.1.cps.toList.length := h.lo
  unfold wT
  split
  · omega
  · rw [List.length_cons]
    omega
theorem joinL_len (S : List Nat) : ∀ ps : List (List Nat), (TL.joinL S ps).length ≤ (ps.map fun p => p.length + S.length).sum
  | [] => Nat.zero_le _
  | [p] => by simp [TL.joinL]
  | p :: q :: r => by
    have := joinL_len S (q :: r)
    rw [TL.joinL, List.map_cons, List.sum_cons, List.length_append, List.length_append]
    omega
theorem sum_le {α : Type} (f : α → Nat) (c : Nat) : ∀ xs : List α, (∀ x ∈ xs, f x ≤ c) → (xs.map f).sum ≤ c * xs.length
  | [], _ => Nat.zero_le _
  | x :: xs, h => by
    have := sum_le f c xs fun y hy => h y (List.mem_cons_of_mem _ hy)
    have := h x List.mem_cons_self
    rw [List.map_cons, List.sum_cons, List.length_cons, Nat.mul_add]
    omega
theorem tL_len {l : Ln} (h : ∀ p ∈ l, IsName p.1) : (tL l).length ≤ 10 * l.length := by
  refine Nat.le_trans (joinL_len _ _) ?_
  rw [List.map_map]
  refine sum_le _ _ _ fun p hp => ?_
  have := (wT_len (h p hp)).1
  show (wT p).length + 1 ≤ 10
  omega
/-- signs of a word: letters or the minus -/
def wSign (c : Nat) : Bool := letter c || c == 45
theorem wT_sign {p : Pc} (h : IsName p.1) : ∀ c ∈ wT p, wSign c = true := fun c hc => by
  have hl := List.all_eq_true.mp h.lt
  unfold wT at hc
  unfold wSign
  split at hc
  · rw [hl c hc]
    rfl
  · rcases List.mem_cons.mp hc with rfl | hc
    · rfl
    · rw [hl c hc]
      rfl
theorem joinL_mem {S : List Nat} {c : Nat} : ∀ {ps : List (List Nat)}, c ∈ TL.joinL S ps → c ∈ S ∨ ∃ p ∈ ps, c ∈ p
  | [], h => by simp [TL.joinL] at h
  | [p], h => .inr ⟨p, List.mem_cons_self, h⟩
  | p :: q :: r, h => by
    rw [TL.joinL, List.mem_append, List.mem_append] at h
    rcases h with h | h | h
    · exact .inr ⟨p, List.mem_cons_self, h⟩
    · exact .inl h
    · rcases joinL_mem h with h | ⟨u, hu, h⟩
      · exact .inl h
      · exact .inr ⟨u, List.mem_cons_of_mem _ hu, h⟩
theorem tL_sign {l : Ln} (h : ∀ p ∈ l, IsName p.1) : ∀ c ∈ tL l, wSign c = true ∨ c = 32 := fun c hc => by
  rcases joinL_mem hc with hc | ⟨w, hw, hc⟩
  · exact .inr (List.mem_singleton.mp hc)
  · obtain ⟨p, hp, rfl⟩ := List.mem_map.mp hw
    exact .inl (wT_sign (h p hp) c hc)
theorem piece_text_D (p : Pc) (h : IsName p.1) (k : Int) : d__piece_text [pD p] k = some (.str (sOf (wT p)), k) := by
  obtain ⟨x, b⟩ := p
  have hl : x.length ≤ 1000000 := Nat.le_trans h.hi (by decide)
  have hl' : x.length + 1 ≤ 1000000 := Nat.le_trans (Nat.add_le_add_right h.hi 1) (by decide)
  cases b with
  | true =>
    have e : sOf (wT (x, true)) = x := sOf_of x
    rw [e]
    exact fnR rfl (stS (stG rfl rfl) (stR (evIfT (by simp [wy]) rfl)))
  | false =>
    have e : sOf (wT (x, false)) = (Str.empty ++ sOf [45]) ++ x := by
      have e1 : Str.empty = sOf [] := rfl
      rw [e1, sOf_app]
      conv => rhs; rw [← sOf_of x]
      rw [sOf_app]
      rfl
    rw [e]
    have e3 : ("-" : Str) = sOf [45] := rfl
    have e2 : ((Str.empty ++ sOf [45]) ++ x).length ≤ 1000000 := by
      rw [← e, sOf_len]
      exact Nat.le_trans (wT_len h).1 (by decide)
    exact fnR rfl (stS (stG rfl rfl) (stR (evIfF (k1 := k) (by simp [wy]) (by simp [hl, e2, e3]))))
theorem join_words {l : Ln} (h : LnOk l) : gJoin (.str (sOf [32])) [.list (l.map fun p => .str (sOf (wT p)))] = some (.str (sOf (tL l))) := by
  have e : (l.map fun p => PyData.str (sOf (wT p))) = ((l.map wT).map sOf).map .str := by simp
  have hs : (((l.map wT).map sOf).map (·.length)).sum ≤ 9 * l.length := by
    rw [List.map_map, List.map_map]
    exact sum_le _ _ _ fun p hp => by
      show (sOf (wT p)).length ≤ 9
      rw [sOf_len]
      exact (wT_len (h.nm p hp)).1
  have hf := h.few
  have h3 : (((l.map wT).map sOf).map (·.length)).sum + ((l.map wT).map sOf).length * (sOf [32]).length ≤ 16777216 := by
    rw [List.length_map, List.length_map, sOf_len]
    simp only [List.length_singleton, Nat.mul_one]
    omega
  rw [e, gJoin_map _ _ h3, join_sOf]
  rfl
theorem line_text_D {d : Dt} {l : Ln} (hd : SeqOf d (l.map pD)) (h : LnOk l) (k : Int) : d__line_text [d] k = some (.str (sOf (tL l)), k) := by
  have hl : (l.map pD).length ≤ 1000000 := by rw [List.length_map]; exact Nat.le_trans h.few (by decide)
  have c : lcLoop (wipeE [.sh d, .un] [1]) (gSet 1) tAll e__line_text_1 (l.map pD) k = some (l.map (fun p => .str (sOf (wT p))), k) :=
    lc_of pD _ fun p hp => ⟨_, rfl, evC (evA rfl evA0) (piece_text_D p (h.nm p hp) k)⟩
  exact fnR rfl (stR (evM rfl (evA (evL (evLc (evI rfl hd.items) hl c)) evA0) (join_words h)))
theorem fstr3 {a : List Nat} (h : a.length ≤ 100000) {g : DE} {ρ : Ev} {k : Int} (hg : g ρ k = some (.str (sOf a), k)) : dFstr (aCons (dC (.str ("(" : Str))) (aCons (dU gFmt g) (aCons (dC (.str (")" : Str))) aNil))) ρ k = some (.str (sOf (40 :: a ++ [41])), k) := by
  have h1 : (sOf a).length ≤ 1000000 := by rw [sOf_len]; omega
  have e : ((Str.empty ++ ("(" : Str)) ++ sOf a) ++ (")" : Str) = sOf (40 :: a ++ [41]) := by
    have e1 : Str.empty = sOf [] := rfl
    have e2 : ("(" : Str) = sOf [40] := rfl
    have e3 : (")" : Str) = sOf [41] := rfl
    rw [e1, e2, e3, sOf_app, sOf_app, sOf_app]
    rfl
  have h2 : (sOf (40 :: a ++ [41])).length ≤ 1000000 := by
    rw [sOf_len, List.length_append, List.length_cons, List.length_singleton]
    omega
  have hargs : aCons (dC (.str ("(" : Str))) (aCons (dU gFmt g) (aCons (dC (.str (")" : Str))) aNil)) ρ k = some ([.str ("(" : Str), .str (sOf a), .str (")" : Str)], k) := evA rfl (evA (evU hg (if_pos h1)) (evA rfl evA0))
  unfold dFstr
  rw [hargs, Option.bind_some]
  show (some [("(" : Str), sOf a, (")" : Str)]).bind _ = _
  rw [Option.bind_some]
  show (if ((((Str.empty ++ ("(" : Str)) ++ sOf a) ++ (")" : Str)) : Str).length ≤ 1000000 then some (PyData.str (((Str.empty ++ ("(" : Str)) ++ sOf a) ++ (")" : Str)), k) else none) = _
  rw [e, if_pos h2]
/-- how much text the parts of a yard can have -/
theorem join_parts {ps : List (List Nat)} (h : ∀ p ∈ ps, p.length ≤ 20000) (hn : ps.length ≤ 800) : gJoin (.str (sOf [44, 32])) [.list ((ps.map sOf).map .str)] = some (.str (sOf (TL.joinL [44, 32] ps))) := by
  have h3 : (((ps.map sOf)).map (·.length)).sum + (ps.map sOf).length * (sOf [44, 32]).length ≤ 16777216 := by
    have hs : ((ps.map sOf).map (·.length)).sum ≤ 20000 * ps.length := by
      rw [List.map_map]
      exact sum_le _ _ _ fun p hp => by
        show (sOf p).length ≤ _
        rw [sOf_len]
        exact h p hp
    rw [List.length_map, sOf_len]
    simp only [List.length_cons, List.length_nil]
    omega
  rw [gJoin_map _ _ h3, join_sOf]
structure YOk (y : Yd) : Prop where
  rows : LsOk y.1
  rings : LsOk y.2
  few : y.1.length + y.2.length ≤ 800
theorem LnOk.text {l : Ln} (h : LnOk l) : (tL l).length ≤ 10000 := by
  have := tL_len h.nm
  have := h.few
  omega
theorem parts_few {rows rings : List Ln} (h1 : LsOk rows) (h2 : LsOk rings) : ∀ p ∈ rows.map tL ++ rings.map tR, p.length ≤ 20000 := fun p hp => by
  rcases List.mem_append.mp hp with hp | hp
  · obtain ⟨l, hl, rfl⟩ := List.mem_map.mp hp
    have := (h1.ok l hl).text
    omega
  · obtain ⟨l, hl, rfl⟩ := List.mem_map.mp hp
    have := (h2.ok l hl).text
    unfold tR
    rw [List.length_append, List.length_cons, List.length_singleton]
    omega
theorem written_D {y : Yd} (h : YOk y) (k : Int) : d_written [ydT y] k = some (.str (sOf (tYd y)), k) := by
  have n1 : (y.1.map lnT).length ≤ 1000000 := by rw [List.length_map]; exact Nat.le_trans h.rows.few (by decide)
  have n2 : (y.2.map lnT).length ≤ 1000000 := by rw [List.length_map]; exact Nat.le_trans h.rings.few (by decide)
  have c1 : ∀ c1 c2 c3 c4 c5 c6 : Cell, lcLoop [.sh (ydT y), c1, c2, c3, c4, .un, c6] (gSet 5) tAll e_written_1 (y.1.map lnT) k = some (y.1.map (fun l => .str (sOf (tL l))), k) := fun _ _ _ _ _ _ =>
    lc_of lnT _ fun l hl => ⟨_, rfl, evC (evA rfl evA0) (line_text_D (.tup _) (h.rows.ok l hl) k)⟩
  have c2 : ∀ c1 c2 c3 c4 c5 c6 : Cell, lcLoop [.sh (ydT y), c1, c2, c3, c4, c5, .un] (gSet 6) tAll e_written_2 (y.2.map lnT) k = some (y.2.map (fun l => .str (sOf (tR l))), k) := fun _ _ _ _ _ _ =>
    lc_of lnT _ fun l hl => ⟨_, rfl, fstr3 (Nat.le_trans (h.rings.ok l hl).text (by decide)) (evC (evA rfl evA0) (line_text_D (.tup _) (h.rings.ok l hl) k))⟩
  have hj := join_parts (parts_few h.rows h.rings) (by simp only [List.length_append, List.length_map]; exact h.few)
  have e : (((y.1.map tL ++ y.2.map tR).map sOf).map PyData.str) = (y.1.map fun l => PyData.str (sOf (tL l))) ++ ((y.2.map fun l => PyData.str (sOf (tR l))) ++ []) := by
    rw [List.append_nil, List.map_append, List.map_append, List.map_map, List.map_map, List.map_map, List.map_map]
    rfl
  rw [e] at hj
  refine fnR rfl (stS (stG rfl rfl) (stS (stL (evLc (evI rfl rfl) n1 (c1 _ _ _ _ .un _))) (stS (stL (evLc (evI rfl rfl) n2 (c2 _ _ _ _ _ .un))) (stZ rfl (stZ rfl (stR (evM rfl (evA (evL ?_) evA0) hj)))))))
  refine evNL (k1 := k) (ds := (y.1.map fun l => PyData.str (sOf (tL l))) ++ ((y.2.map fun l => PyData.str (sOf (tR l))) ++ [])) ?_ ?_
  · simp
  · have := h.few
    simp
    omega
end Mx

set_option Elab.async false
set_option linter.all false
set_option maxRecDepth 100000
set_option maxHeartbeats 1000000
/-! what the program asks of rows and rings, when all is well -/
namespace Mx
open PySem PySem.Spec PyProof.Rows L2 Evl Dn Cm
open PySem.W (alike alikeAll keyToks dataLt minD TotalLe)

theorem lt_single (a b : Nat) : ([a] < [b]) ↔ a < b := by
  rw [List.cons_lt_cons_iff]
  simp
theorem a_ok : PyData.strOk ("a" : Str) = true := by decide +kernel
theorem z_ok : PyData.strOk ("z" : Str) = true := by decide +kernel
theorem okS {x : Str} (h : PyData.strOk x = true) : okD (.str x) = true := by simp [okD_eq, h]
theorem map_k {α β : Type} (b : β) : ∀ xs : List α, xs.map (fun _ => b) = List.replicate xs.length b
  | [] => rfl
  | x :: xs => by rw [List.map_cons, map_k b xs]; rfl
theorem evCh {g h : Dt → Dt → Option Dt} {fa fb fc : DE} {ρ : Ev} {x y z d : Dt} {k k1 k2 k3 : Int} (h1 : fa ρ k = some (x, k1)) (h2 : fb ρ k1 = some (y, k2)) (h3 : g x y = some (.bool true)) (h4 : fc ρ k2 = some (z, k3)) (h5 : h y z = some d) : dChain g h fa fb fc ρ k = some (d, k3) := by simp [h1, h2, h3, h4, h5]
theorem evChF {g h : Dt → Dt → Option Dt} {fa fb fc : DE} {ρ : Ev} {x y : Dt} {k k1 k2 : Int} (h1 : fa ρ k = some (x, k1)) (h2 : fb ρ k1 = some (y, k2)) (h3 : g x y = some (.bool false)) : dChain g h fa fb fc ρ k = some (.bool false, k2) := by simp [h1, h2, h3]
theorem chain_letter {c : Nat} (h : letter c = true) (d : Dt) (k : Int) : e_is_name_1 [.sh d, .sh (.str (sOf [c]))] k = some (.bool true, k) := by
  simp only [letter, Bool.and_eq_true, decide_eq_true_eq] at h
  have o1 : okD (.str ("a" : Str)) = true := okS a_ok
  have o3 : okD (.str ("z" : Str)) = true := okS z_ok
  have o2 : okD (.str (sOf [c])) = true := okS (by simp [PyData.strOk, sOf]; omega)
  have z1 : ¬ c < 97 := by omega
  have z2 : ¬ 122 < c := by omega
  have g1 : gLe (.str ("a" : Str)) (.str (sOf [c])) = some (.bool true) := by
    unfold gLe
    rw [if_pos ⟨o1, o2⟩, leD_str, sOf_cps]
    have : (("a" : Str)).cps.toList = [97] := rfl
    rw [this]
    simp [lt_single, z1]
  have g2 : gLe (.str (sOf [c])) (.str ("z" : Str)) = some (.bool true) := by
    unfold gLe
    rw [if_pos ⟨o2, o3⟩, leD_str, sOf_cps]
    have : (("z" : Str)).cps.toList = [122] := rfl
    rw [this]
    simp [lt_single, z2]
  show (dChain gLe gLe (dC (.str ("a" : Str))) (dVarO 1) (dC (.str ("z" : Str)))) _ k = _
  unfold dChain
  show (gLe (.str ("a" : Str)) (.str (sOf [c]))).bind _ = _
  rw [g1]
  show (gLe (.str (sOf [c])) (.str ("z" : Str))).bind _ = _
  rw [g2]
  rfl
theorem allTrue (n : Nat) : gAll [.list (List.replicate n (.bool true))] = some (.bool true) := by
  have e : List.replicate n (PyData.bool true) = (List.replicate n true).map .bool := by simp
  show (asBs (List.replicate n (.bool true))).map (fun bs => PyData.bool (bs.all id)) = _
  rw [e, asBs_map]
  simp
theorem lenS_D {x : Str} (h : x.length ≤ 1000000) : gLen [.str x] = some (.int (x.length : Int)) := if_pos h
theorem is_name_D {x : Str} (h : IsName x) (k : Int) : d_is_name [.str x] k = some (.bool true, k) := by
  have hi := h.hi
  have lo := h.lo
  have hl : (x.cps.toList.map signD).length ≤ 1000000 := by
    rw [List.length_map]
    exact Nat.le_trans h.len (by decide)
  have c : lcLoop (wipeE [.sh (.str x), .un] [1]) (gSet 1) tAll e_is_name_1 (x.cps.toList.map signD) k = some (x.cps.toList.map (fun _ => .bool true), k) :=
    lc_of signD _ fun c hc => ⟨_, rfl, chain_letter (List.all_eq_true.mp h.lt c hc) _ k⟩
  have e : x.cps.toList.map (fun _ => PyData.bool true) = List.replicate x.cps.toList.length (.bool true) := map_k _ _
  rw [e] at c
  have hlen : dChain gLe gLe (dC (.int 1)) (dN gLen (aCons (dVarO 0) aNil)) (dC (.int 8)) [.sh (.str x), .un] k = some (.bool true, k) := by
    have l1 : (1 : Int) ≤ (x.length : Int) := by omega
    have l8 : (x.length : Int) ≤ 8 := by omega
    have lm : x.length ≤ 1000000 := by omega
    exact evCh rfl (evN (evA rfl evA0) (if_pos lm)) (by simp [l1]) rfl (by simp [l8])
  exact fnR rfl (stS (stIF (evOrF (evV rfl) (evNot (evV hlen))) rfl) (stR (evN (evA (evL (evLc (evI rfl rfl) hl c)) evA0) (allTrue _))))
theorem gIn_pm (b : Bool) : gIn (.int (wy b)) (.tuple [.int 1, .int (-1)]) = some (.bool true) := by cases b <;> simp [wy, okD_eq]
theorem is_piece_D {p : Pc} (h : IsName p.1) (k : Int) : d_is_piece [pD p] k = some (.bool true, k) := by
  have l2 : gNe (.int 2) (.int 2) = some (.bool false) := by simp
  have inner : d__is_name_with [pD p, .tuple [.int 1, .int (-1)]] k = some (.bool true, k) :=
    fnR rfl (stS (stIF (evOrF (evV rfl) (evV (evB (evN (evA rfl evA0) rfl) rfl l2))) rfl) (stS (stG rfl rfl) (stR (evvAndT (evC (evA rfl evA0) (is_name_D h k)) (evvAndT rfl (evB rfl rfl (gIn_pm p.2)))))))
  exact fnR rfl (stR (evC (evA rfl (evA rfl evA0)) inner))
theorem all_lists_D {ds : List Dt} (hl : ds.length ≤ 1000000) (h : ∀ d ∈ ds, ∃ es, d = .list es) (k : Int) : d__is_list_of_lists [.list ds] k = some (.bool true, k) := by
  have c : lcLoop (wipeE [.sh (.list ds), .un] [1]) (gSet 1) tAll e__is_list_of_lists_1 (ds.map id) k = some (ds.map (fun _ => .bool true), k) :=
    lc_of id _ fun d hd => by
      obtain ⟨es, rfl⟩ := h d hd
      exact ⟨_, rfl, rfl⟩
  rw [List.map_id] at c
  have e : ds.map (fun _ => PyData.bool true) = List.replicate ds.length (.bool true) := map_k _ _
  rw [e] at c
  exact fnR rfl (stR (evvAndT rfl (evN (evA (evL (evLc (evI rfl rfl) hl c)) evA0) (allTrue _))))
/-! ### names not there twice -/
theorem memS {x : Str} {xs : List Str} : memD (.str x) (xs.map .str) = decide (x ∈ xs) := by
  unfold memD
  rw [List.any_map]
  by_cases h : x ∈ xs
  · rw [decide_eq_true h, List.any_eq_true]
    exact ⟨x, h, by simp⟩
  · rw [decide_eq_false h, List.any_eq_false]
    intro y hy
    simp
    rintro rfl
    exact h hy
theorem need_line {d0 c2 : Cell} : ∀ (l : Ln) (seen : List Str) (c3 c4 c5 : Cell) (k : Int), (∀ p ∈ l, IsName p.1) → (seen ++ l.map (·.1)).Nodup → seen.length + l.length ≤ 4000 →
    ∃ c3' c4' c5', forLoop (gSet 3) b__need_pieces_1 (l.map pD) [d0, .os (seen.map .str), c2, c3, c4, c5] k = some (.next [d0, .os ((seen ++ l.map (·.1)).map .str), c2, c3', c4', c5'] k)
  | [], seen, c3, c4, c5, k, _, _, _ => ⟨c3, c4, c5, by simp [forLoop]⟩
  | p :: l, seen, c3, c4, c5, k, hn, nd, few => by
    rw [List.length_cons] at few
    have hp := hn p List.mem_cons_self
    have hnot : p.1 ∉ seen := fun hm => by
      rw [List.map_cons] at nd
      exact (List.nodup_append.mp nd).2.2 _ hm _ List.mem_cons_self rfl
    have hm : memD (.str p.1) (seen.map .str) = false := by rw [memS, decide_eq_false hnot]
    have nd' : ((seen ++ [p.1]) ++ l.map (·.1)).Nodup := by
      rw [List.append_assoc]
      exact nd
    obtain ⟨c3', c4', c5', ih⟩ := need_line (d0 := d0) (c2 := c2) l (seen ++ [p.1]) (.sh (pD p)) (.sh (.str p.1)) (.sh (.int (wy p.2))) k (fun q hq => hn q (List.mem_cons_of_mem _ hq)) nd' (by rw [List.length_append, List.length_singleton]; omega)
    have e : (seen ++ [p.1]) ++ l.map (·.1) = seen ++ (p :: l).map (·.1) := by rw [List.append_assoc]; rfl
    rw [e] at ih
    refine ⟨c3', c4', c5', forStep (ρ' := [d0, .os (seen.map .str), c2, .sh (pD p), c4, c5]) rfl (ρ2 := [d0, .os ((seen ++ [p.1]).map .str), c2, .sh (pD p), .sh (.str p.1), .sh (.int (wy p.2))]) (k1 := k) ?_ ih⟩
    refine stS (stIF (evNot (evV (evC (evA rfl evA0) (is_piece_D hp k)))) rfl) (stS (stG rfl rfl) (stS (stIF (evV (b := false) (k1 := k) ?_) (o := .next _ k) rfl) ?_))
    · show (some (PyData.bool (if false = true then !memD (.str p.1) (seen.map .str) else memD (.str p.1) (seen.map .str)), k)) = _
      rw [hm]
      rfl
    · have hl : (seen.map PyData.str).length ≤ 4000 := by rw [List.length_map]; omega
      show (if (seen.map PyData.str).length ≤ 4000 then _ else _) = _
      rw [if_pos hl]
      unfold addD
      rw [hm]
      simp
end Mx

set_option Elab.async false
set_option linter.all false
set_option maxRecDepth 100000
set_option maxHeartbeats 1000000
/-! yard_of of good rows and rings; the law's text; read of written parts -/
namespace Mx
open PySem PySem.Spec PyProof.Rows L2 Evl Dn Cm
open PySem.W (alike alikeAll keyToks dataLt minD TotalLe)

section
variable {ρ ρ' : Ev} {k k1 : Int} {d : Dt} {ds : List Dt} {g : DL} {n sl : Nat} {body : DS} {f : DX} {F : Fx} {r : Rx} {c : Str}
theorem fnXV (hn : ds.length = n) (h : body (startE sl ds) k = some (.ret d k1)) : dDefX n sl body ds k = some (.val d k1) := by
  unfold dDefX
  rw [if_pos hn, h]
  rfl
theorem fnXN (hn : ds.length = n) (h : body (startE sl ds) k = some (.next ρ' k1)) : dDefX n sl body ds k = some (.val .none k1) := by
  unfold dDefX
  rw [if_pos hn, h]
  rfl
theorem fnXE (hn : ds.length = n) (h : body (startE sl ds) k = some (.exc c ρ' k1)) : dDefX n sl body ds k = some (.exc c k1) := by
  unfold dDefX
  rw [if_pos hn, h]
  rfl
theorem evX (h1 : g ρ k = some (ds, k1)) (h2 : F ds k1 = some r) : xCall F g ρ k = some r := by
  unfold xCall
  rw [h1]
  exact h2
theorem evCX {k2 : Int} (h1 : g ρ k = some (ds, k1)) (h2 : F ds k1 = some (.val d k2)) : dCallX F g ρ k = some (d, k2) := by
  unfold dCallX
  rw [h1, Option.bind_some, h2]
  rfl
theorem stX (h : f ρ k = some (.val d k1)) : sExprX f ρ k = some (.next ρ k1) := by
  unfold sExprX
  rw [h]
  rfl
theorem stXE (h : f ρ k = some (.exc c k1)) : sExprX f ρ k = some (.exc c ρ k1) := by
  unfold sExprX
  rw [h]
  rfl
end
/-- the names of lines -/
def nms (ls : List Ln) : List Str := ls.flatten.map (·.1)
theorem lines_names : ∀ {ls : List Ln}, (∀ l ∈ ls, l ≠ []) → ls.length ≤ (nms ls).length
  | [], _ => Nat.zero_le _
  | l :: ls, h => by
    have := lines_names (ls := ls) fun r hr => h r (List.mem_cons_of_mem _ hr)
    have hl := List.length_pos_iff.mpr (h l List.mem_cons_self)
    simp only [nms, List.flatten_cons, List.map_append, List.length_append, List.length_map, List.length_cons] at this ⊢
    omega
theorem need_lines {d0 : Cell} : ∀ (ls : List Ln) (seen : List Str) (c2 c3 c4 c5 : Cell) (k : Int), (∀ l ∈ ls, LnOk l ∧ l ≠ []) → (seen ++ nms ls).Nodup → seen.length + (nms ls).length ≤ 4000 →
    ∃ c2' c3' c4' c5', forLoop (gSet 2) b__need_pieces_2 (ls.map lnL) [d0, .os (seen.map .str), c2, c3, c4, c5] k = some (.next [d0, .os ((seen ++ nms ls).map .str), c2', c3', c4', c5'] k)
  | [], seen, c2, c3, c4, c5, k, _, _, _ => ⟨c2, c3, c4, c5, by simp [forLoop, nms]⟩
  | l :: ls, seen, c2, c3, c4, c5, k, hn, nd, few => by
    have en : nms (l :: ls) = l.map (·.1) ++ nms ls := by simp [nms]
    rw [en] at nd few
    rw [List.length_append, List.length_map] at few
    obtain ⟨ok, ne⟩ := hn l List.mem_cons_self
    have nd1 : (seen ++ l.map (·.1)).Nodup := by
      rw [← List.append_assoc] at nd
      exact (List.nodup_append.mp nd).1
    obtain ⟨c3', c4', c5', h1⟩ := need_line (d0 := d0) (c2 := .sh (lnL l)) l seen c3 c4 c5 k ok.nm nd1 (by omega)
    obtain ⟨c2', c3'', c4'', c5'', h2⟩ := need_lines (d0 := d0) ls (seen ++ l.map (·.1)) (.sh (lnL l)) c3' c4' c5' k (fun q hq => hn q (List.mem_cons_of_mem _ hq)) (by rw [List.append_assoc]; exact nd) (by rw [List.length_append, List.length_map]; omega)
    rw [List.append_assoc, ← en] at h2
    refine ⟨c2', c3'', c4'', c5'', forStep (ρ' := [d0, .os (seen.map .str), .sh (lnL l), c3, c4, c5]) rfl (k1 := k) (stS (stIF (k1 := k) (evV (b := false) (evB (evN (evA rfl evA0) (d := .int l.length) ?_) rfl ?_)) (o := .next _ k) rfl) (stF (evI rfl rfl) h1)) h2⟩
    · have := ok.few
      have hl : (l.map pD).length ≤ 1000000 := by rw [List.length_map]; omega
      show gLen [.list (l.map pD)] = _
      refine (if_pos hl).trans ?_
      rw [List.length_map]
    · have : ((l.length : Int) == 0) = false := by
        rw [beq_eq_false_iff_ne]
        have := List.length_pos_iff.mpr ne
        omega
      simp [this]
theorem need_pieces_D {ls : List Ln} (hn : ∀ l ∈ ls, LnOk l ∧ l ≠ []) (nd : (nms ls).Nodup) (few : (nms ls).length ≤ 60) (k : Int) : x__need_pieces [.list (ls.map lnL)] k = some (.val .none k) := by
  obtain ⟨c2, c3, c4, c5, h⟩ := need_lines (d0 := .sh (.list (ls.map lnL))) ls [] .un .un .un .un k hn nd (by simp; omega)
  rw [List.nil_append] at h
  have hg : gGt (.int ((nms ls).map PyData.str).length) (.int 60) = some (.bool false) := by
    rw [List.length_map]
    have : ¬ (60 < ((nms ls).length : Int)) := by omega
    simp [this]
  have hb : b__need_pieces (startE 6 [.list (ls.map lnL)]) k = some (.next [.sh (.list (ls.map lnL)), .os ((nms ls).map .str), c2, c3, c4, c5] k) :=
    stS (ρ' := [.sh (.list (ls.map lnL)), .os [], .un, .un, .un, .un]) rfl (stS (stF (evI rfl rfl) h) (stIF (evV (evB rfl rfl hg)) rfl))
  exact fnXN rfl hb
theorem LsOk.both {rows rings : List Ln} (h1 : LsOk rows) (h2 : LsOk rings) : ∀ l ∈ rows ++ rings, LnOk l ∧ l ≠ [] := fun l hl => by
  rcases List.mem_append.mp hl with h | h
  · exact ⟨h1.ok l h, h1.ne l h⟩
  · exact ⟨h2.ok l h, h2.ne l h⟩
theorem lines_lists (ls : List Ln) : LinesOf (.list (ls.map lnL)) ls := ⟨_, .lst _, Rel2.map (fun l => .lst _) ls⟩
theorem lines_tuples (ls : List Ln) : LinesOf (.tuple (ls.map lnT)) ls := ⟨_, .tup _, Rel2.map (fun l => .tup _) ls⟩
theorem yard_of_D {rows rings : List Ln} (h1 : LsOk rows) (h2 : LsOk rings) (nd : (nms (rows ++ rings)).Nodup) (few : (nms (rows ++ rings)).length ≤ 60) (k : Int) : x_yard_of [.list (rows.map lnL), .list (rings.map lnL)] k = some (.val (ydT (lyard rows rings)) k) := by
  have n1 : (rows.map lnL).length ≤ 1000000 := by rw [List.length_map]; exact Nat.le_trans h1.few (by decide)
  have n2 : (rings.map lnL).length ≤ 1000000 := by rw [List.length_map]; exact Nat.le_trans h2.few (by decide)
  have a1 := all_lists_D n1 (fun d hd => by obtain ⟨l, _, rfl⟩ := List.mem_map.mp hd; exact ⟨_, rfl⟩) k
  have a2 := all_lists_D n2 (fun d hd => by obtain ⟨l, _, rfl⟩ := List.mem_map.mp hd; exact ⟨_, rfl⟩) k
  have np := need_pieces_D (h1.both h2) nd few k
  rw [List.map_append] at np
  have hcat : lD (dNL gLstD (aStar (dVar 0) (aStar (dVar 1) aNil))) [.sh (.list (rows.map lnL)), .sh (.list (rings.map lnL))] k = some (.list (rows.map lnL ++ rings.map lnL), k) := by
    refine evL (evNL (k1 := k) (ds := rows.map lnL ++ (rings.map lnL ++ [])) rfl ?_)
    have := lines_names fun l hl => (h1.both h2 l hl).2
    rw [List.length_append] at this
    have : rows.length + rings.length ≤ 1000 := by omega
    simp
    omega
  have hb : b_yard_of (startE 2 [.list (rows.map lnL), .list (rings.map lnL)]) k = some (.ret (ydT (lyard rows rings)) k) := by
    refine stS (stIF (evOrF (evNot (evV (evC (evA rfl evA0) a1))) (evNot (evV (evC (evA rfl evA0) a2)))) rfl) (stS (stX (evX (evA hcat evA0) np)) (stR (evC (evA rfl (evA rfl evA0)) (least_yard_D (lines_lists rows) (lines_lists rings) h1 h2 k))))
  exact fnXV rfl hb
end Mx

set_option Elab.async false
set_option linter.all false
set_option maxRecDepth 100000
set_option maxHeartbeats 1000000
/-! the law's text; read of written parts -/
namespace Mx
open PySem PySem.Spec PyProof.Rows L2 Evl Dn Cm
open PySem.W (alike alikeAll keyToks dataLt minD TotalLe)

theorem law_word {p : Pc} (h : IsName p.1) (c0 c1 c2 c3 : Cell) (k : Int) : e__law_text_1 [c0, c1, c2, c3, .sh (.str p.1), .sh (.int (wy p.2))] k = some (.str (sOf (wT p)), k) := by
  obtain ⟨x, b⟩ := p
  have hx := h.len
  have hc : gAdd (.str (sOf [])) (.str x) = some (.str (sOf (wT (x, true)))) := by
    have := gAddS [] x.cps.toList (by rw [List.length_nil]; exact Nat.le_trans (Nat.add_le_add_left hx 0) (by decide))
    rwa [sOf_of] at this
  have hd : gAdd (.str (sOf [45])) (.str x) = some (.str (sOf (wT (x, false)))) := by
    have := gAddS [45] x.cps.toList (by rw [List.length_singleton]; exact Nat.le_trans (Nat.add_le_add_left hx 1) (by decide))
    rwa [sOf_of] at this
  cases b with
  | true => exact evB (evSl rfl evP0 (evP (evN (evA (evB rfl rfl (d := .bool false) (by simp [wy])) evA0) rfl)) (gSlTo [45] 0 (by decide))) rfl hc
  | false => exact evB (evSl rfl evP0 (evP (evN (evA (evB rfl rfl (d := .bool true) (by simp [wy])) evA0) rfl)) (gSlTo [45] 1 (by decide))) rfl hd
theorem law_words {l : Ln} (h : ∀ p ∈ l, IsName p.1) (c0 c1 c2 c3 c4 c5 : Cell) (k : Int) : lcLoop [c0, c1, c2, c3, c4, c5] (gTupG 2 (gConsD (gSet 4) (gConsD (gSet 5) gNilD))) tAll e__law_text_1 (l.map pD) k = some (l.map (fun p => .str (sOf (wT p))), k) :=
  lc_of pD _ fun p hp => ⟨_, rfl, law_word (h p hp) _ _ _ _ k⟩
theorem app_loop {α : Type} {R : Dt → α → Prop} {v : α → Dt} {j : Nat} {body : DS} {E : Cell → List Dt → Ev} {k : Int} : ∀ {ds : List Dt} {xs : List α}, Rel2 R ds xs → ∀ (acc : List Dt) (c : Cell), acc.length + xs.length ≤ 1000000 →
    (∀ d x acc c, x ∈ xs → R d x → acc.length < 1000000 → ∃ ρ', gSet j (E c acc) d = some ρ' ∧ body ρ' k = some (.next (E (.sh d) (acc ++ [v x])) k)) →
    ∃ c', forLoop (gSet j) body ds (E c acc) k = some (.next (E c' (acc ++ xs.map v)) k)
  | [], [], .nil, acc, c, _, _ => ⟨c, by simp [forLoop]⟩
  | d :: ds, x :: xs, .cons r rs, acc, c, hl, h => by
    rw [List.length_cons] at hl
    obtain ⟨ρ', h1, h2⟩ := h d x acc c List.mem_cons_self r (by omega)
    obtain ⟨c', h3⟩ := app_loop (R := R) (v := v) (E := E) (k := k) (j := j) (body := body) rs (acc ++ [v x]) (.sh d) (by rw [List.length_append, List.length_singleton]; omega) fun d y acc c hy => h d y acc c (List.mem_cons_of_mem _ hy)
    refine ⟨c', ?_⟩
    have := forStep h1 h2 h3
    rw [this]
    simp
theorem law_text_D {dr dg : Dt} {y : Yd} (hr : LinesOf dr y.1) (hg : LinesOf dg y.2) (h : YOk y) (k : Int) : d__law_text [.tuple [dr, dg]] k = some (.str (sOf (tYd y)), k) := by
  obtain ⟨ds1, s1, r1⟩ := hr
  obtain ⟨ds2, s2, r2⟩ := hg
  have few := h.few
  obtain ⟨c2', l1⟩ := app_loop (α := Ln) (v := fun l => .str (sOf (tL l))) (j := 2) (body := b__law_text_2) (k := k) (E := fun c acc => [.sh (.tuple [dr, dg]), .ow acc, c, .un, .un, .un]) r1 [] .un (by simp; omega) fun d l acc c hl hd hlen => ⟨_, rfl,
    stM (evA (evM rfl (evA (evL (evLc (evI rfl hd.items) (by rw [List.length_map]; exact Nat.le_trans (h.rows.ok l hl).few (by decide)) (law_words (h.rows.ok l hl).nm _ _ _ _ _ _ _))) evA0) (join_words (h.rows.ok l hl))) evA0) rfl (gApp acc _ hlen)⟩
  obtain ⟨c3', l2⟩ := app_loop (α := Ln) (v := fun l => .str (sOf (tR l))) (j := 3) (body := b__law_text_4) (k := k) (E := fun c acc => [.sh (.tuple [dr, dg]), .ow acc, c2', c, .un, .un]) r2 (y.1.map fun l => .str (sOf (tL l))) .un (by rw [List.length_map]; omega) fun d l acc c hl hd hlen => ⟨_, rfl, by
    have tl := (h.rings.ok l hl).text
    have g1 : gAdd (.str ("(" : Str)) (.str (sOf (tL l))) = some (.str (sOf (40 :: tL l))) := gAddS [40] (tL l) (by simp; omega)
    have g2 : gAdd (.str (sOf (40 :: tL l))) (.str (")" : Str)) = some (.str (sOf (tR l))) := gAddS (40 :: tL l) [41] (by simp; omega)
    exact stM (evA (evB (evB rfl (evM rfl (evA (evL (evLc (evI rfl hd.items) (by rw [List.length_map]; exact Nat.le_trans (h.rings.ok l hl).few (by decide)) (law_words (h.rings.ok l hl).nm _ _ _ _ _ _ _))) evA0) (join_words (h.rings.ok l hl))) g1) rfl g2) evA0) rfl (gApp acc _ hlen)⟩
  rw [List.nil_append] at l1
  have hj := join_parts (parts_few h.rows h.rings) (by simp only [List.length_append, List.length_map]; exact h.few)
  have e : (((y.1.map tL ++ y.2.map tR).map sOf).map PyData.str) = (y.1.map fun l => PyData.str (sOf (tL l))) ++ (y.2.map fun l => PyData.str (sOf (tR l))) := by
    rw [List.map_append, List.map_append, List.map_map, List.map_map, List.map_map, List.map_map]
    rfl
  rw [e] at hj
  exact fnR rfl (stS (stL rfl) (stS (stF (evI rfl s1.items) l1) (stS (stF (evI rfl s2.items) l2) (stR (evM rfl (evA rfl evA0) hj)))))
end Mx

set_option Elab.async false
set_option linter.all false
set_option maxRecDepth 100000
set_option maxHeartbeats 1000000
/-! good rows and rings; readings of a line; repr of yards -/
namespace Mx
open PySem PySem.Spec PyProof.Rows L2 Evl Dn Cm
open PySem.W (alike alikeAll keyToks dataLt minD TotalLe)

/-! ### what repr asks -/
structure Fine (D W : Nat) (d : Dt) : Prop where
  lay : d.canLay0 = true
  shw : d.showable = true
  int : d.intsShort 13 = true
  dep : d.depth ≤ D
  wt : d.weight ≤ W
theorem Fine.mono {D W D' W' : Nat} {d : Dt} (h : Fine D W d) (h1 : D ≤ D') (h2 : W ≤ W') : Fine D' W' d := ⟨h.lay, h.shw, h.int, Nat.le_trans h.dep h1, Nat.le_trans h.wt h2⟩
theorem Fine.all {D W : Nat} : ∀ {ds : List Dt}, (∀ d ∈ ds, Fine D W d) → PyData.canLayAll0 ds = true ∧ PyData.showableAll ds = true ∧ PyData.intsShortAll 13 ds = true ∧ PyData.depthAll ds ≤ D ∧ PyData.weightAll ds ≤ (W + 1) * ds.length
  | [], _ => ⟨by rw [PyData.canLayAll0], by rw [PyData.showableAll], by rw [PyData.intsShortAll], by rw [PyData.depthAll]; omega, by rw [PyData.weightAll]; omega⟩
  | d :: ds, h => by
    obtain ⟨a, b, c, e, f⟩ := Fine.all fun x hx => h x (List.mem_cons_of_mem _ hx)
    have hd := h d List.mem_cons_self
    refine ⟨by rw [PyData.canLayAll0, hd.lay, a]; rfl, by rw [PyData.showableAll, hd.shw, b]; rfl, by rw [PyData.intsShortAll, hd.int, c]; rfl, ?_, ?_⟩
    · have := hd.dep
      rw [PyData.depthAll]
      omega
    · have := hd.wt
      rw [PyData.weightAll, List.length_cons, Nat.mul_add]
      omega
theorem Fine.tup {D W : Nat} {ds : List Dt} (h : ∀ d ∈ ds, Fine D W d) : Fine (D + 1) ((W + 1) * ds.length) (.tuple ds) := by
  obtain ⟨a, b, c, e, f⟩ := Fine.all h
  refine ⟨by rw [PyData.canLay0, a], by rw [PyData.showable, b], by rw [PyData.intsShort, c], ?_, ?_⟩
  · rw [PyData.depth]
    omega
  · rw [PyData.weight]
    exact f
theorem Fine.lst {D W : Nat} {ds : List Dt} (h : ∀ d ∈ ds, Fine D W d) : Fine (D + 1) ((W + 1) * ds.length) (.list ds) := by
  obtain ⟨a, b, c, e, f⟩ := Fine.all h
  refine ⟨by rw [PyData.canLay0, a], by rw [PyData.showable, b], by rw [PyData.intsShort, c], ?_, ?_⟩
  · rw [PyData.depth]
    omega
  · rw [PyData.weight]
    exact f
theorem Fine.str {x : Str} (h : PyData.strOk x = true) : Fine 0 x.length (.str x) := ⟨by rw [PyData.canLay0, h], by rw [PyData.showable], by rw [PyData.intsShort], by rw [PyData.depth]; omega, by rw [PyData.weight]; exact Nat.le_refl _⟩
theorem Fine.repr {D W : Nat} {d : Dt} (h : Fine D W d) (h1 : D ≤ 64) (h2 : W ≤ 1048576) : reprOk d = true := by
  unfold reprOk PyData.layable0
  rw [h.lay, h.shw, h.int, decide_eq_true (Nat.le_trans h.dep h1), decide_eq_true (Nat.le_trans h.wt (by simpa using h2))]
  rfl
theorem fine_pm (b : Bool) : Fine 0 8 (.int (wy b)) := by
  refine ⟨by rw [PyData.canLay0], ?_, ?_, by rw [PyData.depth]; omega, ?_⟩
  · rw [PyData.showable]
    cases b <;> decide
  · rw [PyData.intsShort]
    cases b <;> decide +kernel
  · rw [PyData.weight]
    cases b <;> decide
theorem fine_pD {p : Pc} (h : IsName p.1) : Fine 1 18 (pD p) := by
  refine (Fine.tup (D := 0) (W := 8) fun d hd => ?_).mono (Nat.le_refl _) (by simp)
  rcases List.mem_cons.mp hd with rfl | hd
  · exact (Fine.str h.ok).mono (Nat.le_refl _) h.hi
  · rw [List.mem_singleton.mp hd]
    exact fine_pm _
theorem fine_lnT {l : Ln} (h : ∀ p ∈ l, IsName p.1) : Fine 2 (19 * l.length) (lnT l) := by
  have := Fine.tup (ds := l.map pD) (D := 1) (W := 18) fun d hd => by
    obtain ⟨p, hp, rfl⟩ := List.mem_map.mp hd
    exact fine_pD (h p hp)
  rwa [List.length_map] at this
/-! ### good rows and rings -/
structure Good (rows rings : List Ln) : Prop where
  h1 : LsOk rows
  h2 : LsOk rings
  nd : (nms (rows ++ rings)).Nodup
  few : (nms (rows ++ rings)).length ≤ 60
theorem mem_names {l : Ln} : ∀ {ls : List Ln}, l ∈ ls → l.length ≤ (nms ls).length
  | r :: ls, h => by
    have e : nms (r :: ls) = r.map (·.1) ++ nms ls := by simp [nms]
    rw [e, List.length_append, List.length_map]
    rcases List.mem_cons.mp h with rfl | h
    · omega
    · have := mem_names h
      omega
theorem Good.line {rows rings : List Ln} (h : Good rows rings) {l : Ln} (hl : l ∈ rows ++ rings) : l.length ≤ 60 := Nat.le_trans (mem_names hl) h.few
theorem Good.lines {rows rings : List Ln} (h : Good rows rings) : rows.length + rings.length ≤ 60 := by
  have := lines_names fun l hl => (h.h1.both h.h2 l hl).2
  rw [List.length_append] at this
  exact Nat.le_trans this h.few
theorem Good.y {rows rings : List Ln} (h : Good rows rings) : YOk (rows, rings) := ⟨h.h1, h.h2, by have := h.lines; show rows.length + rings.length ≤ 800; omega⟩
theorem Good.fine {rows rings : List Ln} (h : Good rows rings) : Fine 4 140000 (ydT (rows, rings)) := by
  have hl := h.lines
  have side : ∀ ls : List Ln, (∀ l ∈ ls, l ∈ rows ++ rings ∧ LnOk l) → ls.length ≤ 60 → Fine 3 69000 (.tuple (ls.map lnT)) := fun ls hls few => by
    refine (Fine.tup (D := 2) (W := 1140) fun d hd => ?_).mono (Nat.le_refl _) (by rw [List.length_map]; omega)
    obtain ⟨l, hl, rfl⟩ := List.mem_map.mp hd
    have := h.line (hls l hl).1
    exact (fine_lnT (hls l hl).2.nm).mono (Nat.le_refl _) (by omega)
  refine (Fine.tup (D := 3) (W := 69000) fun d hd => ?_).mono (Nat.le_refl _) (by simp)
  rcases List.mem_cons.mp hd with rfl | hd
  · exact side rows (fun l hl => ⟨List.mem_append_left _ hl, h.h1.ok l hl⟩) (by omega)
  · rw [List.mem_singleton.mp hd]
    exact side rings (fun l hl => ⟨List.mem_append_right _ hl, h.h2.ok l hl⟩) (by omega)
/-! ### readings -/
def NmL (l r : Ln) : Prop := (l.map (·.1)).Perm (r.map (·.1))
theorem nml_bw (l : Ln) : NmL (bw l) l := by
  unfold NmL bw
  rw [List.map_reverse, List.map_map]
  exact List.reverse_perm _
theorem nml_rot (l : Ln) (j : Nat) : NmL (rot l j) l := by
  unfold NmL rot
  refine List.Perm.map _ (List.perm_append_comm.trans ?_)
  rw [List.take_append_drop]
theorem NmL.trans {a b c : Ln} (h : NmL a b) (h2 : NmL b c) : NmL a c := List.Perm.trans h h2
theorem nml_reads {l r : Ln} (h : r ∈ reads l) : NmL r l := by
  unfold reads rots at h
  rcases List.mem_append.mp h with h | h
  · obtain ⟨j, _, rfl⟩ := List.mem_map.mp h
    exact nml_rot _ _
  · obtain ⟨j, _, rfl⟩ := List.mem_map.mp h
    exact (nml_rot _ _).trans (nml_bw l)
theorem nml_lrow (l : Ln) : NmL (lrow l) l := by
  rcases lrow_mem l with e | e <;> rw [e]
  · exact List.Perm.refl _
  · exact nml_bw l
theorem mem_rots {l a : Ln} : a ∈ rots l ↔ l ≠ [] ∧ ∃ u v, l = u ++ v ∧ a = v ++ u := by
  unfold rots
  rw [List.mem_map]
  constructor
  · rintro ⟨j, hj, rfl⟩
    have hj := List.mem_range.mp hj
    refine ⟨fun e => ?_, l.take j, l.drop j, (List.take_append_drop j l).symm, rfl⟩
    rw [e] at hj
    exact absurd hj (Nat.not_lt_zero _)
  · rintro ⟨hne, u, v, rfl, rfl⟩
    by_cases hv : v = []
    · subst hv
      rw [List.append_nil] at hne ⊢
      exact ⟨0, List.mem_range.mpr (List.length_pos_iff.mpr hne), by simp [rot]⟩
    · refine ⟨u.length, List.mem_range.mpr ?_, by simp [rot]⟩
      have := List.length_pos_iff.mpr hv
      rw [List.length_append]
      omega
theorem rots_rots {l b a : Ln} (h : b ∈ rots l) (h2 : a ∈ rots b) : a ∈ rots l := by
  obtain ⟨ne, u, v, rfl, rfl⟩ := mem_rots.mp h
  obtain ⟨_, x, y, e, rfl⟩ := mem_rots.mp h2
  refine mem_rots.mpr ⟨ne, ?_⟩
  rcases List.append_eq_append_iff.mp e with ⟨t, rfl, rfl⟩ | ⟨t, rfl, rfl⟩
  · exact ⟨t, y ++ v, by simp, by simp⟩
  · exact ⟨u ++ x, t, by simp, by simp⟩
theorem rots_back {l b : Ln} (h : b ∈ rots l) : l ∈ rots b := by
  obtain ⟨ne, u, v, rfl, rfl⟩ := mem_rots.mp h
  refine mem_rots.mpr ⟨fun e => ne ?_, v, u, rfl, rfl⟩
  rw [List.append_eq_nil_iff] at e ⊢
  exact ⟨e.2, e.1⟩
theorem bw_app (u v : Ln) : bw (u ++ v) = bw v ++ bw u := by
  unfold bw
  rw [List.map_append, List.reverse_append]
theorem bw_nil {l : Ln} : bw l = [] ↔ l = [] := by simp [bw]
theorem rots_bw {l a : Ln} : a ∈ rots (bw l) ↔ bw a ∈ rots l := by
  rw [mem_rots, mem_rots]
  constructor
  · rintro ⟨ne, u, v, e, rfl⟩
    refine ⟨fun z => ne (bw_nil.mpr z), bw v, bw u, ?_, bw_app v u⟩
    rw [← bw_app, ← e, bw_bw]
  · rintro ⟨ne, u, v, e, e2⟩
    refine ⟨fun z => ne (bw_nil.mp z), bw v, bw u, ?_, ?_⟩
    · rw [← bw_app, ← e]
    · rw [← bw_app, ← e2, bw_bw]
theorem mem_reads {l a : Ln} : a ∈ reads l ↔ a ∈ rots l ∨ bw a ∈ rots l := by
  unfold reads
  rw [List.mem_append, rots_bw]
theorem reads_of {l b : Ln} (h : b ∈ reads l) (a : Ln) : a ∈ reads b ↔ a ∈ reads l := by
  have key : ∀ {l b : Ln}, b ∈ reads l → ∀ a, a ∈ reads b → a ∈ reads l := fun {l b} h a ha => by
    rcases mem_reads.mp h with h | h
    · rcases mem_reads.mp ha with ha | ha
      · exact mem_reads.mpr (.inl (rots_rots h ha))
      · exact mem_reads.mpr (.inr (rots_rots h ha))
    · rcases mem_reads.mp ha with ha | ha
      · refine mem_reads.mpr (.inr (rots_rots h ?_))
        rw [rots_bw, bw_bw]
        exact ha
      · refine mem_reads.mpr (.inl (rots_rots h ?_))
        rw [rots_bw]
        exact ha
  have back : l ∈ reads b := by
    rcases mem_reads.mp h with h | h
    · exact mem_reads.mpr (.inl (rots_back h))
    · have := rots_back h
      rw [rots_bw] at this
      exact mem_reads.mpr (.inr this)
  exact ⟨key h a, key back a⟩
theorem lring_eq {l : Ln} : ∀ {x : Ln} {xs : List Ln}, reads l = x :: xs → lring l = minL x xs := fun {x xs} h => by
  unfold lring
  rw [h]
theorem lring_reads {l b : Ln} (h : b ∈ reads l) : lring b = lring l := by
  have hl : l ≠ [] := fun e => by
    rw [e] at h
    exact absurd h (by simp [reads, rots, bw])
  have hb : b ≠ [] := fun e => by
    have := reads_length h
    rw [e] at this
    exact hl (List.length_eq_zero_iff.mp this.symm)
  obtain ⟨x, xs, e1⟩ := reads_ne hl
  obtain ⟨y, ys, e2⟩ := reads_ne hb
  rw [lring_eq e1, lring_eq e2]
  refine minL_unique fun a => ?_
  rw [← e1, ← e2]
  exact reads_of h a
theorem lrow_lrow (l : Ln) : lrow (lrow l) = lrow l := by
  rcases lrow_mem l with e | e
  · rw [e, e]
  · rw [e, lrow_bw]
    exact e
theorem lring_lring {l : Ln} (h : l ≠ []) : lring (lring l) = lring l := lring_reads (lring_mem h)
theorem nms_map {f : Ln → Ln} : ∀ {ls : List Ln}, (∀ l ∈ ls, NmL (f l) l) → (nms (ls.map f)).Perm (nms ls)
  | [], _ => List.Perm.refl _
  | l :: ls, h => by
    have e : nms (l :: ls) = l.map (·.1) ++ nms ls := by simp [nms]
    have e' : nms ((l :: ls).map f) = (f l).map (·.1) ++ nms (ls.map f) := by simp [nms]
    rw [e, e']
    exact (h l List.mem_cons_self).append (nms_map fun r hr => h r (List.mem_cons_of_mem _ hr))
theorem nms_perm {a b : List Ln} (p : a.Perm b) : (nms a).Perm (nms b) := (p.flatten).map _
theorem nms_app (a b : List Ln) : nms (a ++ b) = nms a ++ nms b := by simp [nms]
theorem Good.least {rows rings : List Ln} (h : Good rows rings) : Good (lyard rows rings).1 (lyard rows rings).2 := by
  have p : (nms ((lyard rows rings).1 ++ (lyard rows rings).2)).Perm (nms (rows ++ rings)) := by
    rw [nms_app, nms_app]
    refine List.Perm.append ?_ ?_
    · exact (nms_perm (List.mergeSort_perm _ _)).trans (nms_map fun l _ => nml_lrow l)
    · exact (nms_perm (List.mergeSort_perm _ _)).trans (nms_map fun l hl => nml_reads (lring_mem (h.h2.ne l hl)))
  exact ⟨h.h1.rows.sort, h.h2.rings.sort, p.nodup_iff.mpr h.nd, by rw [p.length_eq]; exact h.few⟩
theorem map_sort {f : Ln → Ln} {ls : List Ln} (hf : ∀ l ∈ ls, f (f l) = f l) : sortL ((sortL (ls.map f)).map f) = sortL (ls.map f) := by
  have e : (ls.map f).map f = ls.map f := by
    rw [List.map_map]
    exact List.map_congr_left hf
  have p : ((sortL (ls.map f)).map f).Perm (ls.map f) := by
    have := (List.mergeSort_perm (ls.map f) leL).map f
    rwa [e] at this
  exact sortL_perm p
theorem least_least {rows rings : List Ln} (h : Good rows rings) : lyard (lyard rows rings).1 (lyard rows rings).2 = lyard rows rings := by
  show (sortL ((sortL (rows.map lrow)).map lrow), sortL ((sortL (rings.map lring)).map lring)) = _
  rw [map_sort fun l _ => lrow_lrow l, map_sort fun l hl => lring_lring (h.h2.ne l hl)]
  rfl
end Mx

set_option Elab.async false
set_option linter.all false
set_option maxRecDepth 100000
set_option maxHeartbeats 1000000
/-! read of joined parts -/
namespace Mx
open PySem PySem.Spec PyProof.Rows L2 Evl Dn Cm
open PySem.W (alike alikeAll keyToks dataLt minD TotalLe)

abbrev Part := Bool × Ln
def pT (p : Part) : List Nat := if p.1 = true then tR p.2 else tL p.2
def tOf (ps : List Part) : List Nat := TL.joinL [44, 32] (ps.map pT)
def rowsOf (ps : List Part) : List Ln := (ps.filter (fun p => !p.1)).map (·.2)
def ringsOf (ps : List Part) : List Ln := (ps.filter (·.1)).map (·.2)
theorem cutS_in (a : List Nat) (x y : Nat) : L2.cutS (sOf (x :: a ++ [y])) (some 1) (some (-1)) = sOf a := by
  unfold L2.cutS
  have h1 : HT.sIx (sOf (x :: a ++ [y])).length 0 (some 1) = 1 := by
    have := HT.sIx_nat (sOf (x :: a ++ [y])).length 0 1
    rw [show ((1 : Nat) : Int) = (1 : Int) from rfl] at this
    rw [this, sOf_len, List.length_append, List.length_cons]
    omega
  have h2 : HT.sIx (sOf (x :: a ++ [y])).length (sOf (x :: a ++ [y])).length (some (-1)) = a.length + 1 := by
    show (((-1 : Int)) + ((sOf (x :: a ++ [y])).length : Int)).toNat = _
    rw [sOf_len, List.length_append, List.length_cons, List.length_singleton]
    omega
  rw [h1, h2, sOf_cps]
  show sOf _ = _
  congr 1
  rw [List.cons_append, List.drop_succ_cons, List.drop_zero, Nat.add_sub_cancel]
  exact List.take_left
theorem wT_head {p : Pc} (h : IsName p.1) : ((wT p).head? == some 45) = !p.2 := by
  obtain ⟨x, b⟩ := p
  cases b with
  | false => rfl
  | true =>
    show (x.cps.toList.head? == some 45) = false
    have h1 := h.lt
    cases e : x.cps.toList with
    | nil => rfl
    | cons c cs =>
      simp only at h1
      rw [e, List.all_cons, Bool.and_eq_true] at h1
      have := h1.1
      simp only [letter, Bool.and_eq_true, decide_eq_true_eq] at this
      simp
      omega
theorem small_ok {a : List Nat} (h : ∀ c ∈ a, c < 128) : okD (.str (sOf a)) = true := okS (by
  simp only [PyData.strOk, Array.all_eq_true_iff_forall_mem]
  intro c hc
  have := h c (by simpa [sOf] using hc)
  simp
  omega)
theorem piece_in_D {p : Pc} (h : IsName p.1) (k : Int) : d__piece_in [.str (sOf (wT p))] k = some (pD p, k) := by
  have hw := (wT_len h).1
  have st : gStarts (.str (sOf (wT p))) [.str ("-" : Str)] = some (.bool (!p.2)) := by
    show some (PyData.bool (Txt.startswith (sOf (wT p)) (sOf [45]))) = _
    rw [starts_sOf, wT_head h]
  obtain ⟨x, b⟩ := p
  cases b with
  | true =>
    have e : sOf (wT (x, true)) = x := sOf_of x
    rw [e] at st ⊢
    exact fnR rfl (stR (evIfF (k1 := k) (evV (evM rfl (evA rfl evA0) st)) rfl))
  | false =>
    have e : gSlE (.str (sOf (wT (x, false)))) (some 1) none = some (.str x) := by
      have := gSlFrom (wT (x, false)) 1 (by omega)
      have e2 : sOf ((wT (x, false)).drop 1) = x := sOf_of x
      rw [e2] at this
      exact this
    exact fnR rfl (stR (evIfT (k1 := k) (evV (evM rfl (evA rfl evA0) st)) (evN (evA (evSl rfl (evP rfl) evP0 e) (evA rfl evA0)) rfl)))
theorem sign_small {c : Nat} (h : wSign c = true ∨ c = 32) : c < 128 ∧ c ≠ 40 ∧ c ≠ 41 ∧ c ≠ 44 := by
  rcases h with h | rfl
  · unfold wSign letter at h
    simp at h
    omega
  · decide
theorem wSign_32 : wSign 32 = false := rfl
theorem pieces_in_D {l : Ln} (h : LnOk l) (hn : l ≠ []) (k : Int) : d__pieces_in [.str (sOf (tL l))] k = some (lnL l, k) := by
  have ht := h.text
  have hf := h.few
  have sp : gSplit (.str (sOf (tL l))) [.str ("\u0020" : Str)] = some (l.map fun p => .str (sOf (wT p))) := by
    have hs : Txt.split (sOf (tL l)) (sOf [32]) = (l.map wT).map sOf := by
      rw [split_sOf (by simp) (by decide)]
      congr 1
      refine TL.spl_join (fun e => hn (List.map_eq_nil_iff.mp e)) fun w hw => ?_
      obtain ⟨p, hp, rfl⟩ := List.mem_map.mp hw
      exact fun hm => by
        have := wT_sign (h.nm p hp) 32 hm
        rw [wSign_32] at this
        cases this
    have hl : (sOf (tL l)).length ≤ 1000000 := by rw [sOf_len]; omega
    refine (if_pos (⟨rfl, hl⟩ : ((("\u0020" : Str).length == 0) = false ∧ _))).trans ?_
    show some ((Txt.split (sOf (tL l)) (sOf [32])).map PyData.str) = _
    rw [hs, List.map_map, List.map_map]
    rfl
  have c : lcLoop (wipeE [.sh (.str (sOf (tL l))), .un] [1]) (gSet 1) tAll e__pieces_in_1 (l.map fun p => .str (sOf (wT p))) k = some (l.map pD, k) :=
    lc_of (fun p => PyData.str (sOf (wT p))) pD fun p hp => ⟨_, rfl, evC (evA rfl evA0) (piece_in_D (h.nm p hp) k)⟩
  exact fnR rfl (stR (evL (evLc (evI (evL (evML rfl (evA rfl evA0) sp)) rfl) (by rw [List.length_map]; omega) c)))
theorem is_ring_D {p : Part} (h : LnOk p.2) (k : Int) : d__is_ring [.str (sOf (pT p))] k = some (.bool p.1, k) := by
  obtain ⟨b, l⟩ := p
  cases b with
  | true =>
    have s1 : gStarts (.str (sOf (tR l))) [.str ("(" : Str)] = some (.bool true) := by
      show some (PyData.bool (Txt.startswith (sOf (tR l)) (sOf [40]))) = _
      rw [starts_sOf]
      simp [tR]
    have s2 : gEnds (.str (sOf (tR l))) [.str (")" : Str)] = some (.bool true) := by
      show some (PyData.bool (Txt.endswith (sOf (40 :: tL l ++ [41])) (sOf [41]))) = _
      rw [ends_sOf]
      rfl
    exact fnR rfl (stR (evvAndT (evM rfl (evA rfl evA0) s1) (evM rfl (evA rfl evA0) s2)))
  | false =>
    have s1 : gStarts (.str (sOf (tL l))) [.str ("(" : Str)] = some (.bool false) := by
      show some (PyData.bool (Txt.startswith (sOf (tL l)) (sOf [40]))) = _
      rw [starts_sOf]
      have hs := tL_sign h.nm
      cases e : tL l with
      | nil => rfl
      | cons c cs =>
        rw [e] at hs
        have := (sign_small (hs c List.mem_cons_self)).2.1
        simpa using this
    exact fnR rfl (stR (evvAndF (evM rfl (evA rfl evA0) s1)))
theorem lc_filter {ρ : Ev} {g : DG} {t : DT} {e : DE} {k : Int} {α : Type} (P : α → Bool) (f : α → Dt) (v : α → Dt) {xs : List α} (h : ∀ x ∈ xs, ∃ ρ', g ρ (f x) = some ρ' ∧ t ρ' k = some (P x, k) ∧ (P x = true → e ρ' k = some (v x, k))) : lcLoop ρ g t e (xs.map f) k = some ((xs.filter P).map v, k) := by
  induction xs with
  | nil => rfl
  | cons x xs ih =>
    obtain ⟨ρ', h1, h2, h3⟩ := h x List.mem_cons_self
    have := ih fun y hy => h y (List.mem_cons_of_mem _ hy)
    cases hp : P x with
    | true =>
      rw [hp] at h2
      simp [lcLoop, h1, h2, h3 hp, this, hp]
    | false =>
      rw [hp] at h2
      simp [lcLoop, h1, h2, this, hp]
structure PsOk (ps : List Part) : Prop where
  ok : ∀ p ∈ ps, LnOk p.2 ∧ p.2 ≠ []
  few : (ps.map fun p => p.2.length).sum ≤ 60
theorem PsOk.len {ps : List Part} (h : PsOk ps) : ps.length ≤ 60 ∧ (tOf ps).length ≤ 840 := by
  have key : ∀ ps : List Part, (∀ p ∈ ps, LnOk p.2 ∧ p.2 ≠ []) → ps.length ≤ (ps.map fun p => p.2.length).sum ∧ (ps.map fun p => (pT p).length + 2).sum ≤ 14 * (ps.map fun p => p.2.length).sum := fun ps => by
    induction ps with
    | nil => exact fun _ => ⟨Nat.le_refl _, Nat.le_refl _⟩
    | cons p ps ih =>
      intro h
      obtain ⟨a, b⟩ := ih fun q hq => h q (List.mem_cons_of_mem _ hq)
      obtain ⟨ok, ne⟩ := h p List.mem_cons_self
      have l1 := List.length_pos_iff.mpr ne
      have l2 := tL_len ok.nm
      have l3 : (pT p).length ≤ (tL p.2).length + 2 := by
        unfold pT tR
        split
        · rw [List.length_append, List.length_cons, List.length_singleton]
          omega
        · omega
      simp only [List.map_cons, List.sum_cons, List.length_cons]
      omega
  obtain ⟨a, b⟩ := key ps h.ok
  have hf := h.few
  refine ⟨by omega, ?_⟩
  have := joinL_len [44, 32] (ps.map pT)
  rw [List.map_map] at this
  have e : (ps.map ((fun p => p.length + [44, 32].length) ∘ pT)) = ps.map fun p => (pT p).length + 2 := rfl
  rw [e] at this
  unfold tOf
  omega
theorem pT_sign {p : Part} (h : LnOk p.2) : ∀ c ∈ pT p, c < 128 ∧ c ≠ 44 := fun c hc => by
  have hs := tL_sign h.nm
  unfold pT tR at hc
  split at hc
  · rw [List.mem_append, List.mem_cons, List.mem_singleton] at hc
    rcases hc with (rfl | hc) | rfl
    · decide
    · exact ⟨(sign_small (hs c hc)).1, (sign_small (hs c hc)).2.2.2⟩
    · decide
  · exact ⟨(sign_small (hs c hc)).1, (sign_small (hs c hc)).2.2.2⟩
theorem tOf_small {ps : List Part} (h : PsOk ps) : ∀ c ∈ tOf ps, c < 128 := fun c hc => by
  rcases joinL_mem hc with hc | ⟨w, hw, hc⟩
  · simp at hc
    omega
  · obtain ⟨p, hp, rfl⟩ := List.mem_map.mp hw
    exact (pT_sign (h.ok p hp).1 c hc).1
theorem pT_ne {p : Part} (h : LnOk p.2 ∧ p.2 ≠ []) : pT p ≠ [] := by
  obtain ⟨b, l⟩ := p
  cases b with
  | true => simp [pT, tR]
  | false =>
    show tL l ≠ []
    cases l with
    | nil => exact absurd rfl h.2
    | cons q l =>
      have := (wT_len (h.1.nm q List.mem_cons_self)).2
      intro e
      cases l with
      | nil =>
        have e : wT q = [] := e
        rw [e] at this
        simp at this
      | cons r l =>
        have e : wT q ++ ([32] ++ TL.joinL [32] ((r :: l).map wT)) = [] := e
        simp at e
theorem tOf_ne {ps : List Part} (h : PsOk ps) (hn : ps ≠ []) : tOf ps ≠ [] := by
  cases ps with
  | nil => exact absurd rfl hn
  | cons p ps =>
    have hp := pT_ne (h.ok p List.mem_cons_self)
    cases ps with
    | nil => exact hp
    | cons q ps =>
      intro e
      have e : pT p ++ ([44, 32] ++ TL.joinL [44, 32] ((q :: ps).map pT)) = [] := e
      simp at e
end Mx

set_option Elab.async false
set_option linter.all false
set_option maxRecDepth 100000
set_option maxHeartbeats 1000000
/-! read of joined parts -/
namespace Mx
open PySem PySem.Spec PyProof.Rows L2 Evl Dn Cm
open PySem.W (alike alikeAll keyToks dataLt minD TotalLe)

theorem split_parts {ps : List Part} (h : PsOk ps) (hn : ps ≠ []) : gSplit (.str (sOf (tOf ps))) [.str (", " : Str)] = some (ps.map fun p => .str (sOf (pT p))) := by
  have hl : (sOf (tOf ps)).length ≤ 1000000 := by
    rw [sOf_len]
    have := h.len.2
    omega
  refine (if_pos (⟨rfl, hl⟩ : (((", " : Str).length == 0) = false ∧ _))).trans ?_
  show some ((Txt.split (sOf (tOf ps)) (sOf [44, 32])).map PyData.str) = _
  have hs : Txt.split (sOf (tOf ps)) (sOf [44, 32]) = (ps.map pT).map sOf := by
    rw [split_sOf (by simp) (by decide)]
    congr 1
    refine TL.spl_join (fun e => hn (List.map_eq_nil_iff.mp e)) fun w hw => ?_
    obtain ⟨p, hp, rfl⟩ := List.mem_map.mp hw
    exact fun hm => (pT_sign (h.ok p hp).1 44 hm).2 rfl
  rw [hs, List.map_map, List.map_map]
  rfl
theorem neS {a b : List Nat} (ha : ∀ c ∈ a, c < 128) (hb : ∀ c ∈ b, c < 128) : gNe (.str (sOf a)) (.str (sOf b)) = some (.bool (!decide (a = b))) := by
  unfold gNe
  rw [if_pos ⟨small_ok ha, small_ok hb⟩]
  have : PyData.eqv (.str (sOf a)) (.str (sOf b)) = decide (a = b) := by
    rw [eqv_str_str]
    by_cases h : a = b
    · subst h
      simp
    · rw [decide_eq_false h, beq_eq_false_iff_ne]
      exact fun e => h (sOf_inj e)
  rw [this]
theorem read_D {ps : List Part} (h : PsOk ps) (hg : Good (rowsOf ps) (ringsOf ps)) (k : Int) : x_read [.str (sOf (tOf ps))] k = some (.val (ydT (lyard (rowsOf ps) (ringsOf ps))) k) := by
  have hl := h.len
  have nl : (ps.map fun p => PyData.str (sOf (pT p))).length ≤ 1000000 := by rw [List.length_map]; omega
  have hne := neS (a := tOf ps) (b := []) (tOf_small h) (by simp)
  have first : (dIf (tV (dB gNe (dVarO 0) (dC (.str ("" : Str))))) (lD (dML gSplit (dVarO 0) (aCons (dC (.str (", " : Str))) aNil))) (lD (dNL gLstD aNil))) [.sh (.str (sOf (tOf ps))), .un, .un, .un, .un, .un] k = some (.list (ps.map fun p => .str (sOf (pT p))), k) := by
    by_cases z : ps = []
    · subst z
      rw [show decide (tOf [] = ([] : List Nat)) = true from rfl] at hne
      exact evIfF (k1 := k) (evV (evB rfl rfl hne)) (evL (evNL evA0 rfl))
    · rw [decide_eq_false (tOf_ne h z)] at hne
      exact evIfT (k1 := k) (evV (evB rfl rfl hne)) (evL (evML rfl (evA rfl evA0) (split_parts h z)))
  have c1 : ∀ c1 c2 c3 c4 : Cell, lcLoop [.sh (.str (sOf (tOf ps))), c1, c2, c3, c4, .un] (gSet 5) t_read_2 e_read_1 (ps.map fun p => PyData.str (sOf (pT p))) k = some ((ps.filter fun p => !p.1).map (fun p => lnL p.2), k) := fun _ _ _ _ =>
    lc_filter (fun p => !p.1) (fun p => PyData.str (sOf (pT p))) _ fun p hp => ⟨_, rfl, evNot (evV (evC (evA rfl evA0) (is_ring_D (h.ok p hp).1 k))), fun hb => evC (evA rfl evA0) (by
      have := pieces_in_D (h.ok p hp).1 (h.ok p hp).2 k
      obtain ⟨b, l⟩ := p
      cases b with
      | true => simp at hb
      | false => exact this)⟩
  have c2 : ∀ c1 c2 c3 c4 : Cell, lcLoop [.sh (.str (sOf (tOf ps))), c1, c2, c3, c4, .un] (gSet 5) t_read_4 e_read_3 (ps.map fun p => PyData.str (sOf (pT p))) k = some ((ps.filter fun p => p.1).map (fun p => lnL p.2), k) := fun _ _ _ _ =>
    lc_filter (fun p => p.1) (fun p => PyData.str (sOf (pT p))) _ fun p hp => ⟨_, rfl, evV (evC (evA rfl evA0) (is_ring_D (h.ok p hp).1 k)), fun hb => by
      have hd := pieces_in_D (h.ok p hp).1 (h.ok p hp).2 k
      have tl := (h.ok p hp).1.text
      obtain ⟨b, l⟩ := p
      cases b with
      | false => simp at hb
      | true =>
        have e : gSlE (.str (sOf (tR l))) (some 1) (some (-1)) = some (.str (sOf (tL l))) := by
          have hz : (sOf (tR l)).length ≤ 1000000 := by
            rw [sOf_len]
            unfold tR
            rw [List.length_append, List.length_cons, List.length_singleton]
            have : (tL l).length ≤ 10000 := tl
            omega
          refine (if_pos hz).trans ?_
          have := cutS_in (tL l) 40 41
          unfold tR
          rw [this]
        exact evC (evA (evSl rfl (evP rfl) (evP (evU rfl rfl)) e) evA0) hd⟩
  have e1 : (ps.filter fun p => !p.1).map (fun p => lnL p.2) = (rowsOf ps).map lnL := by unfold rowsOf; rw [List.map_map]; rfl
  have e2 : (ps.filter fun p => p.1).map (fun p => lnL p.2) = (ringsOf ps).map lnL := by unfold ringsOf; rw [List.map_map]; rfl
  rw [e1] at c1
  rw [e2] at c2
  have y := yard_of_D hg.h1 hg.h2 hg.nd hg.few k
  exact fnXV rfl (stS (stIF (evV rfl) rfl) (stS (stA first) (stS (stL (evLc (evI rfl rfl) nl (c1 _ _ _ _))) (stS (stL (evLc (evI rfl rfl) nl (c2 _ _ _ _))) (stZ rfl (stZ rfl (stR (evCX (evA rfl (evA rfl evA0)) y))))))))
/-! the parts of a yard -/
def partsOf (y : Yd) : List Part := y.1.map (false, ·) ++ y.2.map (true, ·)
theorem tYd_parts (y : Yd) : tYd y = tOf (partsOf y) := by
  unfold tYd tOf partsOf
  rw [List.map_append, List.map_map, List.map_map]
  rfl
theorem filt_t {α : Type} (l : List α) : l.filter (fun _ => true) = l := List.filter_eq_self.mpr fun _ _ => rfl
theorem filt_f {α : Type} (l : List α) : l.filter (fun _ => false) = [] := List.filter_eq_nil_iff.mpr fun _ _ h => by cases h
theorem rows_parts (y : Yd) : rowsOf (partsOf y) = y.1 := by
  unfold rowsOf partsOf
  simp [List.filter_append, List.filter_map, Function.comp_def]
  rw [filt_t, filt_f, List.append_nil]
theorem rings_parts (y : Yd) : ringsOf (partsOf y) = y.2 := by
  unfold ringsOf partsOf
  simp [List.filter_append, List.filter_map, Function.comp_def]
  rw [filt_t, filt_f, List.nil_append]
theorem nms_len : ∀ ls : List Ln, (nms ls).length = (ls.map (·.length)).sum
  | [] => rfl
  | l :: ls => by
    have := nms_len ls
    have e : nms (l :: ls) = l.map (·.1) ++ nms ls := by simp [nms]
    rw [e, List.length_append, List.length_map, this, List.map_cons, List.sum_cons]
theorem Good.parts {rows rings : List Ln} (h : Good rows rings) : PsOk (partsOf (rows, rings)) := by
  refine ⟨fun p hp => ?_, ?_⟩
  · rcases List.mem_append.mp hp with hp | hp
    · obtain ⟨l, hl, rfl⟩ := List.mem_map.mp hp
      exact ⟨h.h1.ok l hl, h.h1.ne l hl⟩
    · obtain ⟨l, hl, rfl⟩ := List.mem_map.mp hp
      exact ⟨h.h2.ok l hl, h.h2.ne l hl⟩
  · have := h.few
    rw [nms_len] at this
    have e : (partsOf (rows, rings)).map (fun p => p.2.length) = (rows ++ rings).map (·.length) := by
      unfold partsOf
      simp [Function.comp_def]
    rw [e]
    exact this
end Mx

set_option Elab.async false
set_option linter.all false
set_option maxRecDepth 100000
set_option maxHeartbeats 1000000
/-! another reading; shuffled -/
namespace Mx
open PySem PySem.Spec PyProof.Rows L2 Evl Dn Cm
open PySem.W (alike alikeAll keyToks dataLt minD TotalLe)

theorem eq0 (n : Nat) : gEq (.int (n : Int)) (.int 0) = some (.bool (decide (n = 0))) := by
  simp
  by_cases z : n = 0 <;> simp [z]
theorem other_tail (ns : List Int) (hl : ns.length ≤ 63) (d b : Dt) {m : Ln} (h : LnOk m) (c5 : Cell) (k : Int) (h0 : 0 ≤ k) (h1 : k + 2 < 1000000) :
    ∃ m', (sSeq (sIf (tV (dB gEq (dCall d__law_draw (aCons (dVar 0) (aCons (dVar 1) (aCons (dC (.int 2)) aNil)))) (dC (.int 0)))) (sAsg (lD (dLc (dItems (dB gStep (dVarO 4) (dU gNeg (dC (.int 1))))) [6, 7] (gTupG 2 (gConsD (gSet 6) (gConsD (gSet 7) gNilD))) tAll e__law_other_reading_1)) (gSet 4)) sNext) (sRet (dVar 4))) [.sh (scr ns), .sh ctrD, .sh d, .sh b, .sh (lnL m), c5, .un, .un] k = some (.ret (lnL m') (k + 1)) ∧ (m' = m ∨ m' = bw m) := by
  obtain ⟨w, hw, e1⟩ := draw_N ns hl k 2 h0 (by omega) (by decide)
  have hf := h.few
  by_cases hz : w = 0
  · have t : tV (dB gEq (dCall d__law_draw (aCons (dVar 0) (aCons (dVar 1) (aCons (dC (.int 2)) aNil)))) (dC (.int 0))) [.sh (scr ns), .sh ctrD, .sh d, .sh b, .sh (lnL m), c5, .un, .un] k = some (true, k + 1) := evV (evB (evC (evA rfl (evA rfl (evA rfl evA0))) e1) rfl (by rw [eq0, decide_eq_true hz]))
    have c : lcLoop (wipeE [.sh (scr ns), .sh ctrD, .sh d, .sh b, .sh (lnL m), c5, .un, .un] [6, 7]) (gTupG 2 (gConsD (gSet 6) (gConsD (gSet 7) gNilD))) tAll e__law_other_reading_1 (m.reverse.map pD) (k + 1) = some (m.reverse.map (fun p => pD (fl p)), k + 1) :=
      lc_of _ _ fun p hp => ⟨[.sh (scr ns), .sh ctrD, .sh d, .sh b, .sh (lnL m), c5, .sh (.str p.1), .sh (.int (wy p.2))], by simp [pD], by simp [e__law_other_reading_1, pD, fl]⟩
    have e : m.reverse.map (fun p => pD (fl p)) = (bw m).map pD := by simp [bw, List.map_reverse]
    rw [e, List.map_reverse] at c
    refine ⟨bw m, stS (stIT t (stA (evL (evLc (evI (evB rfl (evU rfl rfl) rfl) rfl) (by rw [List.length_reverse, List.length_map]; omega) c)))) (stR rfl), .inr rfl⟩
  · have t : tV (dB gEq (dCall d__law_draw (aCons (dVar 0) (aCons (dVar 1) (aCons (dC (.int 2)) aNil)))) (dC (.int 0))) [.sh (scr ns), .sh ctrD, .sh d, .sh b, .sh (lnL m), c5, .un, .un] k = some (false, k + 1) := evV (evB (evC (evA rfl (evA rfl (evA rfl evA0))) e1) rfl (by rw [eq0, decide_eq_false hz]))
    exact ⟨m, stS (stIF t rfl) (stR rfl), .inl rfl⟩
theorem rot_add {l : Ln} (h : LnOk l) (n : Nat) : gAdd (.list ((l.drop n).map pD)) (.list ((l.take n).map pD)) = some (lnL (rot l n)) := by
  have hf := h.few
  have : ((l.drop n).map pD).length + ((l.take n).map pD).length ≤ 1000000 := by
    simp only [List.length_map, List.length_drop, List.length_take]
    omega
  refine (if_pos this).trans ?_
  unfold lnL rot
  rw [List.map_append]
theorem other_D (ns : List Int) (hl : ns.length ≤ 63) {d : Dt} {l : Ln} (hd : SeqOf d (l.map pD)) (h : LnOk l) (hn : l ≠ []) (b : Bool) (k : Int) (h0 : 0 ≤ k) (h1 : k + 3 < 1000000) :
    ∃ m k', d__law_other_reading [scr ns, ctrD, d, .bool b] k = some (lnL m, k') ∧ k ≤ k' ∧ k' ≤ k + 2 ∧ (b = false → m = l ∨ m = bw l) ∧ (b = true → m ∈ reads l) := by
  have hf := h.few
  have first : (dNL gList (aCons (dVarO 2) aNil)) [.sh (scr ns), .sh ctrD, .sh d, .sh (.bool b), .un, .un, .un, .un] k = some (l.map pD, k) := evNL (evA rfl evA0) (by cases hd <;> rfl)
  cases b with
  | false =>
    obtain ⟨m, e, hm⟩ := other_tail ns hl d (.bool false) h .un k h0 (by omega)
    exact ⟨m, k + 1, fnR rfl (stS (stA (evL first)) (stS (stIF rfl rfl) e)), by omega, by omega, fun _ => hm, (fun z => by cases z)⟩
  | true =>
    obtain ⟨n, hn2, e1⟩ := draw_N ns hl k l.length h0 (by omega) (List.length_pos_iff.mpr hn)
    have hr : LnOk (rot l n) := ⟨rot_nm h.nm n, by rw [rot_length]; exact hf⟩
    obtain ⟨m, e, hm⟩ := other_tail ns hl d (.bool true) hr (.sh (.int (n : Int))) (k + 1) (by omega) (by omega)
    have hlen : gLen [lnL l] = some (.int (l.length : Int)) := by
      show gLen [.list (l.map pD)] = _
      have : (l.map pD).length ≤ 1000000 := by rw [List.length_map]; omega
      refine (if_pos this).trans ?_
      rw [List.length_map]
    have ha : (dB gAdd (dSl gSlE (dVarO 4) (pS (dVarO 5)) pN) (dSl gSlE (dVarO 4) pN (pS (dVarO 5)))) [.sh (scr ns), .sh ctrD, .sh d, .sh (.bool true), .sh (lnL l), .sh (.int (n : Int)), .un, .un] (k + 1) = some (lnL (rot l n), k + 1) :=
      evB (evSl rfl (evP rfl) evP0 (cut_drop l n)) (evSl rfl evP0 (evP rfl) (cut_take l n)) (rot_add h n)
    refine ⟨m, k + 2, fnR rfl (stS (stA (evL first)) (stS (stIT rfl (stS (stA (evC (evA rfl (evA rfl (evA (evN (evA rfl evA0) hlen) evA0))) e1)) (stA ha))) ?_)), by omega, by omega, (fun z => by cases z), fun _ => ?_⟩
    · have : k + 2 = k + 1 + 1 := by omega
      rw [this]
      exact e
    · have hx : rot l n ∈ rots l := List.mem_map.mpr ⟨n, List.mem_range.mpr hn2, rfl⟩
      rcases hm with rfl | rfl
      · exact mem_reads.mpr (.inl hx)
      · exact mem_reads.mpr (.inr (by rw [bw_bw]; exact hx))
/-! ### shuffled -/
theorem shuf_loop (ns : List Int) (hl : ns.length ≤ 63) (a2 : Dt) {α : Type} (f : α → Dt) : ∀ (xs : List α) (acc : List α) (c4 : Cell) (k : Int), 0 ≤ k → k + (xs.length : Int) < 1000000 → acc.length + xs.length ≤ 1000 →
    ∃ (out : List α) (d4 : Cell), forLoop (gSet 4) b__law_shuffled_1 (xs.map f) [.sh (scr ns), .sh ctrD, .sh a2, .ow (acc.map f), c4] k = some (.next [.sh (scr ns), .sh ctrD, .sh a2, .ow (out.map f), d4] (k + (xs.length : Int))) ∧ out.Perm (acc ++ xs)
  | [], acc, c4, k, _, _, _ => ⟨acc, c4, by simp [forLoop], by simp⟩
  | x :: xs, acc, c4, k, h0, h1, h2 => by
    simp only [List.length_cons] at h1 h2
    obtain ⟨j, hj, e1⟩ := draw_N ns hl k (acc.length + 1) h0 (by omega) (by omega)
    have e1' : d__law_draw [scr ns, ctrD, .int ((acc.length : Int) + 1)] k = some (.int (j : Int), k + 1) := by
      have : ((acc.length : Int) + 1) = ((acc.length + 1 : Nat) : Int) := by omega
      rw [this]
      exact e1
    have gi : gInsert (acc.map f) [.int (j : Int), f x] = some (((acc.take j ++ x :: acc.drop j)).map f) := by
      have ha : acc.length < 1000000 := by omega
      have hj2 : (j : Int) ≤ 1000000 := by omega
      simp [ha, hj2, List.map_take, List.map_drop]
    have gl : gLen [.list (acc.map f)] = some (.int (acc.length : Int)) := by
      have ha : acc.length ≤ 1000000 := by omega
      simp [ha]
    have step : b__law_shuffled_1 [.sh (scr ns), .sh ctrD, .sh a2, .ow (acc.map f), .sh (f x)] k = some (.next [.sh (scr ns), .sh ctrD, .sh a2, .ow ((acc.take j ++ x :: acc.drop j).map f), .sh (f x)] (k + 1)) :=
      stM (evA (evC (evA rfl (evA rfl (evA (evB (evN (evA rfl evA0) gl) rfl rfl) evA0))) e1') (evA rfl evA0)) rfl gi
    have hlen : (acc.take j ++ x :: acc.drop j).length = acc.length + 1 := by
      simp only [List.length_append, List.length_cons, List.length_take, List.length_drop]
      omega
    obtain ⟨out, d4, hr, pr⟩ := shuf_loop ns hl a2 f xs (acc.take j ++ x :: acc.drop j) (.sh (f x)) (k + 1) (by omega) (by omega) (by rw [hlen]; omega)
    refine ⟨out, d4, ?_, ?_⟩
    · rw [List.map_cons]
      have e : k + 1 + (xs.length : Int) = k + ((xs.length + 1 : Nat) : Int) := by omega
      rw [e] at hr
      exact forStep rfl step hr
    · refine pr.trans ?_
      have q : (acc.take j ++ x :: acc.drop j).Perm (x :: acc) := by
        have := List.perm_middle (l₁ := acc.take j) (a := x) (l₂ := acc.drop j)
        rwa [List.take_append_drop] at this
      refine (q.append_right xs).trans ?_
      simpa using List.perm_middle.symm
theorem shuf_D (ns : List Int) (hl : ns.length ≤ 63) {α : Type} (f : α → Dt) (xs : List α) (hx : xs.length ≤ 1000) (k : Int) (h0 : 0 ≤ k) (h1 : k + (xs.length : Int) < 1000000) :
    ∃ out : List α, d__law_shuffled [scr ns, ctrD, .list (xs.map f)] k = some (out.map f, k + (xs.length : Int)) ∧ out.Perm xs := by
  obtain ⟨out, d4, e, p⟩ := shuf_loop ns hl (.list (xs.map f)) f xs [] .un k h0 h1 (by simpa using hx)
  exact ⟨out, fnRL rfl (stS (stL rfl) (stS (stF (evI rfl rfl) e) (stRL rfl))), by simpa using p⟩
end Mx

set_option Elab.async false
set_option linter.all false
set_option maxRecDepth 100000
set_option maxHeartbeats 1000000
/-! law 06 -/
namespace Mx
open PySem PySem.Spec PyProof.Rows L2 Evl Dn Cm
open PySem.W (alike alikeAll keyToks dataLt minD TotalLe)

/-- parts that read these lines again -/
inductive Again (s : Bool) : List Part → List Ln → Prop
  | nil : Again s [] []
  | cons {m l : Ln} {ps : List Part} {ls : List Ln} : (s = false → m = l ∨ m = bw l) → (s = true → m ∈ reads l) → Again s ps ls → Again s ((s, m) :: ps) (l :: ls)
theorem Again.nml {s : Bool} {m l : Ln} (h1 : s = false → m = l ∨ m = bw l) (h2 : s = true → m ∈ reads l) : NmL m l := by
  cases s with
  | false =>
    rcases h1 rfl with rfl | rfl
    · exact List.Perm.refl _
    · exact nml_bw l
  | true => exact nml_reads (h2 rfl)
theorem Again.lnok {s : Bool} {m l : Ln} (h1 : s = false → m = l ∨ m = bw l) (h2 : s = true → m ∈ reads l) (h : LnOk l) (hn : l ≠ []) : LnOk m ∧ m ≠ [] := by
  have key : LnOk m ∧ m.length = l.length := by
    cases s with
    | false =>
      rcases h1 rfl with rfl | rfl
      · exact ⟨h, rfl⟩
      · exact ⟨h.bw, bw_length l⟩
    | true =>
      have e := reads_length (h2 rfl)
      exact ⟨⟨reads_nm h _ (h2 rfl), by rw [e]; exact h.few⟩, e⟩
  refine ⟨key.1, fun e => hn ?_⟩
  have := key.2
  rw [e] at this
  exact List.length_eq_zero_iff.mp this.symm
theorem single_text (s : Bool) {m : Ln} (h : LnOk m) (hn : m ≠ []) (k : Int) (dr dg : Dt) (hr : LinesOf dr (if s = true then [] else [m])) (hg : LinesOf dg (if s = true then [m] else [])) : d__law_text [.tuple [dr, dg]] k = some (.str (sOf (pT (s, m))), k) := by
  have ok : LsOk [m] := ⟨fun l hl => by rw [List.mem_singleton.mp hl]; exact h, fun l hl => by rw [List.mem_singleton.mp hl]; exact hn, by simp⟩
  have no : LsOk [] := ⟨fun l hl => (List.not_mem_nil hl).elim, fun l hl => (List.not_mem_nil hl).elim, by simp⟩
  cases s with
  | false => exact law_text_D (y := ([m], [])) hr hg ⟨ok, no, by simp⟩ k
  | true => exact law_text_D (y := ([], [m])) hr hg ⟨no, ok, by simp⟩ k
def txD (p : Part) : Dt := .str (sOf (pT p))
theorem again_loop (ns : List Int) (hl : ns.length ≤ 63) (s : Bool) (a2 a3 a4 a5 a6 a7 a9 a11 : Cell) : ∀ (ls : List Ln) (acc : List Part) (c12 c13 : Cell) (k : Int), (∀ l ∈ ls, LnOk l ∧ l ≠ []) → 0 ≤ k → k + 3 * (ls.length : Int) + 3 < 1000000 → acc.length + ls.length ≤ 1000 →
    ∃ (ps : List Part) (d12 d13 : Cell) (k' : Int), forLoop (gSet 12) b_law06_1 (ls.map lnL) [.sh (scr ns), .sh ctrD, a2, a3, a4, a5, a6, a7, .ow (acc.map txD), a9, .sh (.int (if s = true then 1 else 0)), a11, c12, c13] k = some (.next [.sh (scr ns), .sh ctrD, a2, a3, a4, a5, a6, a7, .ow ((acc ++ ps).map txD), a9, .sh (.int (if s = true then 1 else 0)), a11, d12, d13] k') ∧ Again s ps ls ∧ k ≤ k' ∧ k' ≤ k + 3 * (ls.length : Int)
  | [], acc, c12, c13, k, _, _, _, _ => ⟨[], c12, c13, k, by simp [forLoop], .nil, by omega, by simp⟩
  | l :: ls, acc, c12, c13, k, h, h0, h1, h2 => by
    simp only [List.length_cons] at h1 h2
    obtain ⟨lo, ln⟩ := h l List.mem_cons_self
    obtain ⟨m, k1, e1, b1, b2, m1, m2⟩ := other_D ns hl (.lst (l.map pD)) lo ln s k h0 (by omega)
    obtain ⟨mo, mn⟩ := Again.lnok m1 m2 lo ln
    obtain ⟨ps, d12, d13, k2, e2, ag, b3, b4⟩ := again_loop ns hl s a2 a3 a4 a5 a6 a7 a9 a11 ls (acc ++ [(s, m)]) (.sh (lnL l)) (.sh (lnL m)) k1 (fun r hr => h r (List.mem_cons_of_mem _ hr)) (by omega) (by omega) (by rw [List.length_append, List.length_singleton]; omega)
    refine ⟨(s, m) :: ps, d12, d13, k2, ?_, .cons m1 m2 ag, by omega, by rw [List.length_cons]; omega⟩
    have ea : acc ++ [(s, m)] ++ ps = acc ++ (s, m) :: ps := by simp
    rw [ea] at e2
    have one : LinesOf (.tuple [lnL m]) [m] := ⟨_, .tup _, .cons (.lst _) .nil⟩
    have non : LinesOf (.tuple []) [] := ⟨_, .tup _, .nil⟩
    have step : b_law06_1 [.sh (scr ns), .sh ctrD, a2, a3, a4, a5, a6, a7, .ow (acc.map txD), a9, .sh (.int (if s = true then 1 else 0)), a11, .sh (lnL l), c13] k = some (.next [.sh (scr ns), .sh ctrD, a2, a3, a4, a5, a6, a7, .ow ((acc ++ [(s, m)]).map txD), a9, .sh (.int (if s = true then 1 else 0)), a11, .sh (lnL l), .sh (lnL m)] k1) := by
      have hlen : (acc.map txD).length < 1000000 := by rw [List.length_map]; omega
      have eo : (acc ++ [(s, m)]).map txD = acc.map txD ++ [txD (s, m)] := by rw [List.map_append]; rfl
      rw [eo]
      cases s with
      | false =>
        have e0 : gEq (.int 0) (.int 1) = some (.bool false) := by simp
        have e00 : gEq (.int 0) (.int 0) = some (.bool true) := by simp
        exact stS (stA (evC (evA rfl (evA rfl (evA rfl (evA (evB rfl rfl e0) evA0)))) e1)) (stM (evA (evC (evA (evIfT (evV (evB rfl rfl e00)) rfl) evA0) (single_text false mo mn k1 _ _ one non)) evA0) rfl (gApp _ _ hlen))
      | true =>
        have e0 : gEq (.int 1) (.int 1) = some (.bool true) := by simp
        have e00 : gEq (.int 1) (.int 0) = some (.bool false) := by simp
        exact stS (stA (evC (evA rfl (evA rfl (evA rfl (evA (evB rfl rfl e0) evA0)))) e1)) (stM (evA (evC (evA (evIfF (evV (evB rfl rfl e00)) rfl) evA0) (single_text true mo mn k1 _ _ non one)) evA0) rfl (gApp _ _ hlen))
    exact forStep rfl step e2
/-! ### parts and their rows and rings -/
theorem again_split {ps1 ps2 : List Part} {rows rings : List Ln} (h1 : Again false ps1 rows) (h2 : Again true ps2 rings) : rowsOf (ps1 ++ ps2) = ps1.map (·.2) ∧ ringsOf (ps1 ++ ps2) = ps2.map (·.2) := by
  have f1 : ∀ p ∈ ps1, p.1 = false := by
    clear h2
    induction h1 with
    | nil => exact fun p hp => (List.not_mem_nil hp).elim
    | cons a b c ih =>
      intro p hp
      rcases List.mem_cons.mp hp with rfl | hp
      · rfl
      · exact ih p hp
  have f2 : ∀ p ∈ ps2, p.1 = true := by
    clear h1
    induction h2 with
    | nil => exact fun p hp => (List.not_mem_nil hp).elim
    | cons a b c ih =>
      intro p hp
      rcases List.mem_cons.mp hp with rfl | hp
      · rfl
      · exact ih p hp
  unfold rowsOf ringsOf
  rw [List.filter_append, List.filter_append]
  have a1 : ps1.filter (fun p => !p.1) = ps1 := List.filter_eq_self.mpr fun p hp => by rw [f1 p hp]; rfl
  have a2 : ps2.filter (fun p => !p.1) = [] := List.filter_eq_nil_iff.mpr fun p hp => by rw [f2 p hp]; decide
  have a3 : ps1.filter (·.1) = [] := List.filter_eq_nil_iff.mpr fun p hp => by rw [f1 p hp]; decide
  have a4 : ps2.filter (·.1) = ps2 := List.filter_eq_self.mpr fun p hp => f2 p hp
  rw [a1, a2, a3, a4, List.append_nil, List.nil_append]
  exact ⟨rfl, rfl⟩
theorem again_rows {ps : List Part} {ls : List Ln} (h : Again false ps ls) : (ps.map (·.2)).map lrow = ls.map lrow := by
  induction h with
  | nil => rfl
  | cons a b c ih =>
    rw [List.map_cons, List.map_cons, List.map_cons, ih]
    rcases a rfl with rfl | rfl
    · rfl
    · show lrow (bw _) :: _ = _
      rw [lrow_bw]
theorem again_rings {ps : List Part} {ls : List Ln} (h : Again true ps ls) : (ps.map (·.2)).map lring = ls.map lring := by
  induction h with
  | nil => rfl
  | cons a b c ih =>
    rw [List.map_cons, List.map_cons, List.map_cons, ih, lring_reads (b rfl)]
theorem again_nms {s : Bool} {ps : List Part} {ls : List Ln} (h : Again s ps ls) : (nms (ps.map (·.2))).Perm (nms ls) := by
  induction h with
  | nil => exact List.Perm.refl _
  | @cons m l ps ls a b c ih =>
    have e : nms (l :: ls) = l.map (·.1) ++ nms ls := by simp [nms]
    have e' : nms (((s, m) :: ps).map (·.2)) = m.map (·.1) ++ nms (ps.map (·.2)) := by simp [nms]
    rw [e, e']
    exact (Again.nml a b).append ih
theorem again_ok {s : Bool} {ps : List Part} {ls : List Ln} (h : Again s ps ls) (ok : LsOk ls) : LsOk (ps.map (·.2)) := by
  have key : (∀ l ∈ ps.map (·.2), LnOk l ∧ l ≠ []) ∧ (ps.map (·.2)).length = ls.length := by
    have hk : ∀ l ∈ ls, LnOk l ∧ l ≠ [] := fun l hl => ⟨ok.ok l hl, ok.ne l hl⟩
    clear ok
    induction h with
    | nil => exact ⟨fun l hl => (List.not_mem_nil hl).elim, rfl⟩
    | @cons m l ps ls a b c ih =>
      obtain ⟨i1, i2⟩ := ih fun r hr => hk r (List.mem_cons_of_mem _ hr)
      refine ⟨fun r hr => ?_, by rw [List.map_cons, List.length_cons, List.length_cons, i2]⟩
      rw [List.map_cons] at hr
      rcases List.mem_cons.mp hr with rfl | hr
      · exact Again.lnok a b (hk l List.mem_cons_self).1 (hk l List.mem_cons_self).2
      · exact i1 r hr
  exact ⟨fun l hl => (key.1 l hl).1, fun l hl => (key.1 l hl).2, by rw [key.2]; exact ok.few⟩
theorem Good.perm {r1 g1 r2 g2 : List Ln} (h : Good r1 g1) (o1 : LsOk r2) (o2 : LsOk g2) (p : (nms (r2 ++ g2)).Perm (nms (r1 ++ g1))) : Good r2 g2 := ⟨o1, o2, p.nodup_iff.mpr h.nd, by rw [p.length_eq]; exact h.few⟩
theorem LsOk.perm {a b : List Ln} (h : LsOk a) (p : b.Perm a) : LsOk b := ⟨fun l hl => h.ok l (p.mem_iff.mp hl), fun l hl => h.ne l (p.mem_iff.mp hl), by rw [p.length_eq]; exact h.few⟩
theorem psok_of {ps : List Part} (h : Good (rowsOf ps) (ringsOf ps)) : PsOk ps := by
  have p : ((ps.filter fun p => p.1) ++ (ps.filter fun p => !p.1)).Perm ps := List.filter_append_perm (fun p => p.1) ps
  refine ⟨fun q hq => ?_, ?_⟩
  · rcases List.mem_append.mp (p.mem_iff.mpr hq) with h1 | h1
    · have : q.2 ∈ ringsOf ps := List.mem_map.mpr ⟨q, h1, rfl⟩
      exact ⟨h.h2.ok _ this, h.h2.ne _ this⟩
    · have : q.2 ∈ rowsOf ps := List.mem_map.mpr ⟨q, h1, rfl⟩
      exact ⟨h.h1.ok _ this, h.h1.ne _ this⟩
  · have f := h.few
    rw [nms_len] at f
    have e : ((ps.map fun p => p.2.length)).sum = ((rowsOf ps ++ ringsOf ps).map (·.length)).sum := by
      have q := (p.map fun p => p.2.length).sum_nat
      rw [← q]
      unfold rowsOf ringsOf
      simp only [List.map_append, List.map_map, List.sum_append]
      rw [Nat.add_comm]
      rfl
    rw [e]
    exact f
theorem shuf_good {rows rings : List Ln} (hg : Good rows rings) {ps1 ps2 ps : List Part} (h1 : Again false ps1 rows) (h2 : Again true ps2 rings) (p : ps.Perm (ps1 ++ ps2)) : Good (rowsOf ps) (ringsOf ps) ∧ lyard (rowsOf ps) (ringsOf ps) = lyard rows rings := by
  obtain ⟨a1, a2⟩ := again_split h1 h2
  have p1 : (rowsOf ps).Perm (ps1.map (·.2)) := by
    rw [← a1]
    exact (p.filter _).map _
  have p2 : (ringsOf ps).Perm (ps2.map (·.2)) := by
    rw [← a2]
    exact (p.filter _).map _
  refine ⟨hg.perm ((again_ok h1 hg.h1).perm p1) ((again_ok h2 hg.h2).perm p2) ?_, ?_⟩
  · rw [nms_app, nms_app]
    exact ((nms_perm p1).trans (again_nms h1)).append ((nms_perm p2).trans (again_nms h2))
  · show (sortL ((rowsOf ps).map lrow), sortL ((ringsOf ps).map lring)) = (sortL (rows.map lrow), sortL (rings.map lring))
    rw [sortL_perm (p1.map lrow), sortL_perm (p2.map lring), again_rows h1, again_rings h2]
end Mx

set_option Elab.async false
set_option linter.all false
set_option maxRecDepth 100000
set_option maxHeartbeats 1000000
/-! law 06 holds -/
namespace Mx
open PySem PySem.Spec PyProof.Rows L2 Evl Dn Cm
open PySem.W (alike alikeAll keyToks dataLt minD TotalLe)

theorem nonames {ls : List Ln} {xs : List Str} (p : (nms ls).Perm xs) (hx : ∀ x ∈ xs, IsName x) : ∀ l ∈ ls, ∀ q ∈ l, IsName q.1 := fun l hl q hq => hx _ (p.mem_iff.mp (List.mem_map.mpr ⟨q, List.mem_flatten.mpr ⟨l, hl, hq⟩, rfl⟩))
theorem Drawn.good {xs : List Str} {rows rings : List Ln} (h : Drawn xs rows rings) (hx : ∀ x ∈ xs, IsName x) (nd : xs.Nodup) (few : xs.length ≤ 60) : Good rows rings := by
  have p : (nms (rows ++ rings)).Perm xs := h.nm
  have nn := nonames p hx
  have hl := h.few
  have side : ∀ ls : List Ln, (∀ l ∈ ls, l ∈ rows ++ rings) → ls.length ≤ 60 → LsOk ls := fun ls hs hn => ⟨fun l hl => ⟨nn l (hs l hl), by
    have := mem_names (hs l hl)
    have := p.length_eq
    omega⟩, fun l hl => h.ne l (hs l hl), by omega⟩
  exact ⟨side rows (fun l hl => List.mem_append_left _ hl) (by omega), side rings (fun l hl => List.mem_append_right _ hl) (by omega), p.nodup_iff.mpr nd, by rw [p.length_eq]; exact few⟩
theorem repr_D {D W : Nat} {ds : List Dt} (h : Fine D W (.tuple ds)) (h1 : D ≤ 64) (h2 : W ≤ 1048576) : gRepr [.tuple ds] = some (.str (PyData.tuple ds).shown) := if_pos (h.repr h1 h2)
theorem ne_shown {d : Dt} (h : d.canLay0 = true) : gNe (.str d.shown) (.str d.shown) = some (.bool false) := by
  unfold gNe
  rw [if_pos ⟨shown_ok h, shown_ok h⟩, eqv_str_str]
  simp
theorem eqS {a : List Nat} (ha : ∀ c ∈ a, c < 128) : gEq (.str (sOf a)) (.str (sOf a)) = some (.bool true) := by
  unfold gEq
  rw [if_pos ⟨small_ok ha, small_ok ha⟩, eqv_str_str]
  simp
/-- the reprs of one yard, read twice, are the same -/
theorem repr_ne {rows rings : List Ln} (h : Good rows rings) {f g : DE} {ρ : Ev} {k k' : Int} (hf : f ρ k = some (ydT (rows, rings), k')) (hg : g ρ k' = some (ydT (rows, rings), k')) : tV (dB gNe (dN gRepr (aCons f aNil)) (dN gRepr (aCons g aNil))) ρ k = some (false, k') := by
  have r : gRepr [ydT (rows, rings)] = some (.str (ydT (rows, rings)).shown) := repr_D h.fine (by decide) (by decide)
  exact evV (evB (evN (evA hf evA0) r) (evN (evA hg evA0) r) (ne_shown h.fine.lay))
theorem many6 (w : Nat) (h : w < 6) : ∃ many : Nat, many ≤ 60 ∧ gIx (.list [.int 0, .int 1, .int 2, .int 5, .int 12, .int 60]) (.int (w : Int)) = some (.int (many : Int)) := by
  have : w = 0 ∨ w = 1 ∨ w = 2 ∨ w = 3 ∨ w = 4 ∨ w = 5 := by omega
  rcases this with rfl | rfl | rfl | rfl | rfl | rfl
  · exact ⟨0, by decide, rfl⟩
  · exact ⟨1, by decide, rfl⟩
  · exact ⟨2, by decide, rfl⟩
  · exact ⟨5, by decide, rfl⟩
  · exact ⟨12, by decide, rfl⟩
  · exact ⟨60, by decide, rfl⟩
theorem parts_D {rows rings : List Ln} (h : Good rows rings) {ps : List Part} (hp : PsOk ps) : gJoin (.str (", " : Str)) [.list (ps.map txD)] = some (.str (sOf (tOf ps))) := by
  have hl := hp.len
  have hj := join_parts (ps := ps.map pT) (fun p hp' => by
    obtain ⟨q, hq, rfl⟩ := List.mem_map.mp hp'
    have := (hp.ok q hq).1.text
    unfold pT tR
    split
    · rw [List.length_append, List.length_cons, List.length_singleton]
      omega
    · omega) (by rw [List.length_map]; omega)
  have e : (((ps.map pT).map sOf).map PyData.str) = ps.map txD := by
    rw [List.map_map, List.map_map]
    rfl
  rw [e] at hj
  exact hj
theorem turn06 (ns : List Int) (hl : ns.length ≤ 63) {rows rings : List Ln} (hg : Good rows rings) (a2 a4 a5 : Cell) (c8 c9 c10 c11 c12 c13 : Cell) (k : Int) (h0 : 0 ≤ k) (h1 : k + 1000 < 1000000) :
    ∃ (d8 d9 d10 d11 d12 d13 : Cell) (k' : Int), b_law06_3 [.sh (scr ns), .sh ctrD, a2, .sh (ydT (lyard rows rings)), a4, a5, .sh (.list (rows.map lnL)), .sh (.list (rings.map lnL)), c8, c9, c10, c11, c12, c13] k = some (.next [.sh (scr ns), .sh ctrD, a2, .sh (ydT (lyard rows rings)), a4, a5, .sh (.list (rows.map lnL)), .sh (.list (rings.map lnL)), d8, d9, d10, d11, d12, d13] k') ∧ k ≤ k' ∧ k' ≤ k + 300 := by
  have ll := hg.lines
  obtain ⟨ps1, e12, e13, k1, f1, ag1, b1, b2⟩ := again_loop ns hl false a2 (.sh (ydT (lyard rows rings))) a4 a5 (.sh (.list (rows.map lnL))) (.sh (.list (rings.map lnL))) c9 (.sh (.list (rows.map lnL))) rows [] c12 c13 k (fun l hl => ⟨hg.h1.ok l hl, hg.h1.ne l hl⟩) h0 (by omega) (by simp; omega)
  have lp : ∀ {s : Bool} {ps : List Part} {ls : List Ln}, Again s ps ls → ps.length = ls.length := fun {s ps ls} h => by
    induction h with
    | nil => rfl
    | cons a b c ih => rw [List.length_cons, List.length_cons, ih]
  have l1 := lp ag1
  obtain ⟨ps2, e12', e13', k2, f2, ag2, b3, b4⟩ := again_loop ns hl true a2 (.sh (ydT (lyard rows rings))) a4 a5 (.sh (.list (rows.map lnL))) (.sh (.list (rings.map lnL))) c9 (.sh (.list (rings.map lnL))) rings ps1 e12 e13 k1 (fun l hl => ⟨hg.h2.ok l hl, hg.h2.ne l hl⟩) (by omega) (by omega) (by omega)
  have l2 := lp ag2
  rw [List.nil_append] at f1
  obtain ⟨ps, f3, pp⟩ := shuf_D ns hl txD (ps1 ++ ps2) (by rw [List.length_append]; omega) k2 (by omega) (by rw [List.length_append]; omega)
  obtain ⟨gd, ey⟩ := shuf_good hg ag1 ag2 pp
  have pok := psok_of gd
  have rd := read_D pok gd (k2 + ((ps1 ++ ps2).length : Int))
  rw [ey] at rd
  refine ⟨.sh (.list ((ps1 ++ ps2).map txD)), .sh (.str (sOf (tOf ps))), .sh (.int 1), .sh (.list (rings.map lnL)), e12', e13', k2 + ((ps1 ++ ps2).length : Int), ?_, by omega, by rw [List.length_append]; omega⟩
  refine stS (stL rfl) (stS (stF (evNL (evA (evN (evA rfl (evA rfl evA0)) rfl) evA0) rfl) (forStep rfl (stF (evI rfl rfl) f1) (forStep rfl (stF (evI rfl rfl) f2) rfl))) (stZ rfl (stS (stA (evM rfl (evA (evL (evCL (evA rfl (evA rfl (evA rfl evA0))) f3)) evA0) (parts_D gd pok))) (stIF (repr_ne hg.least (evCX (evA rfl evA0) rd) rfl) rfl))))
theorem isi_str (x : Str) : gIsi "str" (.str x) = some (.bool true) := by
  have h : kitB "str" "str" = some true := by decide +kernel
  show (kitB "str" "str").map PyData.bool = _
  rw [h]
  rfl
theorem law06 (ns : List Int) (hl : ns.length ≤ 63) : lawRun 14 1 b_law06 ns = some (.bool true) := by
  obtain ⟨w, hw, e1⟩ := draw_N ns hl 0 6 (by decide) (by decide) (by decide)
  obtain ⟨many, hm, e2⟩ := many6 w hw
  obtain ⟨xs, e3, hlen, nd, hx⟩ := names_eq ns hl (0 + 1) many (by decide) (by decide) (by omega)
  obtain ⟨rows, rings, k1, e4, dr, b1, b2⟩ := rows_eq ns hl xs hx (by omega) (0 + 1 + 4) (by decide) (by decide)
  have hg := dr.good hx nd (by omega)
  have e5 := law_yard_D (lines_lists rows) (lines_lists rings) hg.h1 hg.h2 k1
  have gl := hg.least
  have e6 := fun k => written_D gl.y k
  have e7 := law_text_D (y := lyard rows rings) (lines_tuples _) (lines_tuples _) gl.y k1
  have tp : tYd (lyard rows rings) = tOf (partsOf (lyard rows rings)) := tYd_parts _
  have pok : PsOk (partsOf (lyard rows rings)) := gl.parts
  have sm : ∀ c ∈ tYd (lyard rows rings), c < 128 := by
    rw [tp]
    exact tOf_small pok
  have rd : x_read [.str (sOf (tYd (lyard rows rings)))] k1 = some (.val (ydT (lyard rows rings)) k1) := by
    have := read_D (ps := partsOf (lyard rows rings)) pok (by rw [rows_parts, rings_parts]; exact gl) k1
    rw [rows_parts, rings_parts, least_least hg] at this
    rw [tp]
    exact this
  have ne := neS sm sm
  rw [decide_eq_true rfl] at ne
  let E : Dt → Cell → Cell → Cell → Cell → Cell → Cell → Cell → Ev := fun a2 c5 d8 d9 d10 d11 d12 d13 => [.sh (scr ns), .sh ctrD, .sh a2, .sh (ydT (lyard rows rings)), .sh (.str (sOf (tYd (lyard rows rings)))), c5, .sh (.list (rows.map lnL)), .sh (.list (rings.map lnL)), d8, d9, d10, d11, d12, d13]
  have loop : ∀ (ts : List Dt) (a2 : Dt) (c5 c8 c9 c10 c11 c12 c13 : Cell) (k : Int), 0 ≤ k → k + 300 * (ts.length : Int) + 2000 < 1000000 → ∃ (c5' d8 d9 d10 d11 d12 d13 : Cell) (k' : Int), forLoop (gSet 5) b_law06_3 ts (E a2 c5 c8 c9 c10 c11 c12 c13) k = some (.next (E a2 c5' d8 d9 d10 d11 d12 d13) k') := fun ts => by
    induction ts with
    | nil => exact fun a2 c5 c8 c9 c10 c11 c12 c13 k _ _ => ⟨c5, c8, c9, c10, c11, c12, c13, k, rfl⟩
    | cons t ts ih =>
      intro a2 c5 c8 c9 c10 c11 c12 c13 k h0 h1
      rw [List.length_cons] at h1
      obtain ⟨d8, d9, d10, d11, d12, d13, k', f, g1, g2⟩ := turn06 ns hl hg (.sh a2) (.sh (.str (sOf (tYd (lyard rows rings))))) (.sh t) c8 c9 c10 c11 c12 c13 k h0 (by omega)
      obtain ⟨c5', i8, i9, i10, i11, i12, i13, k'', f2⟩ := ih a2 (.sh t) d8 d9 d10 d11 d12 d13 k' (by omega) (by omega)
      exact ⟨c5', i8, i9, i10, i11, i12, i13, k'', forStep rfl f f2⟩
  obtain ⟨c5', d8, d9, d10, d11, d12, d13, k2, lp⟩ := loop [.int 0, .int 1, .int 2] (.list (xs.map .str)) .un .un .un .un .un .un .un k1 (by omega) (by simp; omega)
  have run : b_law06 (lawEnv 14 1 ns) 0 = some (.ret (.bool true) k2) := by
    refine stS (stA (evL (evCL (evA rfl (evA rfl (evA (evB (evL (evNL (evA rfl (evA rfl (evA rfl (evA rfl (evA rfl (evA rfl evA0)))))) rfl)) (evC (evA rfl (evA rfl (evA rfl evA0))) e1) e2) evA0))) e3))) (stS (stG (evC (evA rfl (evA rfl (evA rfl evA0))) e4) rfl) (stS (stA (evC (evA rfl (evA rfl evA0)) e5)) (stS (stA (evC (evA rfl evA0) (e6 k1))) (stS (stIF (evOrF (evV (evB rfl (evC (evA rfl evA0) e7) ne)) (evOrF (evNot (evV (b := true) (evU rfl (isi_str _)))) (repr_ne gl (evCX (evA rfl evA0) rd) rfl))) rfl) (stS (stF (evNL (evA rfl evA0) rfl) lp) (stR (evB (evC (evA rfl evA0) (e6 k2)) rfl (eqS sm))))))))
  unfold lawRun
  rw [run]
  rfl
end Mx

set_option Elab.async false
set_option linter.all false
set_option maxRecDepth 100000
set_option maxHeartbeats 1000000
/-! what the program asks of rows and rings, whatever they are -/
namespace Mx
open PySem PySem.Spec PyProof.Rows L2 Evl Dn Cm
open PySem.W (alike alikeAll keyToks dataLt minD TotalLe)

section
variable {ρ ρ' : Ev} {k k1 : Int} {d : Dt} {ds : List Dt} {s s2 : DS} {c : Str} {tg : DG} {body : DS} {x : Dt}
theorem stSR (h1 : s ρ k = some (.ret d k1)) : sSeq s s2 ρ k = some (.ret d k1) := by
  unfold sSeq
  rw [h1]
  rfl
theorem stSE (h1 : s ρ k = some (.exc c ρ' k1)) : sSeq s s2 ρ k = some (.exc c ρ' k1) := by
  unfold sSeq
  rw [h1]
  rfl
theorem forExc {ρ1 : Ev} (h1 : tg ρ x = some ρ1) (h2 : body ρ1 k = some (.exc c ρ' k1)) : forLoop tg body (x :: ds) ρ k = some (.exc c ρ' k1) := by simp [forLoop, h1, h2]
theorem stRz {g : DL} (h1 : g ρ k = some (ds, k1)) (h2 : ds.length ≤ 1000) : sRaise c g ρ k = some (.exc c ρ k1) := by
  unfold sRaise
  rw [h1]
  exact if_pos h2
end
mutual
/-- data as a law writes it: no object, nothing too long -/
inductive Pl : Dt → Prop
  | none : Pl .none
  | bool (b : Bool) : Pl (.bool b)
  | int (i : Int) : Pl (.int i)
  | str (x : Str) : PyData.strOk x = true → x.length ≤ 1000000 → Pl (.str x)
  | dict0 : Pl (.dict [])
  | list (ds : List Dt) : PlA ds → ds.length ≤ 450 → Pl (.list ds)
  | tup (ds : List Dt) : PlA ds → ds.length ≤ 450 → Pl (.tuple ds)
inductive PlA : List Dt → Prop
  | nil : PlA []
  | cons {d : Dt} {ds : List Dt} : Pl d → PlA ds → PlA (d :: ds)
end
theorem PlA.mem {ds : List Dt} : PlA ds → ∀ d ∈ ds, Pl d
  | .nil, d, h => (List.not_mem_nil h).elim
  | .cons a r, d, h => by
    rcases List.mem_cons.mp h with rfl | h
    · exact a
    · exact r.mem d h
theorem PlA.of {ds : List Dt} (h : ∀ d ∈ ds, Pl d) : PlA ds := by
  induction ds with
  | nil => exact .nil
  | cons d ds ih => exact .cons (h d List.mem_cons_self) (ih fun x hx => h x (List.mem_cons_of_mem _ hx))
theorem Pl.obj {d : Dt} (h : Pl d) : isObj d = false := by cases h <;> rfl
theorem Pl.tyEq {d : Dt} (h : Pl d) (T : String) : gTyEq T d = some (.bool (tyD d == T)) := by
  unfold gTyEq
  rw [if_neg (by rw [h.obj]; decide)]
theorem Pl.tyNe {d : Dt} (h : Pl d) (T : String) : gTyNe T d = some (.bool (!(tyD d == T))) := by
  unfold gTyNe
  rw [if_neg (by rw [h.obj]; decide)]
theorem chain_any {c : Nat} (h : c < 0x110000) (d : Dt) (k : Int) : e_is_name_1 [.sh d, .sh (.str (sOf [c]))] k = some (.bool (letter c), k) := by
  by_cases hl : letter c = true
  · rw [hl]
    exact chain_letter hl d k
  · have hl' : letter c = false := by simpa using hl
    rw [hl']
    have o1 : okD (.str ("a" : Str)) = true := okS a_ok
    have o3 : okD (.str ("z" : Str)) = true := okS z_ok
    have o2 : okD (.str (sOf [c])) = true := okS (by simp [PyData.strOk, sOf]; omega)
    have ca : (("a" : Str)).cps.toList = [97] := rfl
    have cz : (("z" : Str)).cps.toList = [122] := rfl
    by_cases z1 : c < 97
    · have g1 : gLe (.str ("a" : Str)) (.str (sOf [c])) = some (.bool false) := by
        unfold gLe
        rw [if_pos ⟨o1, o2⟩, leD_str, sOf_cps, ca]
        simp [lt_single, z1]
      exact evChF rfl rfl g1
    · have z2 : 122 < c := by
        simp only [letter, Bool.and_eq_true, decide_eq_true_eq] at hl
        omega
      have g1 : gLe (.str ("a" : Str)) (.str (sOf [c])) = some (.bool true) := by
        unfold gLe
        rw [if_pos ⟨o1, o2⟩, leD_str, sOf_cps, ca]
        simp [lt_single, z1]
      have g2 : gLe (.str (sOf [c])) (.str ("z" : Str)) = some (.bool false) := by
        unfold gLe
        rw [if_pos ⟨o2, o3⟩, leD_str, sOf_cps, cz]
        simp [lt_single, z2]
      exact evCh rfl rfl g1 rfl g2
def nameB : Dt → Bool
  | .str x => decide (1 ≤ x.length) && decide (x.length ≤ 8) && x.cps.toList.all letter
  | _ => false
theorem nameB_iff {d : Dt} : nameB d = true ↔ ∃ x, d = .str x ∧ IsName x := by
  constructor
  · intro h
    cases d with
    | str x =>
      simp only [nameB, Bool.and_eq_true, decide_eq_true_eq] at h
      exact ⟨x, rfl, ⟨h.1.1, h.1.2, h.2⟩⟩
    | _ => cases h
  · rintro ⟨x, rfl, h⟩
    simp only [nameB, Bool.and_eq_true, decide_eq_true_eq]
    exact ⟨⟨h.lo, h.hi⟩, h.lt⟩
theorem strOk_mem {x : Str} (h : PyData.strOk x = true) {c : Nat} (hc : c ∈ x.cps.toList) : c < 0x110000 := by
  simp only [PyData.strOk, Array.all_eq_true_iff_forall_mem] at h
  simpa using h c (by simpa using hc)
theorem is_name_any {d : Dt} (h : Pl d) (k : Int) : d_is_name [d] k = some (.bool (nameB d), k) := by
  by_cases hs : ∃ x, d = .str x
  · obtain ⟨x, rfl⟩ := hs
    cases h with
    | str _ ok hl =>
      have lenv : gLen [.str x] = some (.int (x.length : Int)) := lenS_D hl
      have lm : (x.cps.toList.map signD).length ≤ 1000000 := by rw [List.length_map]; exact hl
      by_cases h1 : 1 ≤ x.length
      · have c1 : gLe (.int 1) (.int (x.length : Int)) = some (.bool true) := by
          have : (1 : Int) ≤ (x.length : Int) := by omega
          simp [this]
        by_cases h8 : x.length ≤ 8
        · have c8 : gLe (.int (x.length : Int)) (.int 8) = some (.bool true) := by
            have : (x.length : Int) ≤ 8 := by omega
            simp [this]
          have c : lcLoop (wipeE [.sh (.str x), .un] [1]) (gSet 1) tAll e_is_name_1 (x.cps.toList.map signD) k = some (x.cps.toList.map (fun c => .bool (letter c)), k) :=
            lc_of signD _ fun c hc => ⟨_, rfl, chain_any (strOk_mem ok hc) _ k⟩
          have e : gAll [.list (x.cps.toList.map (fun c => PyData.bool (letter c)))] = some (.bool (x.cps.toList.all letter)) := by
            have e1 : x.cps.toList.map (fun c => PyData.bool (letter c)) = (x.cps.toList.map letter).map .bool := by rw [List.map_map]; rfl
            show (asBs (x.cps.toList.map (fun c => PyData.bool (letter c)))).map (fun bs => PyData.bool (bs.all id)) = _
            rw [e1, asBs_map, Option.map_some, List.all_map]
            rfl
          have r : nameB (.str x) = x.cps.toList.all letter := by
            show (decide (1 ≤ x.length) && decide (x.length ≤ 8) && x.cps.toList.all letter) = _
            rw [decide_eq_true h1, decide_eq_true h8]
            rfl
          rw [r]
          exact fnR rfl (stS (stIF (evOrF (evV rfl) (evNot (evV (b := true) (evCh rfl (evN (evA rfl evA0) lenv) c1 rfl c8)))) rfl) (stR (evN (evA (evL (evLc (evI rfl rfl) lm c)) evA0) e)))
        · have c8 : gLe (.int (x.length : Int)) (.int 8) = some (.bool false) := by
            have : ¬ (x.length : Int) ≤ 8 := by omega
            simp [this]
          have r : nameB (.str x) = false := by
            show (decide (1 ≤ x.length) && decide (x.length ≤ 8) && x.cps.toList.all letter) = _
            rw [decide_eq_false h8, Bool.and_false]
            rfl
          rw [r]
          exact fnR rfl (stSR (stIT (evOrF (evV rfl) (evNot (evV (b := false) (evCh rfl (evN (evA rfl evA0) lenv) c1 rfl c8)))) (stR rfl)))
      · have c1 : gLe (.int 1) (.int (x.length : Int)) = some (.bool false) := by
          have : ¬ (1 : Int) ≤ (x.length : Int) := by omega
          simp [this]
        have r : nameB (.str x) = false := by
          show (decide (1 ≤ x.length) && decide (x.length ≤ 8) && x.cps.toList.all letter) = _
          rw [decide_eq_false h1]
          rfl
        rw [r]
        exact fnR rfl (stSR (stIT (evOrF (evV rfl) (evNot (evV (b := false) (evChF rfl (evN (evA rfl evA0) lenv) c1)))) (stR rfl)))
  · have r : nameB d = false := by
      cases d with
      | str x => exact absurd ⟨x, rfl⟩ hs
      | _ => rfl
    have t : gTyNe "str" d = some (.bool true) := by
      rw [h.tyNe]
      cases d with
      | str x => exact absurd ⟨x, rfl⟩ hs
      | _ => rfl
    rw [r]
    exact fnR rfl (stSR (stIT (evOrT (evV (evU rfl t))) (stR rfl)))
end Mx

set_option Elab.async false
set_option linter.all false
set_option maxRecDepth 100000
set_option maxHeartbeats 1000000
/-! yard_of of anything -/
namespace Mx
open PySem PySem.Spec PyProof.Rows L2 Evl Dn Cm
open PySem.W (alike alikeAll keyToks dataLt minD TotalLe)

def pieceB : Dt → Bool
  | .tuple [n, .int z] => nameB n && (z == 1 || z == -1)
  | _ => false
theorem pieceB_iff {d : Dt} : pieceB d = true ↔ ∃ p : Pc, IsName p.1 ∧ d = pD p := by
  constructor
  · intro h
    unfold pieceB at h
    split at h
    · rename_i n z
      rw [Bool.and_eq_true] at h
      obtain ⟨x, rfl, hx⟩ := nameB_iff.mp h.1
      have : z = 1 ∨ z = -1 := by simpa using h.2
      rcases this with rfl | rfl
      · exact ⟨(x, true), hx, rfl⟩
      · exact ⟨(x, false), hx, rfl⟩
    · cases h
  · rintro ⟨⟨x, b⟩, hx, rfl⟩
    have : nameB (.str x) = true := nameB_iff.mpr ⟨x, rfl, hx⟩
    cases b <;> simp [pieceB, pD, wy, this]
theorem gIn_int (z : Int) : gIn (.int z) (.tuple [.int 1, .int (-1)]) = some (.bool (z == 1 || z == -1)) := by
  simp [okD_eq]
  by_cases h1 : z = 1
  · simp [h1]
  · by_cases h2 : z = -1
    · simp [h2]
    · have a1 : (z == 1) = false := by rw [beq_eq_false_iff_ne]; exact h1
      have a2 : (z == -1) = false := by rw [beq_eq_false_iff_ne]; exact h2
      have a3 : ((1 : Int) == z) = false := by rw [beq_eq_false_iff_ne]; exact fun e => h1 e.symm
      have a4 : ((-1 : Int) == z) = false := by rw [beq_eq_false_iff_ne]; exact fun e => h2 e.symm
      rw [a1, a2, a3, a4]
theorem lenT {ds : List Dt} (h : ds.length ≤ 1000000) : gLen [.tuple ds] = some (.int (ds.length : Int)) := if_pos h
theorem lenL {ds : List Dt} (h : ds.length ≤ 1000000) : gLen [.list ds] = some (.int (ds.length : Int)) := if_pos h
theorem neI (a b : Int) : gNe (.int a) (.int b) = some (.bool (!(a == b))) := by
  unfold gNe
  rw [if_pos ⟨by simp [okD_eq], by simp [okD_eq]⟩, eqv_int_int]
theorem is_piece_any {d : Dt} (h : Pl d) (k : Int) : d_is_piece [d] k = some (.bool (pieceB d), k) := by
  have inner : d__is_name_with [d, .tuple [.int 1, .int (-1)]] k = some (.bool (pieceB d), k) := by
    by_cases ht : ∃ ds, d = .tuple ds
    · obtain ⟨ds, rfl⟩ := ht
      cases h with
      | tup _ pa hl =>
        have hl2 := lenT (ds := ds) (by omega)
        by_cases h2 : ds.length = 2
        · obtain ⟨n, w, rfl⟩ : ∃ n w, ds = [n, w] := by
            match ds, h2 with
            | [n, w], _ => exact ⟨n, w, rfl⟩
          have pn := pa.mem n List.mem_cons_self
          have pw := pa.mem w (by simp)
          have ne2 : gNe (.int 2) (.int 2) = some (.bool false) := neI 2 2
          have rest : b__is_name_with (startE 4 [.tuple [n, w], .tuple [.int 1, .int (-1)]]) k = some (.ret (.bool (pieceB (.tuple [n, w]))) k) := by
            refine stS (stIF (evOrF (evV rfl) (evV (evB (evN (evA rfl evA0) hl2) rfl ne2))) rfl) (stS (stG rfl rfl) (stR ?_))
            cases hn : nameB n with
            | false =>
              have nm := is_name_any pn k
              rw [hn] at nm
              have e : pieceB (.tuple [n, w]) = false := by
                unfold pieceB
                split
                · rename_i n' z e
                  cases e
                  rw [hn]
                  rfl
                · rfl
              rw [e]
              exact evvAndF (evC (evA rfl evA0) nm)
            | true =>
              have nm := is_name_any pn k
              rw [hn] at nm
              by_cases hw : ∃ z, w = .int z
              · obtain ⟨z, rfl⟩ := hw
                have e : pieceB (.tuple [n, .int z]) = (z == 1 || z == -1) := by
                  show (nameB n && _) = _
                  rw [hn]
                  rfl
                rw [e]
                exact evvAndT (evC (evA rfl evA0) nm) (evvAndT (evU rfl (pw.tyEq "int")) (evB rfl rfl (gIn_int z)))
              · have e : pieceB (.tuple [n, w]) = false := by
                  unfold pieceB
                  split
                  · rename_i n' z e
                    cases e
                    exact absurd ⟨z, rfl⟩ hw
                  · rfl
                have te : gTyEq "int" w = some (.bool false) := by
                  rw [pw.tyEq]
                  cases w with
                  | int z => exact absurd ⟨z, rfl⟩ hw
                  | _ => rfl
                rw [e]
                exact evvAndT (evC (evA rfl evA0) nm) (evvAndF (evU rfl te))
          exact fnR rfl rest
        · have ne2 : gNe (.int (ds.length : Int)) (.int 2) = some (.bool true) := by
            rw [neI]
            have : ((ds.length : Int) == 2) = false := by
              rw [beq_eq_false_iff_ne]
              omega
            rw [this]
            rfl
          have e : pieceB (.tuple ds) = false := by
            unfold pieceB
            split
            · rename_i n z e
              cases e
              exact absurd rfl h2
            · rfl
          rw [e]
          exact fnR rfl (stSR (stIT (evOrF (evV rfl) (evV (evB (evN (evA rfl evA0) hl2) rfl ne2))) (stR rfl)))
    · have e : pieceB d = false := by
        unfold pieceB
        split
        · exact absurd ⟨_, rfl⟩ ht
        · rfl
      have t : gTyNe "tuple" d = some (.bool true) := by
        rw [h.tyNe]
        cases d with
        | tuple ds => exact absurd ⟨ds, rfl⟩ ht
        | _ => rfl
      rw [e]
      exact fnR rfl (stSR (stIT (evOrT (evV (evU rfl t))) (stR rfl)))
  exact fnR rfl (stR (evC (evA rfl (evA rfl evA0)) inner))
theorem fstr_of {ρ : Ev} {k k1 : Int} {g : DL} {ds : List Dt} {ys : List Str} (h1 : g ρ k = some (ds, k1)) (h2 : asSs ds = some ys) (h3 : (ys.foldl (· ++ ·) Str.empty).length ≤ 1000000) : dFstr g ρ k = some (.str (ys.foldl (· ++ ·) Str.empty), k1) := by
  unfold dFstr
  rw [h1, Option.bind_some, h2, Option.bind_some, if_pos h3]
theorem cat3 (a b c : Str) : ([a, b, c].foldl (· ++ ·) Str.empty).length = a.length + b.length + c.length := by
  have key : ∀ x y : Str, (x ++ y).length = x.length + y.length := fun x y => by
    show (x.cps ++ y.cps).size = _
    rw [Array.size_append]
    rfl
  show (((Str.empty ++ a) ++ b) ++ c).length = _
  rw [key, key, key]
  show 0 + a.length + _ + _ = _
  omega
theorem f3 {ρ : Ev} {k : Int} {a b c : Str} {f : DE} (hf : f ρ k = some (.str b, k)) (hl : a.length + b.length + c.length ≤ 1000000) : ∃ ds, (aCons (dFstr (aCons (dC (.str a)) (aCons f (aCons (dC (.str c)) aNil)))) aNil) ρ k = some (ds, k) ∧ ds.length ≤ 1000 := by
  have h1 : (aCons (dC (.str a)) (aCons f (aCons (dC (.str c)) aNil))) ρ k = some ([.str a, .str b, .str c], k) := evA rfl (evA hf (evA rfl evA0))
  exact ⟨_, evA (fstr_of h1 rfl (by rw [cat3]; exact hl)) evA0, by simp⟩
theorem len_name_ : ("the name " : Str).length = 9 := by decide +kernel
theorem len_twice_ : (" is there twice" : Str).length = 15 := by decide +kernel
theorem fmt_twice {x : Str} (h : IsName x) {ρ : Ev} {k : Int} (h4 : ρ[4]? = some (.sh (.str x))) : ∃ ds, (aCons (dFstr (aCons (dC (.str ("the name " : Str))) (aCons (dU gFmt (dVar 4)) (aCons (dC (.str (" is there twice" : Str))) aNil)))) aNil) ρ k = some (ds, k) ∧ ds.length ≤ 1000 := by
  have h8 := h.hi
  have g : gFmt (.str x) = some (.str x) := if_pos (by omega)
  refine f3 (evU (evSh h4) g) ?_
  rw [len_name_, len_twice_]
  omega
theorem need_line_any {d0 c2 : Cell} : ∀ (ds : List Dt) (seen : List Str) (c3 c4 c5 : Cell) (k : Int), (∀ d ∈ ds, Pl d) → seen.Nodup → seen.length + ds.length ≤ 4000 →
    (∃ (l : Ln) (c3' c4' c5' : Cell), ds = l.map pD ∧ (∀ p ∈ l, IsName p.1) ∧ (seen ++ l.map (·.1)).Nodup ∧ forLoop (gSet 3) b__need_pieces_1 ds [d0, .os (seen.map .str), c2, c3, c4, c5] k = some (.next [d0, .os ((seen ++ l.map (·.1)).map .str), c2, c3', c4', c5'] k)) ∨
    (∃ ρ', forLoop (gSet 3) b__need_pieces_1 ds [d0, .os (seen.map .str), c2, c3, c4, c5] k = some (.exc ("BadYard" : Str) ρ' k))
  | [], seen, c3, c4, c5, k, _, nd, _ => .inl ⟨[], c3, c4, c5, rfl, fun p hp => (List.not_mem_nil hp).elim, by simpa using nd, by simp [forLoop]⟩
  | d :: ds, seen, c3, c4, c5, k, hp, nd, few => by
    rw [List.length_cons] at few
    have pd := hp d List.mem_cons_self
    have ip := is_piece_any pd k
    cases hb : pieceB d with
    | false =>
      rw [hb] at ip
      exact .inr ⟨_, forExc (ρ1 := [d0, .os (seen.map .str), c2, .sh d, c4, c5]) rfl (stSE (stIT (evNot (b := false) (evV (evC (evA rfl evA0) ip))) (stRz (evA rfl evA0) (by simp))))⟩
    | true =>
      rw [hb] at ip
      obtain ⟨p, hn, rfl⟩ := pieceB_iff.mp hb
      cases hm : decide (p.1 ∈ seen) with
      | true =>
        have hm' : memD (.str p.1) (seen.map .str) = true := by rw [memS, hm]
        obtain ⟨es, f1, f2⟩ := fmt_twice hn (ρ := [d0, .os (seen.map .str), c2, .sh (pD p), .sh (.str p.1), .sh (.int (wy p.2))]) (k := k) rfl
        refine .inr ⟨_, forExc (ρ1 := [d0, .os (seen.map .str), c2, .sh (pD p), c4, c5]) (k1 := k) rfl (stS (stIF (evNot (evV (evC (evA rfl evA0) ip))) rfl) (stS (stG rfl rfl) (stSE (stIT (k1 := k) (evV (b := true) ?_) (stRz f1 f2)))))⟩
        show (some (PyData.bool (if false = true then !memD (.str p.1) (seen.map .str) else memD (.str p.1) (seen.map .str)), k)) = _
        rw [hm']
        rfl
      | false =>
        have hm' : memD (.str p.1) (seen.map .str) = false := by rw [memS, hm]
        have hnot : p.1 ∉ seen := of_decide_eq_false hm
        have nd' : (seen ++ [p.1]).Nodup := List.nodup_append.mpr ⟨nd, by simp, fun a ha b hb => by
          rw [List.mem_singleton.mp hb]
          rintro rfl
          exact hnot ha⟩
        have step : b__need_pieces_1 [d0, .os (seen.map .str), c2, .sh (pD p), c4, c5] k = some (.next [d0, .os ((seen ++ [p.1]).map .str), c2, .sh (pD p), .sh (.str p.1), .sh (.int (wy p.2))] k) := by
          refine stS (stIF (evNot (evV (evC (evA rfl evA0) ip))) rfl) (stS (stG rfl rfl) (stS (stIF (k1 := k) (evV (b := false) ?_) (o := .next _ k) rfl) ?_))
          · show (some (PyData.bool (if false = true then !memD (.str p.1) (seen.map .str) else memD (.str p.1) (seen.map .str)), k)) = _
            rw [hm']
            rfl
          · have hl : (seen.map PyData.str).length ≤ 4000 := by rw [List.length_map]; omega
            show (if (seen.map PyData.str).length ≤ 4000 then _ else _) = _
            rw [if_pos hl]
            unfold addD
            rw [hm']
            simp
        have e : ∀ l : Ln, (seen ++ [p.1]) ++ l.map (·.1) = seen ++ (p :: l).map (·.1) := fun l => by rw [List.append_assoc]; rfl
        rcases need_line_any (d0 := d0) (c2 := c2) ds (seen ++ [p.1]) (.sh (pD p)) (.sh (.str p.1)) (.sh (.int (wy p.2))) k (fun q hq => hp q (List.mem_cons_of_mem _ hq)) nd' (by rw [List.length_append, List.length_singleton]; omega) with ⟨l, c3', c4', c5', e1, e2, e3, e4⟩ | ⟨ρ', e4⟩
        · rw [e] at e3 e4
          subst e1
          refine .inl ⟨p :: l, c3', c4', c5', rfl, fun q hq => ?_, e3, forStep rfl step e4⟩
          rcases List.mem_cons.mp hq with rfl | hq
          · exact hn
          · exact e2 q hq
        · exact .inr ⟨ρ', forStep rfl step e4⟩
end Mx

set_option Elab.async false
set_option linter.all false
set_option maxRecDepth 100000
set_option maxHeartbeats 1000000
/-! yard_of and need_yard of anything -/
namespace Mx
open PySem PySem.Spec PyProof.Rows L2 Evl Dn Cm
open PySem.W (alike alikeAll keyToks dataLt minD TotalLe)

/-- a line: a list or a tuple of plain things -/
def LnD (d : Dt) : Prop := ∃ es, SeqOf d es ∧ (∀ e ∈ es, Pl e) ∧ es.length ≤ 450
theorem Pl.lnd_list {es : List Dt} (h : Pl (.list es)) : LnD (.list es) := by
  cases h with
  | list _ a b => exact ⟨es, .lst _, a.mem, b⟩
theorem Pl.lnd_tup {es : List Dt} (h : Pl (.tuple es)) : LnD (.tuple es) := by
  cases h with
  | tup _ a b => exact ⟨es, .tup _, a.mem, b⟩
theorem SeqOf.len {d : Dt} {es : List Dt} (h : SeqOf d es) (hl : es.length ≤ 1000000) : gLen [d] = some (.int (es.length : Int)) := by
  cases h
  · exact lenL hl
  · exact lenT hl
theorem eqN (n : Nat) : gEq (.int (n : Int)) (.int 0) = some (.bool (decide (n = 0))) := eq0 n
abbrev LsRel : List Dt → List Ln → Prop := Rel2 (fun d (l : Ln) => SeqOf d (l.map pD))
def itN : Dt → Nat
  | .list es => es.length
  | .tuple es => es.length
  | _ => 0
theorem SeqOf.itN {d : Dt} {es : List Dt} (h : SeqOf d es) : itN d = es.length := by cases h <;> rfl
def szD (ds : List Dt) : Nat := (ds.map itN).sum
theorem need_lines_any {d0 : Cell} : ∀ (ds : List Dt) (seen : List Str) (c2 c3 c4 c5 : Cell) (k : Int), (∀ d ∈ ds, LnD d) → seen.Nodup → seen.length + szD ds ≤ 4000 →
    (∃ (ls : List Ln) (c2' c3' c4' c5' : Cell), LsRel ds ls ∧ (∀ l ∈ ls, LnOk l ∧ l ≠ []) ∧ (seen ++ nms ls).Nodup ∧ forLoop (gSet 2) b__need_pieces_2 ds [d0, .os (seen.map .str), c2, c3, c4, c5] k = some (.next [d0, .os ((seen ++ nms ls).map .str), c2', c3', c4', c5'] k)) ∨
    (∃ ρ', forLoop (gSet 2) b__need_pieces_2 ds [d0, .os (seen.map .str), c2, c3, c4, c5] k = some (.exc ("BadYard" : Str) ρ' k))
  | [], seen, c2, c3, c4, c5, k, _, nd, _ => .inl ⟨[], c2, c3, c4, c5, .nil, fun l h => (List.not_mem_nil h).elim, by simpa [nms] using nd, by simp [forLoop, nms]⟩
  | d :: ds, seen, c2, c3, c4, c5, k, hd, nd, few => by
    obtain ⟨es, sq, pe, hl⟩ := hd d List.mem_cons_self
    have few : seen.length + (es.length + szD ds) ≤ 4000 := by
      unfold szD at few ⊢
      rw [List.map_cons, List.sum_cons, sq.itN] at few
      exact few
    have gl := sq.len (by omega)
    by_cases he : es = []
    · subst he
      have e0 : gEq (.int (([] : List Dt).length : Int)) (.int 0) = some (.bool true) := eq0 0
      exact .inr ⟨_, forExc (ρ1 := [d0, .os (seen.map .str), .sh d, c3, c4, c5]) rfl (stSE (stIT (evV (evB (evN (evA rfl evA0) gl) rfl e0)) (stRz (evA rfl evA0) (by simp))))⟩
    · have e0 : gEq (.int (es.length : Int)) (.int 0) = some (.bool false) := by
        rw [eq0, decide_eq_false]
        exact fun z => he (List.length_eq_zero_iff.mp z)
      rcases need_line_any (d0 := d0) (c2 := .sh d) es seen c3 c4 c5 k pe nd (by omega) with ⟨l, c3', c4', c5', e1, e2, e3, e4⟩ | ⟨ρ', e4⟩
      · subst e1
        have ls : l.length ≤ 450 := by rwa [List.length_map] at hl
        have step : b__need_pieces_2 [d0, .os (seen.map .str), .sh d, c3, c4, c5] k = some (.next [d0, .os ((seen ++ l.map (·.1)).map .str), .sh d, c3', c4', c5'] k) :=
          stS (stIF (evV (evB (evN (evA rfl evA0) gl) rfl e0)) rfl) (stF (evI rfl sq.items) e4)
        have en : ∀ ls : List Ln, (seen ++ l.map (·.1)) ++ nms ls = seen ++ nms (l :: ls) := fun ls => by simp [nms]
        have lne : l ≠ [] := fun z => he (by rw [z]; rfl)
        rcases need_lines_any (d0 := d0) ds (seen ++ l.map (·.1)) (.sh d) c3' c4' c5' k (fun x hx => hd x (List.mem_cons_of_mem _ hx)) e3 (by
          rw [List.length_map] at few
          rw [List.length_append, List.length_map]
          omega) with ⟨ls', c2'', c3'', c4'', c5'', f1, f2, f3, f4⟩ | ⟨ρ', f4⟩
        · rw [en] at f3 f4
          refine .inl ⟨l :: ls', c2'', c3'', c4'', c5'', .cons sq f1, fun r hr => ?_, f3, forStep rfl step f4⟩
          rcases List.mem_cons.mp hr with rfl | hr
          · exact ⟨⟨e2, by omega⟩, lne⟩
          · exact f2 r hr
        · exact .inr ⟨ρ', forStep rfl step f4⟩
      · exact .inr ⟨ρ', forExc rfl (stS (stIF (evV (evB (evN (evA rfl evA0) gl) rfl e0)) rfl) (stF (evI rfl sq.items) e4))⟩
theorem len_more_ : ("the yard has more than " : Str).length = 23 := by decide +kernel
theorem len_60_ : (toString (60 : Int) : Str).length = 2 := by decide +kernel
theorem len_pieces_ : (" pieces" : Str).length = 7 := by decide +kernel
theorem fmt60 : gFmt (.int 60) = some (.str (toString (60 : Int))) := by
  have h : (60 : Int).natAbs.log2 < 1920 := by decide +kernel
  unfold gFmt
  exact if_pos h
theorem need_pieces_any (ds : List Dt) (hd : ∀ d ∈ ds, LnD d) (few : szD ds ≤ 4000) (k : Int) :
    (∃ ls : List Ln, LsRel ds ls ∧ (∀ l ∈ ls, LnOk l ∧ l ≠ []) ∧ (nms ls).Nodup ∧ (nms ls).length ≤ 60 ∧ x__need_pieces [.list ds] k = some (.val .none k)) ∨ x__need_pieces [.list ds] k = some (.exc ("BadYard" : Str) k) := by
  rcases need_lines_any (d0 := .sh (.list ds)) ds [] .un .un .un .un k hd List.nodup_nil (by simpa using few) with ⟨ls, c2, c3, c4, c5, h1, h2, h3, h4⟩ | ⟨ρ', h4⟩
  · rw [List.nil_append] at h3 h4
    by_cases h60 : (nms ls).length ≤ 60
    · have hg : gGt (.int ((nms ls).map PyData.str).length) (.int 60) = some (.bool false) := by
        rw [List.length_map]
        have : ¬ (60 < ((nms ls).length : Int)) := by omega
        simp [this]
      exact .inl ⟨ls, h1, h2, h3, h60, fnXN rfl (stS (ρ' := [.sh (.list ds), .os [], .un, .un, .un, .un]) rfl (stS (stF (evI rfl rfl) h4) (stIF (evV (evB rfl rfl hg)) rfl)))⟩
    · have hg : gGt (.int ((nms ls).map PyData.str).length) (.int 60) = some (.bool true) := by
        rw [List.length_map]
        have : (60 < ((nms ls).length : Int)) := by omega
        simp [this]
      obtain ⟨es, f1, f2⟩ := f3 (a := ("the yard has more than " : Str)) (c := (" pieces" : Str)) (f := dU gFmt (dC (.int 60))) (b := toString (60 : Int)) (ρ := [.sh (.list ds), .os ((nms ls).map .str), c2, c3, c4, c5]) (k := k) (evU rfl fmt60) (by rw [len_more_, len_60_, len_pieces_]; decide)
      exact .inr (fnXE rfl (stS (ρ' := [.sh (.list ds), .os [], .un, .un, .un, .un]) rfl (stS (stF (evI rfl rfl) h4) (stIT (evV (evB rfl rfl hg)) (stRz f1 f2)))))
  · exact .inr (fnXE rfl (stS (ρ' := [.sh (.list ds), .os [], .un, .un, .un, .un]) rfl (stSE (stF (evI rfl rfl) h4))))
/-! ### data that is alike is the same when == says so -/
mutual
theorem eqv_alike : ∀ x y : Dt, alike x y = true → (PyData.eqv x y = true ↔ x = y)
  | .none, y, h => by
    cases y <;> simp [alike] at h
    simp
  | .bool a, y, h => by
    cases y <;> simp [alike] at h
    simp
  | .int a, y, h => by
    cases y <;> simp [alike] at h
    simp
  | .str a, y, h => by
    cases y <;> simp [alike] at h
    simp
  | .list xs, y, h => by
    cases y <;> simp [alike] at h
    simpa using eqvAll_alike xs _ h
  | .tuple xs, y, h => by
    cases y <;> simp [alike] at h
    simpa using eqvAll_alike xs _ h
  | .dict _, y, h => by cases y <;> simp [alike] at h
theorem eqvAll_alike : ∀ xs ys : List Dt, alikeAll xs ys = true → (PyData.eqvAll xs ys = true ↔ xs = ys)
  | [], [], _ => by simp
  | [], y :: ys, _ => by simp
  | x :: xs, [], _ => by simp
  | x :: xs, y :: ys, h => by
    simp only [alikeAll, Bool.and_eq_true] at h
    have h1 := eqv_alike x y h.1
    have h2 := eqvAll_alike xs ys h.2
    simp [h1, h2]
end
theorem alike_lines : ∀ a b : List Ln, alikeAll (a.map lnT) (b.map lnT) = true
  | [], _ => by simp [alikeAll]
  | a :: as, [] => by simp [alikeAll]
  | a :: as, b :: bs => by simp [alikeAll, alike_ln, alike_lines as bs]
theorem alike_yd (a b : Yd) : alike (ydT a) (ydT b) = true := by
  unfold ydT
  simp [alike, alikeAll, alike_lines]
theorem lines_inj {a b : List Ln} (h : a.map lnT = b.map lnT) : a = b := map_inj (fun _ _ e => lnT_inj e) h
theorem ydT_inj {a b : Yd} (h : ydT a = ydT b) : a = b := by
  unfold ydT at h
  simp only [PyData.tuple.injEq, List.cons.injEq, and_true] at h
  exact Prod.ext (lines_inj h.1) (lines_inj h.2)
theorem Fine.ok {D W : Nat} {d : Dt} (h : Fine D W d) (h1 : D ≤ 64) : okD d = true := by
  rw [okD_eq, h.lay, decide_eq_true (Nat.le_trans h.dep h1)]
  rfl
theorem neY {r1 g1 r2 g2 : List Ln} (h1 : Good r1 g1) (h2 : Good r2 g2) : gNe (ydT (r1, g1)) (ydT (r2, g2)) = some (.bool (!decide ((r1, g1) = (r2, g2)))) := by
  unfold gNe
  rw [if_pos ⟨h1.fine.ok (by decide), h2.fine.ok (by decide)⟩]
  congr 3
  by_cases e : (r1, g1) = (r2, g2)
  · rw [decide_eq_true e, (eqv_alike _ _ (alike_yd _ _)).mpr (by rw [e])]
  · rw [decide_eq_false e]
    have : ¬ PyData.eqv (ydT (r1, g1)) (ydT (r2, g2)) = true := fun z => e (ydT_inj ((eqv_alike _ _ (alike_yd _ _)).mp z))
    simpa using this
/-! ### yard_of, need_yard -/
theorem Rel2.split {α β : Type} {R : α → β → Prop} : ∀ {as bs : List α} {xs : List β}, Rel2 R (as ++ bs) xs → ∃ ys zs, xs = ys ++ zs ∧ Rel2 R as ys ∧ Rel2 R bs zs
  | [], bs, xs, h => ⟨[], xs, rfl, .nil, h⟩
  | a :: as, bs, _, .cons r h => by
    obtain ⟨ys, zs, e, h1, h2⟩ := Rel2.split h
    exact ⟨_ :: ys, zs, by rw [e]; rfl, .cons r h1, h2⟩
theorem rel_lists : ∀ {ds : List Dt} {ls : List Ln}, LsRel ds ls → (∀ d ∈ ds, ∃ es, d = .list es) → ds = ls.map lnL
  | _, _, .nil, _ => rfl
  | d :: ds, l :: ls, .cons r h, hd => by
    obtain ⟨es, rfl⟩ := hd d List.mem_cons_self
    cases r
    rw [rel_lists h fun x hx => hd x (List.mem_cons_of_mem _ hx)]
    rfl
theorem rel_tuples : ∀ {ds : List Dt} {ls : List Ln}, LsRel ds ls → (∀ d ∈ ds, ∃ es, d = .tuple es) → ds = ls.map lnT
  | _, _, .nil, _ => rfl
  | d :: ds, l :: ls, .cons r h, hd => by
    obtain ⟨es, rfl⟩ := hd d List.mem_cons_self
    cases r
    rw [rel_tuples h fun x hx => hd x (List.mem_cons_of_mem _ hx)]
    rfl
end Mx

set_option Elab.async false
set_option linter.all false
set_option maxRecDepth 100000
set_option maxHeartbeats 1000000
/-! yard_of and need_yard of anything, the end -/
namespace Mx
open PySem PySem.Spec PyProof.Rows L2 Evl Dn Cm
open PySem.W (alike alikeAll keyToks dataLt minD TotalLe)

theorem gAll_map {α : Type} (f : α → Bool) (xs : List α) : gAll [.list (xs.map fun x => .bool (f x))] = some (.bool (xs.all f)) := by
  have e1 : xs.map (fun x => PyData.bool (f x)) = (xs.map f).map .bool := by rw [List.map_map]; rfl
  show (asBs (xs.map fun x => PyData.bool (f x))).map (fun bs => PyData.bool (bs.all id)) = _
  rw [e1, asBs_map, Option.map_some, List.all_map]
  rfl
theorem tyD_list {d : Dt} : (tyD d == "list") = true ↔ ∃ es, d = .list es := by
  cases d <;> simp [tyD]
theorem tyD_tuple {d : Dt} : (tyD d == "tuple") = true ↔ ∃ es, d = .tuple es := by
  cases d <;> simp [tyD]
def lolB : Dt → Bool
  | .list ds => ds.all fun d => tyD d == "list"
  | _ => false
def totB : Dt → Bool
  | .tuple ds => ds.all fun d => tyD d == "tuple"
  | _ => false
def pairB : Dt → Bool
  | .tuple [a, b] => totB a && totB b
  | _ => false
theorem lol_any {d : Dt} (h : Pl d) (k : Int) : d__is_list_of_lists [d] k = some (.bool (lolB d), k) := by
  by_cases hs : ∃ ds, d = .list ds
  · obtain ⟨ds, rfl⟩ := hs
    cases h with
    | list _ pa hl =>
      have c : lcLoop (wipeE [.sh (.list ds), .un] [1]) (gSet 1) tAll e__is_list_of_lists_1 (ds.map id) k = some (ds.map (fun d => .bool (tyD d == "list")), k) :=
        lc_of id _ fun d hd => ⟨_, rfl, evU rfl ((pa.mem d hd).tyEq "list")⟩
      rw [List.map_id] at c
      exact fnR rfl (stR (evvAndT rfl (evN (evA (evL (evLc (evI rfl rfl) (by omega) c)) evA0) (gAll_map _ _))))
  · have t : gTyEq "list" d = some (.bool false) := by
      rw [h.tyEq]
      cases d with
      | list x => exact absurd ⟨x, rfl⟩ hs
      | _ => rfl
    have e : lolB d = false := by
      cases d with
      | list x => exact absurd ⟨x, rfl⟩ hs
      | _ => rfl
    rw [e]
    exact fnR rfl (stR (evvAndF (evU rfl t)))
theorem tot_any {d : Dt} (h : Pl d) (k : Int) : d__is_tuple_of_tuples [d] k = some (.bool (totB d), k) := by
  by_cases hs : ∃ ds, d = .tuple ds
  · obtain ⟨ds, rfl⟩ := hs
    cases h with
    | tup _ pa hl =>
      have c : lcLoop (wipeE [.sh (.tuple ds), .un] [1]) (gSet 1) tAll e__is_tuple_of_tuples_1 (ds.map id) k = some (ds.map (fun d => .bool (tyD d == "tuple")), k) :=
        lc_of id _ fun d hd => ⟨_, rfl, evU rfl ((pa.mem d hd).tyEq "tuple")⟩
      rw [List.map_id] at c
      exact fnR rfl (stR (evvAndT rfl (evN (evA (evL (evLc (evI rfl rfl) (by omega) c)) evA0) (gAll_map _ _))))
  · have t : gTyEq "tuple" d = some (.bool false) := by
      rw [h.tyEq]
      cases d with
      | tuple x => exact absurd ⟨x, rfl⟩ hs
      | _ => rfl
    have e : totB d = false := by
      cases d with
      | tuple x => exact absurd ⟨x, rfl⟩ hs
      | _ => rfl
    rw [e]
    exact fnR rfl (stR (evvAndF (evU rfl t)))
theorem pair_any {d : Dt} (h : Pl d) (k : Int) : d__is_pair_of_tuples [d] k = some (.bool (pairB d), k) := by
  by_cases hs : ∃ ds, d = .tuple ds
  · obtain ⟨ds, rfl⟩ := hs
    cases h with
    | tup _ pa hl =>
      have hl2 := lenT (ds := ds) (by omega)
      by_cases h2 : ds.length = 2
      · obtain ⟨a, b, rfl⟩ : ∃ a b, ds = [a, b] := by
          match ds, h2 with
          | [n, w], _ => exact ⟨n, w, rfl⟩
        have ne2 : gNe (.int 2) (.int 2) = some (.bool false) := neI 2 2
        have c : lcLoop (wipeE [.sh (.tuple [a, b]), .un] [1]) (gSet 1) tAll e__is_pair_of_tuples_1 ([a, b].map id) k = some ([a, b].map (fun d => .bool (totB d)), k) :=
          lc_of id _ fun d hd => ⟨_, rfl, evC (evA rfl evA0) (tot_any (pa.mem d hd) k)⟩
        rw [List.map_id] at c
        have e : pairB (.tuple [a, b]) = [a, b].all totB := by simp [pairB]
        rw [e]
        exact fnR rfl (stS (stIF (evOrF (evV rfl) (evV (evB (evN (evA rfl evA0) hl2) rfl ne2))) rfl) (stR (evN (evA (evL (evLc (evI rfl rfl) (by simp) c)) evA0) (gAll_map _ _))))
      · have ne2 : gNe (.int (ds.length : Int)) (.int 2) = some (.bool true) := by
          rw [neI]
          have : ((ds.length : Int) == 2) = false := by
            rw [beq_eq_false_iff_ne]
            omega
          rw [this]
          rfl
        have e : pairB (.tuple ds) = false := by
          unfold pairB
          split
          · rename_i a b e
            cases e
            exact absurd rfl h2
          · rfl
        rw [e]
        exact fnR rfl (stSR (stIT (evOrF (evV rfl) (evV (evB (evN (evA rfl evA0) hl2) rfl ne2))) (stR rfl)))
  · have e : pairB d = false := by
      unfold pairB
      split
      · exact absurd ⟨_, rfl⟩ hs
      · rfl
    have t : gTyNe "tuple" d = some (.bool true) := by
      rw [h.tyNe]
      cases d with
      | tuple ds => exact absurd ⟨ds, rfl⟩ hs
      | _ => rfl
    rw [e]
    exact fnR rfl (stSR (stIT (evOrT (evV (evU rfl t))) (stR rfl)))
def itsN : Dt → Nat
  | .list ds => szD ds
  | .tuple ds => szD ds
  | _ => 0
theorem szD_app (a b : List Dt) : szD (a ++ b) = szD a + szD b := by
  unfold szD
  rw [List.map_append, List.sum_append]
theorem lines_few {ls : List Ln} (h : ∀ l ∈ ls, LnOk l ∧ l ≠ []) (few : (nms ls).length ≤ 60) : LsOk ls := ⟨fun l hl => (h l hl).1, fun l hl => (h l hl).2, by
  have := lines_names fun l hl => (h l hl).2
  omega⟩
theorem nms_left {a b : List Ln} : (nms a).length ≤ (nms (a ++ b)).length ∧ (nms b).length ≤ (nms (a ++ b)).length := by
  rw [nms_app, List.length_append]
  omega
theorem cat_D {x y : Dt} {as bs : List Dt} (hx : SeqOf x as) (hy : SeqOf y bs) (ha : as.length ≤ 450) (hb : bs.length ≤ 450) {ρ : Ev} {i j : Nat} {k : Int} (h1 : ρ[i]? = some (.sh x)) (h2 : ρ[j]? = some (.sh y)) : lD (dNL gLstD (aStar (dVar i) (aStar (dVar j) aNil))) ρ k = some (.list (as ++ bs), k) := by
  refine evL (evNL (k1 := k) (ds := as ++ (bs ++ [])) ?_ ?_)
  · cases hx <;> cases hy <;> simp [h1, h2]
  · simp
    omega
theorem yard_of_any {a b : Dt} (pa : Pl a) (pb : Pl b) (few : itsN a + itsN b ≤ 4000) (k : Int) :
    (∃ rows rings : List Ln, a = .list (rows.map lnL) ∧ b = .list (rings.map lnL) ∧ Good rows rings ∧ x_yard_of [a, b] k = some (.val (ydT (lyard rows rings)) k)) ∨ x_yard_of [a, b] k = some (.exc ("BadYard" : Str) k) := by
  have la := lol_any pa k
  have lb := lol_any pb k
  have rz : ∀ ρ, sRaise ("BadYard" : Str) (aCons (dC (.str ("rows and rings are two lists of lists of pieces" : Str))) aNil) ρ k = some (.exc ("BadYard" : Str) ρ k) := fun ρ => stRz (evA rfl evA0) (by simp)
  cases ha : lolB a with
  | false =>
    rw [ha] at la
    exact .inr (fnXE rfl (stSE (stIT (evOrT (evNot (evV (evC (evA rfl evA0) la)))) (rz _))))
  | true =>
    rw [ha] at la
    cases hb : lolB b with
    | false =>
      rw [hb] at lb
      exact .inr (fnXE rfl (stSE (stIT (evOrF (evNot (evV (evC (evA rfl evA0) la))) (evNot (evV (evC (evA rfl evA0) lb)))) (rz _))))
    | true =>
      rw [hb] at lb
      obtain ⟨das, rfl⟩ : ∃ das, a = .list das := by
        cases a with
        | list das => exact ⟨das, rfl⟩
        | _ => cases ha
      obtain ⟨dbs, rfl⟩ : ∃ dbs, b = .list dbs := by
        cases b with
        | list dbs => exact ⟨dbs, rfl⟩
        | _ => cases hb
      have ha' : ∀ d ∈ das, ∃ es, d = .list es := fun d hd => tyD_list.mp (List.all_eq_true.mp ha d hd)
      have hb' : ∀ d ∈ dbs, ∃ es, d = .list es := fun d hd => tyD_list.mp (List.all_eq_true.mp hb d hd)
      cases pa with
      | list _ paa pal =>
        cases pb with
        | list _ pba pbl =>
          have hln : ∀ d ∈ das ++ dbs, LnD d := fun d hd => by
            rcases List.mem_append.mp hd with hd | hd
            · obtain ⟨es, rfl⟩ := ha' d hd
              exact (paa.mem _ hd).lnd_list
            · obtain ⟨es, rfl⟩ := hb' d hd
              exact (pba.mem _ hd).lnd_list
          have hcat := cat_D (.lst das) (.lst dbs) pal pbl (ρ := startE 2 [.list das, .list dbs]) (i := 0) (j := 1) (k := k) rfl rfl
          rcases need_pieces_any (das ++ dbs) hln (by rw [szD_app]; exact few) k with ⟨ls, r, ok, nd, f60, _⟩ | he
          · obtain ⟨rows, rings, rfl, r1, r2⟩ := r.split
            have e1 := rel_lists r1 ha'
            have e2 := rel_lists r2 hb'
            subst e1
            subst e2
            have o1 : LsOk rows := lines_few (fun l hl => ok l (List.mem_append_left _ hl)) (Nat.le_trans nms_left.1 f60)
            have o2 : LsOk rings := lines_few (fun l hl => ok l (List.mem_append_right _ hl)) (Nat.le_trans nms_left.2 f60)
            exact .inl ⟨rows, rings, rfl, rfl, ⟨o1, o2, nd, f60⟩, yard_of_D o1 o2 nd f60 k⟩
          · exact .inr (fnXE rfl (stS (stIF (evOrF (evNot (evV (evC (evA rfl evA0) la))) (evNot (evV (evC (evA rfl evA0) lb)))) rfl) (stSE (stXE (evX (evA hcat evA0) he)))))
theorem need_lines_T {d0 : Cell} : ∀ (ls : List Ln) (seen : List Str) (c2 c3 c4 c5 : Cell) (k : Int), (∀ l ∈ ls, LnOk l ∧ l ≠ []) → (seen ++ nms ls).Nodup → seen.length + (nms ls).length ≤ 4000 →
    ∃ c2' c3' c4' c5', forLoop (gSet 2) b__need_pieces_2 (ls.map lnT) [d0, .os (seen.map .str), c2, c3, c4, c5] k = some (.next [d0, .os ((seen ++ nms ls).map .str), c2', c3', c4', c5'] k)
  | [], seen, c2, c3, c4, c5, k, _, _, _ => ⟨c2, c3, c4, c5, by simp [forLoop, nms]⟩
  | l :: ls, seen, c2, c3, c4, c5, k, hn, nd, few => by
    have en : nms (l :: ls) = l.map (·.1) ++ nms ls := by simp [nms]
    rw [en] at nd few
    rw [List.length_append, List.length_map] at few
    obtain ⟨ok, ne⟩ := hn l List.mem_cons_self
    have nd1 : (seen ++ l.map (·.1)).Nodup := by
      rw [← List.append_assoc] at nd
      exact (List.nodup_append.mp nd).1
    obtain ⟨c3', c4', c5', h1⟩ := need_line (d0 := d0) (c2 := .sh (lnT l)) l seen c3 c4 c5 k ok.nm nd1 (by omega)
    obtain ⟨c2', c3'', c4'', c5'', h2⟩ := need_lines_T (d0 := d0) ls (seen ++ l.map (·.1)) (.sh (lnT l)) c3' c4' c5' k (fun q hq => hn q (List.mem_cons_of_mem _ hq)) (by rw [List.append_assoc]; exact nd) (by rw [List.length_append, List.length_map]; omega)
    rw [List.append_assoc, ← en] at h2
    have gl : gLen [lnT l] = some (.int (l.length : Int)) := by
      have := ok.few
      have hl : (l.map pD).length ≤ 1000000 := by rw [List.length_map]; omega
      have := lenT hl
      rwa [List.length_map] at this
    have e0 : gEq (.int (l.length : Int)) (.int 0) = some (.bool false) := by
      rw [eq0, decide_eq_false]
      exact fun z => ne (List.length_eq_zero_iff.mp z)
    exact ⟨c2', c3'', c4'', c5'', forStep (ρ' := [d0, .os (seen.map .str), .sh (lnT l), c3, c4, c5]) rfl (k1 := k) (stS (stIF (evV (evB (evN (evA rfl evA0) gl) rfl e0)) (o := .next _ k) rfl) (stF (evI rfl rfl) h1)) h2⟩
theorem need_pieces_T {rows rings : List Ln} (hg : Good rows rings) (k : Int) : x__need_pieces [.list (rows.map lnT ++ rings.map lnT)] k = some (.val .none k) := by
  have few := hg.few
  obtain ⟨c2, c3, c4, c5, h⟩ := need_lines_T (d0 := .sh (.list ((rows ++ rings).map lnT))) (rows ++ rings) [] .un .un .un .un k (hg.h1.both hg.h2) hg.nd (by simp; omega)
  rw [List.nil_append] at h
  have hgt : gGt (.int ((nms (rows ++ rings)).map PyData.str).length) (.int 60) = some (.bool false) := by
    rw [List.length_map]
    have : ¬ (60 < ((nms (rows ++ rings)).length : Int)) := by omega
    simp [this]
  rw [← List.map_append]
  exact fnXN rfl (stS (ρ' := [.sh (.list ((rows ++ rings).map lnT)), .os [], .un, .un, .un, .un]) rfl (stS (stF (evI rfl rfl) h) (stIF (evV (evB rfl rfl hgt)) rfl)))
theorem need_yard_any {d : Dt} (pd : Pl d) (few : ∀ a b, d = .tuple [a, b] → itsN a + itsN b ≤ 4000) (k : Int) :
    (∃ rows rings : List Ln, d = ydT (rows, rings) ∧ Good rows rings ∧ lyard rows rings = (rows, rings) ∧ x_need_yard [d] k = some (.val d k)) ∨
    ((∀ rows rings : List Ln, d = ydT (rows, rings) → Good rows rings → lyard rows rings = (rows, rings) → False) ∧ x_need_yard [d] k = some (.exc ("BadYard" : Str) k)) := by
  have lp := pair_any pd k
  have rz : ∀ ρ, sRaise ("BadYard" : Str) (aCons (dC (.str ("a yard is a tuple of two tuples of rows and rings" : Str))) aNil) ρ k = some (.exc ("BadYard" : Str) ρ k) := fun ρ => stRz (evA rfl evA0) (by simp)
  have rz2 : ∀ ρ, sRaise ("BadYard" : Str) (aCons (dC (.str ("the yard is not in its least form" : Str))) aNil) ρ k = some (.exc ("BadYard" : Str) ρ k) := fun ρ => stRz (evA rfl evA0) (by simp)
  have yes : ∀ y : Yd, pairB (ydT y) = true := fun y => by
    unfold ydT
    simp [pairB, totB, lnT, tyD]
  cases hp : pairB d with
  | false =>
    rw [hp] at lp
    refine .inr ⟨fun rows rings e _ _ => ?_, fnXE rfl (stSE (stIT (evNot (evV (evC (evA rfl evA0) lp))) (rz _)))⟩
    rw [e, yes] at hp
    cases hp
  | true =>
    rw [hp] at lp
    obtain ⟨a, b, rfl, ta, tb⟩ : ∃ a b, d = .tuple [a, b] ∧ totB a = true ∧ totB b = true := by
      unfold pairB at hp
      split at hp
      · rename_i a b
        rw [Bool.and_eq_true] at hp
        exact ⟨a, b, rfl, hp.1, hp.2⟩
      · cases hp
    obtain ⟨das, rfl⟩ : ∃ das, a = .tuple das := by
      cases a with
      | tuple das => exact ⟨das, rfl⟩
      | _ => cases ta
    obtain ⟨dbs, rfl⟩ : ∃ dbs, b = .tuple dbs := by
      cases b with
      | tuple dbs => exact ⟨dbs, rfl⟩
      | _ => cases tb
    have ha' : ∀ d ∈ das, ∃ es, d = .tuple es := fun d hd => tyD_tuple.mp (List.all_eq_true.mp ta d hd)
    have hb' : ∀ d ∈ dbs, ∃ es, d = .tuple es := fun d hd => tyD_tuple.mp (List.all_eq_true.mp tb d hd)
    have fw := few _ _ rfl
    cases pd with
    | tup _ pp _ =>
      have pa := pp.mem (.tuple das) List.mem_cons_self
      have pb := pp.mem (.tuple dbs) (by simp)
      cases pa with
      | tup _ paa pal =>
        cases pb with
        | tup _ pba pbl =>
          have hln : ∀ d ∈ das ++ dbs, LnD d := fun d hd => by
            rcases List.mem_append.mp hd with hd | hd
            · obtain ⟨es, rfl⟩ := ha' d hd
              exact (paa.mem _ hd).lnd_tup
            · obtain ⟨es, rfl⟩ := hb' d hd
              exact (pba.mem _ hd).lnd_tup
          have hcat := cat_D (.tup das) (.tup dbs) pal pbl (ρ := [.sh (.tuple [.tuple das, .tuple dbs]), .un, .sh (.tuple das), .sh (.tuple dbs)]) (i := 2) (j := 3) (k := k) rfl rfl
          rcases need_pieces_any (das ++ dbs) hln (by rw [szD_app]; exact fw) k with ⟨ls, r, ok, nd, f60, np⟩ | he
          · obtain ⟨rows, rings, rfl, r1, r2⟩ := r.split
            have e1 := rel_tuples r1 ha'
            have e2 := rel_tuples r2 hb'
            subst e1
            subst e2
            have o1 : LsOk rows := lines_few (fun l hl => ok l (List.mem_append_left _ hl)) (Nat.le_trans nms_left.1 f60)
            have o2 : LsOk rings := lines_few (fun l hl => ok l (List.mem_append_right _ hl)) (Nat.le_trans nms_left.2 f60)
            have hg : Good rows rings := ⟨o1, o2, nd, f60⟩
            have ly := least_yard_D (lines_tuples rows) (lines_tuples rings) o1 o2 k
            have ne := neY hg.least hg
            by_cases e : lyard rows rings = (rows, rings)
            · have e' : ((lyard rows rings).1, (lyard rows rings).2) = (rows, rings) := e
              rw [decide_eq_true e'] at ne
              refine .inl ⟨rows, rings, rfl, hg, e, ?_⟩
              have res : x_need_yard [.tuple [.tuple (rows.map lnT), .tuple (rings.map lnT)]] k = some (.val (ydT (lyard rows rings)) k) :=
                fnXV rfl (stS (stIF (evNot (evV (evC (evA rfl evA0) lp))) rfl) (stS (stG rfl rfl) (stS (stX (evX (evA hcat evA0) np)) (stS (stA (evC (evA rfl (evA rfl evA0)) ly)) (stS (stIF (evV (evB rfl rfl ne)) rfl) (stR rfl))))))
              rw [e] at res
              exact res
            · have e' : ¬ ((lyard rows rings).1, (lyard rows rings).2) = (rows, rings) := e
              rw [decide_eq_false e'] at ne
              refine .inr ⟨fun r' g' e2 _ e3 => ?_, fnXE rfl (stS (stIF (evNot (evV (evC (evA rfl evA0) lp))) rfl) (stS (stG rfl rfl) (stS (stX (evX (evA hcat evA0) np)) (stS (stA (evC (evA rfl (evA rfl evA0)) ly)) (stSE (stIT (evV (evB rfl rfl ne)) (rz2 _)))))))⟩
              have : (rows, rings) = (r', g') := ydT_inj e2
              cases this
              exact e e3
          · refine .inr ⟨fun r' g' e2 hg _ => ?_, fnXE rfl (stS (stIF (evNot (evV (evC (evA rfl evA0) lp))) rfl) (stS (stG rfl rfl) (stSE (stXE (evX (evA hcat evA0) he)))))⟩
            unfold ydT at e2
            simp only [PyData.tuple.injEq, List.cons.injEq, and_true] at e2
            obtain ⟨e3, e4⟩ := e2
            subst e3
            subst e4
            have np := need_pieces_T hg k
            rw [np] at he
            cases he
end Mx

set_option Elab.async false
set_option linter.all false
set_option maxRecDepth 100000
set_option maxHeartbeats 1000000
/-! repr tells yards apart -/
namespace Mx
open PySem PySem.Spec PyProof.Rows L2 Evl Dn Cm
open PySem.Builtin.Str (reprChar)
open PySem.W (alike alikeAll keyToks dataLt minD TotalLe)

def tx (d : Dt) : List Nat := TL.tl d.shown
theorem letters_repr : ∀ c : Fin 26, reprChar 39 (97 + c.val) = [97 + c.val] := by decide +kernel
theorem reprChar_letter {c : Nat} (h : letter c = true) : reprChar 39 c = [c] := by
  simp only [letter, Bool.and_eq_true, decide_eq_true_eq] at h
  have := letters_repr ⟨c - 97, by omega⟩
  have e : 97 + (c - 97) = c := by omega
  simpa [e] using this
theorem tx_name {x : Str} (h : IsName x) : tx (.str x) = 39 :: x.cps.toList ++ [39] := by
  have hn : x.cps.contains 39 = false := by
    rw [← Array.contains_toList]
    cases hc : x.cps.toList.contains 39 with
    | false => rfl
    | true =>
      have hm : (39 : Nat) ∈ x.cps.toList := by simpa using hc
      have := List.all_eq_true.mp h.lt 39 hm
      simp [letter] at this
  have hq : reprQuote x = 39 := by
    unfold reprQuote
    rw [hn]
    rfl
  show TL.tl (PyData.str x).shown = _
  rw [PyData.shown]
  unfold reprText
  rw [hq]
  show ((x.cps.foldl (fun out c => out ++ (reprChar 39 c).toArray) #[39]).push 39).toList = _
  rw [Array.toList_push, ← Array.foldl_toList]
  have key : ∀ (l : List Nat) (acc : Array Nat), l.all letter = true → (l.foldl (fun out c => out ++ (reprChar 39 c).toArray) acc).toList = acc.toList ++ l := fun l => by
    induction l with
    | nil => exact fun acc _ => by simp
    | cons c l ih =>
      intro acc hl
      rw [List.all_cons, Bool.and_eq_true] at hl
      rw [List.foldl_cons, ih _ hl.2, reprChar_letter hl.1]
      simp
  rw [key _ _ h.lt]
  rfl
/-! ### a text of a tuple, read from its front -/
def tupE {α : Type} (enc : α → List Nat) (xs : List α) : List Nat := 40 :: TL.joinL [44, 32] (xs.map enc) ++ (if xs.length == 1 then [44, 41] else [41])
def goE {α : Type} (enc : α → List Nat) : List α → List Nat
  | [] => [41]
  | a :: as => [44, 32] ++ (enc a ++ goE enc as)
def tlE {α : Type} (enc : α → List Nat) : List α → List Nat
  | [] => [44, 41]
  | b :: bs => goE enc (b :: bs)
theorem join_go {α : Type} (enc : α → List Nat) : ∀ (a : α) (as : List α), TL.joinL [44, 32] ((a :: as).map enc) ++ [41] = enc a ++ goE enc as
  | a, [] => rfl
  | a, b :: bs => by
    have := join_go enc b bs
    show (enc a ++ ([44, 32] ++ TL.joinL [44, 32] ((b :: bs).map enc))) ++ [41] = enc a ++ ([44, 32] ++ (enc b ++ goE enc bs))
    rw [← this]
    simp
theorem tupE_cons {α : Type} (enc : α → List Nat) (a : α) : ∀ as : List α, tupE enc (a :: as) = 40 :: (enc a ++ tlE enc as)
  | [] => by simp [tupE, TL.joinL, tlE]
  | b :: bs => by
    have := join_go enc a (b :: bs)
    unfold tupE
    have hl : ((a :: b :: bs).length == 1) = false := by simp
    rw [hl, List.cons_append]
    show 40 :: (TL.joinL [44, 32] ((a :: b :: bs).map enc) ++ [41]) = _
    rw [this]
    rfl
def Dec {α : Type} (P : α → Prop) (enc : α → List Nat) : Prop := ∀ a b, P a → P b → ∀ r r', enc a ++ r = enc b ++ r' → a = b ∧ r = r'
theorem go_dec {α : Type} {P : α → Prop} {enc : α → List Nat} (D : Dec P enc) : ∀ as bs : List α, (∀ a ∈ as, P a) → (∀ b ∈ bs, P b) → ∀ r r', goE enc as ++ r = goE enc bs ++ r' → as = bs ∧ r = r'
  | [], [], _, _, r, r', e => ⟨rfl, by simpa [goE] using e⟩
  | [], b :: bs, _, _, r, r', e => by simp [goE] at e
  | a :: as, [], _, _, r, r', e => by simp [goE] at e
  | a :: as, b :: bs, ha, hb, r, r', e => by
    simp only [goE, List.cons_append, List.nil_append, List.cons.injEq, true_and, List.append_assoc] at e
    obtain ⟨rfl, e2⟩ := D a b (ha a List.mem_cons_self) (hb b List.mem_cons_self) _ _ e
    obtain ⟨rfl, e3⟩ := go_dec D as bs (fun x hx => ha x (List.mem_cons_of_mem _ hx)) (fun x hx => hb x (List.mem_cons_of_mem _ hx)) _ _ e2
    exact ⟨rfl, e3⟩
theorem tl_dec {α : Type} {P : α → Prop} {enc : α → List Nat} (D : Dec P enc) (as bs : List α) (ha : ∀ a ∈ as, P a) (hb : ∀ b ∈ bs, P b) (r r' : List Nat) (e : tlE enc as ++ r = tlE enc bs ++ r') : as = bs ∧ r = r' := by
  cases as with
  | nil =>
    cases bs with
    | nil => exact ⟨rfl, by simpa [tlE] using e⟩
    | cons b bs => simp [tlE, goE] at e
  | cons a as =>
    cases bs with
    | nil => simp [tlE, goE] at e
    | cons b bs => exact go_dec D (a :: as) (b :: bs) ha hb r r' e
theorem tup_dec {α : Type} {P : α → Prop} {enc : α → List Nat} (D : Dec P enc) (H : ∀ a, P a → ∃ c t, enc a = c :: t ∧ c ≠ 41) : Dec (fun xs : List α => ∀ a ∈ xs, P a) (tupE enc) := fun as bs ha hb r r' e => by
  cases as with
  | nil =>
    cases bs with
    | nil => exact ⟨rfl, by simpa [tupE, TL.joinL] using e⟩
    | cons b bs =>
      obtain ⟨c, t, h1, h2⟩ := H b (hb b List.mem_cons_self)
      rw [tupE_cons, h1] at e
      simp [tupE, TL.joinL] at e
      exact absurd e.1.symm h2
  | cons a as =>
    cases bs with
    | nil =>
      obtain ⟨c, t, h1, h2⟩ := H a (ha a List.mem_cons_self)
      rw [tupE_cons, h1] at e
      simp [tupE, TL.joinL] at e
      exact absurd e.1 h2
    | cons b bs =>
      rw [tupE_cons, tupE_cons] at e
      simp only [List.cons_append, List.cons.injEq, true_and, List.append_assoc] at e
      obtain ⟨rfl, e2⟩ := D a b (ha a List.mem_cons_self) (hb b List.mem_cons_self) _ _ e
      obtain ⟨rfl, e3⟩ := tl_dec D as bs (fun x hx => ha x (List.mem_cons_of_mem _ hx)) (fun x hx => hb x (List.mem_cons_of_mem _ hx)) _ _ e2
      exact ⟨rfl, e3⟩
theorem tx_tuple (ds : List Dt) : tx (.tuple ds) = tupE tx ds := by
  show TL.tl (PyData.tuple ds).shown = _
  have hs : ∀ ds : List Dt, PyData.shownAll ds = ds.map PyData.shown := fun ds => by
    induction ds with
    | nil => rw [PyData.shownAll]; rfl
    | cons d ds ih => rw [PyData.shownAll, ih]; rfl
  rw [PyData.shown, hs]
  unfold tupleText tupE
  rw [TL.tl_append, TL.tl_append, TL.tl_join, List.map_map, List.length_map]
  have e1 : TL.tl ("(" : Str) = [40] := by decide +kernel
  have e2 : TL.tl (", " : Str) = [44, 32] := by decide +kernel
  have e3 : TL.tl (",)" : Str) = [44, 41] := by decide +kernel
  have e4 : TL.tl (")" : Str) = [41] := by decide +kernel
  rw [e1, e2]
  have e5 : TL.tl ((if ds.length == 1 then ",)" else ")" : String) : Str) = if ds.length == 1 then [44, 41] else [41] := by
    split
    · exact e3
    · exact e4
  rw [e5]
  rfl
theorem tupE_map {α β : Type} (enc : β → List Nat) (f : α → β) (xs : List α) : tupE enc (xs.map f) = tupE (fun a => enc (f a)) xs := by
  unfold tupE
  rw [List.map_map, List.length_map]
  rfl
theorem tx_1 : tx (.int 1) = [49] := by decide +kernel
theorem tx_m1 : tx (.int (-1)) = [45, 49] := by decide +kernel
theorem tx_pD {p : Pc} (h : IsName p.1) : tx (pD p) = [40, 39] ++ (p.1.cps.toList ++ ([39, 44, 32] ++ ((if p.2 = true then [49] else [45, 49]) ++ [41]))) := by
  unfold pD
  rw [tx_tuple]
  unfold tupE
  have ew : tx (.int (wy p.2)) = if p.2 = true then [49] else [45, 49] := by
    cases p.2
    · exact tx_m1
    · exact tx_1
  show 40 :: (tx (.str p.1) ++ ([44, 32] ++ tx (.int (wy p.2)))) ++ [41] = _
  rw [tx_name h, ew]
  simp
theorem letters_dec : ∀ a b r r' : List Nat, a.all letter = true → b.all letter = true → a ++ 39 :: r = b ++ 39 :: r' → a = b ∧ r = r'
  | [], [], r, r', _, _, e => ⟨rfl, by simpa using e⟩
  | [], c :: b, r, r', _, hb, e => by
    simp at e
    rw [← e.1] at hb
    simp [letter] at hb
  | c :: a, [], r, r', ha, _, e => by
    simp at e
    rw [e.1] at ha
    simp [letter] at ha
  | c :: a, d :: b, r, r', ha, hb, e => by
    simp only [List.cons_append, List.cons.injEq] at e
    rw [List.all_cons, Bool.and_eq_true] at ha hb
    obtain ⟨rfl, e2⟩ := letters_dec a b r r' ha.2 hb.2 e.2
    exact ⟨by rw [e.1], e2⟩
theorem dec_pD : Dec (fun p : Pc => IsName p.1) (fun p => tx (pD p)) := fun p q hp hq r r' e => by
  have e : tx (pD p) ++ r = tx (pD q) ++ r' := e
  rw [tx_pD hp, tx_pD hq] at e
  simp only [List.cons_append, List.nil_append, List.cons.injEq, true_and, List.append_assoc] at e
  obtain ⟨e1, e2⟩ := letters_dec _ _ _ _ hp.lt hq.lt e
  simp only [List.cons.injEq, true_and] at e2
  obtain ⟨x, b⟩ := p
  obtain ⟨y, c⟩ := q
  have exy : x = y := TL.ext_tl e1
  cases b <;> cases c <;> simp at e2
  · exact ⟨by rw [exy], e2⟩
  · exact ⟨by rw [exy], e2⟩
theorem dec_ln : Dec (fun l : Ln => ∀ p ∈ l, IsName p.1) (fun l => tx (lnT l)) := fun a b ha hb r r' e => by
  simp only [lnT, tx_tuple, tupE_map] at e
  exact tup_dec dec_pD (fun p hp => ⟨40, _, by rw [tx_pD hp]; rfl, by decide⟩) a b ha hb r r' e
theorem head_ln (l : Ln) : ∃ c t, tx (lnT l) = c :: t ∧ c ≠ 41 := ⟨40, _, by rw [lnT, tx_tuple]; rfl, by decide⟩
theorem dec_lns : Dec (fun ls : List Ln => ∀ l ∈ ls, ∀ p ∈ l, IsName p.1) (fun ls => tx (.tuple (ls.map lnT))) := fun a b ha hb r r' e => by
  simp only [tx_tuple, tupE_map] at e
  exact tup_dec dec_ln (fun l _ => head_ln l) a b ha hb r r' e
theorem shown_inj {r1 g1 r2 g2 : List Ln} (h1 : Good r1 g1) (h2 : Good r2 g2) (e : (ydT (r1, g1)).shown = (ydT (r2, g2)).shown) : (r1, g1) = (r2, g2) := by
  have e : tx (ydT (r1, g1)) ++ [] = tx (ydT (r2, g2)) ++ [] := by
    unfold tx
    rw [e]
  unfold ydT at e
  have m : ∀ a b : List Ln, [PyData.tuple (a.map lnT), PyData.tuple (b.map lnT)] = [a, b].map (fun ls => PyData.tuple (ls.map lnT)) := fun _ _ => rfl
  rw [m, m] at e
  simp only [tx_tuple (List.map _ _), tupE_map] at e
  have e' : tupE (fun ls : List Ln => tx (.tuple (ls.map lnT))) [r1, g1] ++ [] = tupE (fun ls : List Ln => tx (.tuple (ls.map lnT))) [r2, g2] ++ [] := by
    simp only [tx_tuple, tupE_map]
    exact e
  have ok : ∀ {rows rings : List Ln}, Good rows rings → ∀ ls ∈ [rows, rings], ∀ l ∈ ls, ∀ p ∈ l, IsName p.1 := fun {rows rings} h ls hls l hl => by
    rcases List.mem_cons.mp hls with rfl | hls
    · exact (h.h1.ok l hl).nm
    · rw [List.mem_singleton.mp hls] at hl
      exact (h.h2.ok l hl).nm
  have := (tup_dec dec_lns (fun ls _ => ⟨40, _, by rw [tx_tuple]; rfl, by decide⟩) [r1, g1] [r2, g2] (ok h1) (ok h2) [] [] e').1
  simp only [List.cons.injEq, and_true] at this
  exact Prod.ext this.1 this.2
end Mx

set_option Elab.async false
set_option linter.all false
set_option maxRecDepth 100000
set_option maxHeartbeats 1000000
/-! the law asks -/
namespace Mx
open PySem PySem.Spec PyProof.Rows L2 Evl Dn Cm
open PySem.W (alike alikeAll keyToks dataLt minD TotalLe)

abbrev E5 : List Str := [("BadYard" : Str), ("BadPlaces" : Str), ("BadDeed" : Str), ("BadText" : Str), ("Unlike" : Str)]
theorem evMO {g : Dt → List Dt → Option Dt} {f : DE} {h : DL} {ρ : Ev} {k k1 k2 : Int} {xs ds : List Dt} {d : Dt} (h1 : f ρ k = some (.list xs, k1)) (h2 : h ρ k1 = some (ds, k2)) (h3 : g (.list xs) ds = some d) : dMO g f h ρ k = some (d, k2) := by
  unfold dMO
  rw [h1, Option.bind_some]
  show (if isLst (.list xs) = true then (h ρ k1).bind fun q => (g (.list xs) q.1).bind fun d => some (d, q.2) else none) = _
  rw [if_pos (by rfl), h2, Option.bind_some, h3, Option.bind_some]
theorem isE_eq {c c' : Str} (h : c' ∈ E5) (h2 : c ∈ E5) : gIsE E5 c (excD c') = some (.bool (decide (c' = c))) := if_pos ⟨h, h2⟩
theorem isVE_eq {c' : Str} (h : c' ∈ E5) : gIsVE E5 (excD c') = some (.bool true) := if_pos h
theorem mem5 : ("BadYard" : Str) ∈ E5 ∧ ("BadPlaces" : Str) ∈ E5 ∧ ("BadDeed" : Str) ∈ E5 ∧ ("BadText" : Str) ∈ E5 ∧ ("Unlike" : Str) ∈ E5 := by decide +kernel
theorem word_gen {c word : Str} {b1 b2 b3 b4 b5 : Bool} {j : Nat} (hc : c ∈ E5) (h1 : decide (c = ("BadYard" : Str)) = b1) (h2 : decide (c = ("BadPlaces" : Str)) = b2) (h3 : decide (c = ("BadDeed" : Str)) = b3) (h4 : decide (c = ("BadText" : Str)) = b4) (h5 : decide (c = ("Unlike" : Str)) = b5)
    (hcnt : gCount (.list [.bool b1, .bool b2, .bool b3, .bool b4, .bool b5]) [.bool true] = some (.int 1)) (hidx : gIndex (.list [.bool b1, .bool b2, .bool b3, .bool b4, .bool b5]) [.bool true] = some (.int (j : Int)))
    (hw : gIx (.list [.str ("yard" : Str), .str ("places" : Str), .str ("deed" : Str), .str ("text" : Str), .str ("unlike" : Str)]) (.int (j : Int)) = some (.str word)) (k : Int) : d__law_word [excD c] k = some (.str word, k) := by
  have e1 := isE_eq hc mem5.1
  have e2 := isE_eq hc mem5.2.1
  have e3 := isE_eq hc mem5.2.2.1
  have e4 := isE_eq hc mem5.2.2.2.1
  have e5 := isE_eq hc mem5.2.2.2.2
  rw [h1] at e1
  rw [h2] at e2
  rw [h3] at e3
  rw [h4] at e4
  rw [h5] at e5
  have ne1 : gNe (.int 1) (.int 1) = some (.bool false) := neI 1 1
  have cnt : dMO gCount (dVarO 1) (aCons (dC (.bool true)) aNil) [.sh (excD c), .sh (.list [.bool b1, .bool b2, .bool b3, .bool b4, .bool b5])] k = some (.int 1, k) := evMO rfl (evA rfl evA0) hcnt
  have idx : dMO gIndex (dVarO 1) (aCons (dC (.bool true)) aNil) [.sh (excD c), .sh (.list [.bool b1, .bool b2, .bool b3, .bool b4, .bool b5])] k = some (.int (j : Int), k) := evMO rfl (evA rfl evA0) hidx
  refine fnR rfl (stS (stA (evL (evNL (evA (evU rfl e1) (evA (evU rfl e2) (evA (evU rfl e3) evA0))) rfl))) (stS (stA (x := .list [.bool b1, .bool b2, .bool b3, .bool b4, .bool b5]) (evB rfl (evL (evNL (evA (evU rfl e4) (evA (evU rfl e5) evA0)) rfl)) rfl)) (stS (stIF (evOrF (evV (evB cnt rfl ne1)) (evNot (evV (evU rfl (isVE_eq hc))))) rfl) (stR (evB (evL (evNL (ds := [.str ("yard" : Str), .str ("places" : Str), .str ("deed" : Str), .str ("text" : Str), .str ("unlike" : Str)]) (k1 := k) ?_ rfl)) idx hw)))))
  refine evA (x := .str ("yard" : Str)) (k1 := k) ?_ (evA (x := .str ("places" : Str)) (k1 := k) ?_ (evA (x := .str ("deed" : Str)) (k1 := k) ?_ (evA (x := .str ("text" : Str)) (k1 := k) ?_ (evA (x := .str ("unlike" : Str)) (k1 := k) ?_ evA0)))) <;> exact rfl
theorem word_yard (k : Int) : d__law_word [excD ("BadYard" : Str)] k = some (.str ("yard" : Str), k) := by
  refine word_gen (b1 := true) (b2 := false) (b3 := false) (b4 := false) (b5 := false) (j := 0) mem5.1 (by decide +kernel) (by decide +kernel) (by decide +kernel) (by decide +kernel) (by decide +kernel) ?_ ?_ ?_ k
  · rfl
  · have hs : SeqAt.shaped (.list [.bool true, .bool false, .bool false, .bool false, .bool false]) = true ∧ SeqAt.shaped (.bool true) = true := ⟨by decide +kernel, by decide +kernel⟩
    have hf : ([PyData.bool true, .bool false, .bool false, .bool false, .bool false].findIdx? fun z => PyData.eqv z (.bool true)) = some 0 := by simp [List.findIdx?_cons]
    show (if SeqAt.shaped (.list [.bool true, .bool false, .bool false, .bool false, .bool false]) = true ∧ SeqAt.shaped (.bool true) = true then ([PyData.bool true, .bool false, .bool false, .bool false, .bool false].findIdx? fun z => PyData.eqv z (.bool true)).map (fun j => PyData.int (j : Nat)) else none) = _
    rw [if_pos hs, hf]
    rfl
  · rfl
end Mx

set_option Elab.async false
set_option linter.all false
set_option maxRecDepth 100000
set_option maxHeartbeats 1000000
/-! the law asks; odd things -/
namespace Mx
open PySem PySem.Spec PyProof.Rows L2 Evl Dn Cm
open PySem.W (alike alikeAll keyToks dataLt minD TotalLe)

section
variable {ρ : Ev} {k k1 : Int} {d : Dt} {f g : DX} {r : Rx} {c : Str} {ns : List Str} {i j n : Nat} {t : DT}
theorem tryV (h : f ρ k = some (.val d k1)) : sTryKeep ns i j (sSetX n f) ρ k = some (.next (ρ.set n (.sh d)) k1) := by
  unfold sTryKeep sSetX
  rw [h]
  rfl
theorem tryE (h : f ρ k = some (.exc c k1)) (hc : c ∈ ns) (hi : i < ρ.length) : sTryKeep ns i j (sSetX n f) ρ k = some (.next ((ρ.set j (.sh (excD c))).set i .un) k1) := by
  unfold sTryKeep sSetX
  rw [h]
  exact if_pos ⟨hc, hi⟩
theorem xIfT (h1 : t ρ k = some (true, k1)) (h2 : f ρ k1 = some r) : xIf t f g ρ k = some r := by
  unfold xIf
  rw [h1]
  exact h2
theorem xIfF (h1 : t ρ k = some (false, k1)) (h2 : g ρ k1 = some r) : xIf t f g ρ k = some r := by
  unfold xIf
  rw [h1]
  exact h2
end
theorem ask_val {a b d s : Dt} {w : Bool} {k : Int} (h : (if w = true then x_need_yard [a] k else x_yard_of [a, b] k) = some (.val d k)) (hr : gRepr [d] = some s) : d__law_asked [a, b, .bool w] k = some (s, k) := by
  cases w with
  | true => exact fnR rfl (stS (stA rfl) (stS (stA rfl) (stS (tryV (xIfT rfl (evX (evA rfl evA0) h))) (stR (evIfT (evV (evU rfl rfl)) (evN (evA rfl evA0) hr))))))
  | false => exact fnR rfl (stS (stA rfl) (stS (stA rfl) (stS (tryV (xIfF rfl (evX (evA rfl (evA rfl evA0)) h))) (stR (evIfT (evV (evU rfl rfl)) (evN (evA rfl evA0) hr))))))
theorem ask_exc {a b : Dt} {w : Bool} {k : Int} (h : (if w = true then x_need_yard [a] k else x_yard_of [a, b] k) = some (.exc ("BadYard" : Str) k)) : d__law_asked [a, b, .bool w] k = some (.str ("yard" : Str), k) := by
  cases w with
  | true => exact fnR rfl (stS (stA rfl) (stS (stA rfl) (stS (tryE (xIfT rfl (evX (evA rfl evA0) h)) mem5.1 (show (5 : Nat) < 6 by decide)) (stR (evIfF (evV (evU rfl rfl)) (evC (evA rfl evA0) (word_yard k)))))))
  | false => exact fnR rfl (stS (stA rfl) (stS (stA rfl) (stS (tryE (xIfF rfl (evX (evA rfl (evA rfl evA0)) h)) mem5.1 (show (5 : Nat) < 6 by decide)) (stR (evIfF (evV (evU rfl rfl)) (evC (evA rfl evA0) (word_yard k)))))))
theorem yard_ok : PyData.strOk ("yard" : Str) = true := by decide +kernel
theorem ne_same {x : Str} (h : PyData.strOk x = true) : gNe (.str x) (.str x) = some (.bool false) := by
  unfold gNe
  rw [if_pos ⟨okS h, okS h⟩, eqv_str_str]
  simp
/-! ### plain data, decided -/
mutual
def plB : Dt → Bool
  | .none => true
  | .bool _ => true
  | .int _ => true
  | .str x => PyData.strOk x && decide (x.length ≤ 1000000)
  | .list ds => plAB ds && decide (ds.length ≤ 450)
  | .tuple ds => plAB ds && decide (ds.length ≤ 450)
  | .dict l => l.isEmpty
def plAB : List Dt → Bool
  | [] => true
  | d :: ds => plB d && plAB ds
end
mutual
theorem plB_pl : ∀ d : Dt, plB d = true → Pl d
  | .none, _ => .none
  | .bool b, _ => .bool b
  | .int i, _ => .int i
  | .str x, h => by
    simp only [plB, Bool.and_eq_true, decide_eq_true_eq] at h
    exact .str x h.1 h.2
  | .list ds, h => by
    simp only [plB, Bool.and_eq_true, decide_eq_true_eq] at h
    exact .list ds (plAB_pl ds h.1) h.2
  | .tuple ds, h => by
    simp only [plB, Bool.and_eq_true, decide_eq_true_eq] at h
    exact .tup ds (plAB_pl ds h.1) h.2
  | .dict l, h => by
    simp only [plB, List.isEmpty_iff] at h
    subst h
    exact .dict0
theorem plAB_pl : ∀ ds : List Dt, plAB ds = true → PlA ds
  | [], _ => .nil
  | d :: ds, h => by
    simp only [plAB, Bool.and_eq_true] at h
    exact .cons (plB_pl d h.1) (plAB_pl ds h.2)
end
/-! ### lines that are good, decided -/
def its : Dt → List Dt
  | .list es => es
  | .tuple es => es
  | _ => []
def nmO : Dt → Option Str
  | .tuple [.str x, _] => some x
  | _ => none
def namesD (ds : List Dt) : List Str := ds.flatMap fun l => (its l).filterMap nmO
def okB (T : String) (ds : List Dt) : Bool := ds.all (fun l => tyD l == T && !(its l).isEmpty && (its l).all pieceB) && decide (namesD ds).Nodup
theorem names_its (l : Ln) : (l.map pD).filterMap nmO = l.map (·.1) := by
  induction l with
  | nil => rfl
  | cons p l ih =>
    rw [List.map_cons, List.filterMap_cons, ih]
    rfl
theorem namesD_L (ls : List Ln) : namesD (ls.map lnL) = nms ls := by
  induction ls with
  | nil => rfl
  | cons l ls ih =>
    have e : nms (l :: ls) = l.map (·.1) ++ nms ls := by simp [nms]
    rw [e, ← ih]
    show (its (lnL l)).filterMap nmO ++ _ = _
    rw [show its (lnL l) = l.map pD from rfl, names_its]
    rfl
theorem namesD_T (ls : List Ln) : namesD (ls.map lnT) = nms ls := by
  induction ls with
  | nil => rfl
  | cons l ls ih =>
    have e : nms (l :: ls) = l.map (·.1) ++ nms ls := by simp [nms]
    rw [e, ← ih]
    show (its (lnT l)).filterMap nmO ++ _ = _
    rw [show its (lnT l) = l.map pD from rfl, names_its]
    rfl
theorem okB_L {ls : List Ln} (h : LsOk ls) (nd : (nms ls).Nodup) : okB "list" (ls.map lnL) = true := by
  unfold okB
  rw [Bool.and_eq_true, List.all_map, List.all_eq_true, decide_eq_true_eq, namesD_L]
  refine ⟨fun l hl => ?_, nd⟩
  have ne := h.ne l hl
  have e : (l.map pD).all pieceB = true := by
    rw [List.all_map, List.all_eq_true]
    exact fun p hp => pieceB_iff.mpr ⟨p, (h.ok l hl).nm p hp, rfl⟩
  show (tyD (lnL l) == "list" && !(l.map pD).isEmpty && (l.map pD).all pieceB) = true
  rw [e]
  cases l with
  | nil => exact absurd rfl ne
  | cons p l => rfl
theorem okB_T {ls : List Ln} (h : LsOk ls) (nd : (nms ls).Nodup) : okB "tuple" (ls.map lnT) = true := by
  unfold okB
  rw [Bool.and_eq_true, List.all_map, List.all_eq_true, decide_eq_true_eq, namesD_T]
  refine ⟨fun l hl => ?_, nd⟩
  have ne := h.ne l hl
  have e : (l.map pD).all pieceB = true := by
    rw [List.all_map, List.all_eq_true]
    exact fun p hp => pieceB_iff.mpr ⟨p, (h.ok l hl).nm p hp, rfl⟩
  show (tyD (lnT l) == "tuple" && !(l.map pD).isEmpty && (l.map pD).all pieceB) = true
  rw [e]
  cases l with
  | nil => exact absurd rfl ne
  | cons p l => rfl
/-! ### the odd things -/
def aS : Dt := .str ("a" : Str)
def a1 : Dt := .tuple [aS, .int 1]
def odds : List Dt := [.none, .int 5, .str ("abc" : Str), .dict [], .bool true, a1, .list [a1], .list [.list []], .tuple [.tuple []], .list [a1, .tuple [.str ("b" : Str), .int 1]], .list [.list [a1, .int 5]],
  .tuple [a1],
  .list [.list [.tuple [aS, .bool true]]], .list [.list [.tuple [.str ("A" : Str), .int 1]]], .list [.list [.tuple [aS, .int 0]]], .list [.tuple [a1]], .list [.list [.list [aS, .int 1]]], .list [.list [aS]], .list [.none], .list [aS],
  .list [.list [a1, .tuple [aS, .int (-1)]]], .list [.list [a1], .list [a1]], .list [.list [.tuple [.str ("abcdefghi" : Str), .int 1]]], .list [.list [.tuple [aS, .int 1, .int 1]]]]
theorem odds_pl : odds.all plB = true := by decide +kernel
theorem odds_bad : odds.all (fun d => (match d with | .list ds => !okB "list" ds | .tuple ds => !okB "tuple" ds | _ => true)) = true := by decide +kernel
theorem odds_few : odds.all (fun d => decide (itsN d ≤ 100)) = true := by decide +kernel
theorem odd_list {d : Dt} (h : d ∈ odds) {ls : List Ln} (e : d = .list (ls.map lnL)) (ok : LsOk ls) (nd : (nms ls).Nodup) : False := by
  have := List.all_eq_true.mp odds_bad d h
  subst e
  simp only at this
  rw [okB_L ok nd] at this
  cases this
theorem odd_tuple {d : Dt} (h : d ∈ odds) {ls : List Ln} (e : d = .tuple (ls.map lnT)) (ok : LsOk ls) (nd : (nms ls).Nodup) : False := by
  have := List.all_eq_true.mp odds_bad d h
  subst e
  simp only at this
  rw [okB_T ok nd] at this
  cases this
theorem odd_D (ns : List Int) (hl : ns.length ≤ 63) (k : Int) (h0 : 0 ≤ k) (h1 : k < 1000000) : ∃ d ∈ odds, d__law_odd [scr ns, ctrD] k = some (d, k + 1) := by
  obtain ⟨w, hw, e1⟩ := draw_N ns hl k 24 h0 h1 (by decide)
  have ho : odds.length = 24 := rfl
  have hi : gIx (.list odds) (.int (w : Int)) = some (odds[w]'(by omega)) := by
    have e : L2.atI odds (w : Int) = some (odds[w]'(by omega)) := L2.atI_nat (List.getElem?_eq_getElem (by omega))
    simp [e, ho]
  refine ⟨odds[w]'(by omega), List.getElem_mem _, ?_⟩
  have hlen : gLen [.list odds] = some (.int 24) := rfl
  exact fnR rfl (stS (ρ' := [.sh (scr ns), .sh ctrD, .ow (odds.take 11)]) (k1 := k) rfl (stS (ρ' := [.sh (scr ns), .sh ctrD, .ow (odds.take 12)]) (k1 := k) rfl (stS (ρ' := [.sh (scr ns), .sh ctrD, .ow (odds.take 20)]) (k1 := k) rfl (stS (ρ' := [.sh (scr ns), .sh ctrD, .ow odds]) (k1 := k) rfl (stR (evB rfl (evC (evA rfl (evA rfl (evA (evN (evA rfl evA0) hlen) evA0))) e1) hi))))))
end Mx

set_option Elab.async false
set_option linter.all false
set_option maxRecDepth 100000
set_option maxHeartbeats 1000000
/-! yards changed -/
namespace Mx
open PySem PySem.Spec PyProof.Rows L2 Evl Dn Cm
open PySem.W (alike alikeAll keyToks dataLt minD TotalLe)

theorem nms_mid {a b : List Ln} {l m : Ln} (h : NmL m l) : (nms (a ++ m :: b)).Perm (nms (a ++ l :: b)) := by
  rw [nms_app, nms_app]
  refine List.Perm.append_left _ ?_
  have e : ∀ x : Ln, nms (x :: b) = x.map (·.1) ++ nms b := fun x => by simp [nms]
  rw [e, e]
  exact List.Perm.append_right _ h
theorem LsOk.mid {a b : List Ln} {l m : Ln} (h : LsOk (a ++ l :: b)) (hm : LnOk m) (hn : m ≠ []) : LsOk (a ++ m :: b) := by
  refine ⟨fun x hx => ?_, fun x hx => ?_, by have := h.few; simpa using this⟩
  · rcases List.mem_append.mp hx with hx | hx
    · exact h.ok x (List.mem_append_left _ hx)
    · rcases List.mem_cons.mp hx with rfl | hx
      · exact hm
      · exact h.ok x (List.mem_append_right _ (List.mem_cons_of_mem _ hx))
  · rcases List.mem_append.mp hx with hx | hx
    · exact h.ne x (List.mem_append_left _ hx)
    · rcases List.mem_cons.mp hx with rfl | hx
      · exact hn
      · exact h.ne x (List.mem_append_right _ (List.mem_cons_of_mem _ hx))
theorem Good.mid1 {a b g : List Ln} {l m : Ln} (h : Good (a ++ l :: b) g) (hm : LnOk m) (hn : m ≠ []) (nm : NmL m l) : Good (a ++ m :: b) g := by
  refine h.perm (h.h1.mid hm hn) h.h2 ?_
  rw [nms_app, nms_app (a ++ l :: b)]
  exact List.Perm.append_right _ (nms_mid nm)
theorem Good.mid2 {a b r : List Ln} {l m : Ln} (h : Good r (a ++ l :: b)) (hm : LnOk m) (hn : m ≠ []) (nm : NmL m l) : Good r (a ++ m :: b) := by
  refine h.perm h.h1 (h.h2.mid hm hn) ?_
  rw [nms_app, nms_app r]
  exact List.Perm.append_left _ (nms_mid nm)
theorem Good.rev1 {r g : List Ln} (h : Good r g) : Good r.reverse g := h.perm (h.h1.perm (List.reverse_perm r)) h.h2 (by
  rw [nms_app, nms_app]
  exact List.Perm.append_right _ (nms_perm (List.reverse_perm r)))
theorem Good.rev2 {r g : List Ln} (h : Good r g) : Good r g.reverse := h.perm h.h1 (h.h2.perm (List.reverse_perm g)) (by
  rw [nms_app, nms_app]
  exact List.Perm.append_left _ (nms_perm (List.reverse_perm g)))
theorem lnT_rot {l : Ln} (h : LnOk l) : gAdd (.tuple ((l.map pD).drop 1)) (.tuple ((l.map pD).take 1)) = some (lnT (rot l 1)) := by
  have hf := h.few
  have : ((l.map pD).drop 1).length + ((l.map pD).take 1).length ≤ 1000000 := by
    simp only [List.length_map, List.length_drop, List.length_take]
    omega
  refine (if_pos this).trans ?_
  unfold lnT
  rw [rot_map]
theorem rows_add {a b : List Ln} (x : Dt) (hx : (a.length + 1) + b.length ≤ 900) : (gAdd (.tuple (a.map lnT)) (.tuple [x])).bind (fun t => gAdd t (.tuple (b.map lnT))) = some (.tuple (a.map lnT ++ [x] ++ b.map lnT)) := by
  have h1 : (a.map lnT).length + [x].length ≤ 1000000 := by simp; omega
  have h2 : (a.map lnT ++ [x]).length + (b.map lnT).length ≤ 1000000 := by simp; omega
  rw [show gAdd (.tuple (a.map lnT)) (.tuple [x]) = some (.tuple (a.map lnT ++ [x])) from if_pos h1, Option.bind_some]
  exact if_pos h2
theorem neT {a : List Ln} (h : ∀ l ∈ a, LnOk l) (few : a.length ≤ 450) : gNe (.tuple (a.map lnT)) (.tuple []) = some (.bool (!a.isEmpty)) := by
  have o : okD (.tuple (a.map lnT)) = true := okT fun d hd => by
    obtain ⟨l, hl, rfl⟩ := List.mem_map.mp hd
    have := lnT_lay (h l hl).nm
    exact ⟨this.1, by omega⟩
  have o2 : okD (.tuple []) = true := by simp [okD_eq]
  unfold gNe
  rw [if_pos ⟨o, o2⟩, eqv_tuple_tuple, eqvAll_empty]
  cases a <;> rfl
/-- one side's line, given another reading, in the list of changed yards -/
def sideE (ns : List Int) (y : Yd) (w : Nat) (c5 c6 c7 c8 : Cell) (acc : List Dt) : Ev := [.sh (scr ns), .sh ctrD, .sh (ydT y), .sh (.int (w : Int)), .ow acc, c5, c6, c7, c8]
def putAt (y : Yd) (w : Nat) (z : List Ln) : Yd := if w = 0 then (z, y.2) else (y.1, z)
theorem change_step (ns : List Int) (y : Yd) (w : Nat) (hw : w < 2) (a b : List Ln) (l m : Ln) (hz : (if w = 0 then y.1 else y.2) = a ++ l :: b) (few : a.length + b.length ≤ 400) (acc : List Dt) (hacc : acc.length < 1000) (c6 c8 : Cell) (k : Int) :
    b__law_changed_1 (sideE ns y w (.sh (.int (a.length : Int))) c6 (.sh (lnT m)) c8 acc) k = some (.next (sideE ns y w (.sh (.int (a.length : Int))) c6 (.sh (lnT m)) (.sh (.tuple ((a ++ m :: b).map lnT))) (acc ++ [ydT (putAt y w (a ++ m :: b))])) k) := by
  have gi : gIx (ydT y) (.int (w : Int)) = some (.tuple ((a ++ l :: b).map lnT)) := by
    rw [← hz]
    have : w = 0 ∨ w = 1 := by omega
    rcases this with rfl | rfl <;> rfl
  have s1 : gSlE (.tuple ((a ++ l :: b).map lnT)) none (some (a.length : Int)) = some (.tuple (a.map lnT)) := by
    show some (PyData.tuple (cutD ((a ++ l :: b).map lnT) none (some (a.length : Int)))) = _
    rw [cut_to, ← List.map_take]
    congr 3
    exact List.take_left
  have s2 : gSlE (.tuple ((a ++ l :: b).map lnT)) (some ((a.length : Int) + 1)) none = some (.tuple (b.map lnT)) := by
    show some (PyData.tuple (cutD ((a ++ l :: b).map lnT) (some ((a.length : Int) + 1)) none)) = _
    have e : ((a.length : Int) + 1) = ((a.length + 1 : Nat) : Int) := by omega
    rw [e, cut_from, ← List.map_drop]
    congr 3
    have : (a ++ l :: b).drop (a.length + 1) = b := by
      rw [← List.drop_drop, List.drop_left]
      rfl
    exact this
  have h1 : (a.map lnT).length + [lnT m].length ≤ 1000000 := by simp; omega
  have h2 : (a.map lnT ++ [lnT m]).length + (b.map lnT).length ≤ 1000000 := by simp; omega
  have g1 : gAdd (.tuple (a.map lnT)) (.tuple [lnT m]) = some (.tuple (a.map lnT ++ [lnT m])) := if_pos h1
  have g2 : gAdd (.tuple (a.map lnT ++ [lnT m])) (.tuple (b.map lnT)) = some (.tuple ((a ++ m :: b).map lnT)) := by
    refine (if_pos h2).trans ?_
    simp
  have fin : gIx (.list [.tuple [.tuple ((a ++ m :: b).map lnT), .tuple (y.2.map lnT)], .tuple [.tuple (y.1.map lnT), .tuple ((a ++ m :: b).map lnT)]]) (.int (w : Int)) = some (ydT (putAt y w (a ++ m :: b))) := by
    have : w = 0 ∨ w = 1 := by omega
    rcases this with rfl | rfl <;> rfl
  exact stS (stA (evB (evB (evSl (evB rfl rfl gi) evP0 (evP rfl) s1) (evN (evA rfl evA0) rfl) g1) (evSl (evB rfl rfl gi) (evP (evB rfl rfl rfl)) evP0 s2) g2)) (stM (evA (evB (evL (evNL (evA (evN (evA rfl (evA (evB rfl rfl rfl) evA0)) rfl) (evA (evN (evA (evB rfl rfl rfl) (evA rfl evA0)) rfl) evA0)) rfl)) rfl fin) evA0) rfl (gApp _ _ (by omega)))
theorem putAt_good {y : Yd} (hg : Good y.1 y.2) {w : Nat} {a b : List Ln} {l m : Ln} (hz : (if w = 0 then y.1 else y.2) = a ++ l :: b) (hm : LnOk m) (hn : m ≠ []) (nm : NmL m l) : Good (putAt y w (a ++ m :: b)).1 (putAt y w (a ++ m :: b)).2 := by
  unfold putAt
  by_cases h : w = 0
  · rw [if_pos h] at hz ⊢
    rw [hz] at hg
    exact hg.mid1 hm hn nm
  · rw [if_neg h] at hz ⊢
    rw [hz] at hg
    exact hg.mid2 hm hn nm
theorem changed_D (ns : List Int) (hl : ns.length ≤ 63) {y : Yd} (hg : Good y.1 y.2) (k : Int) (h0 : 0 ≤ k) (h1 : k + 3 < 1000000) :
    ∃ (ys : List Yd) (k' : Int), d__law_changed [scr ns, ctrD, ydT y] k = some (.list (ys.map ydT), k') ∧ (∀ z ∈ ys, Good z.1 z.2) ∧ k ≤ k' ∧ k' ≤ k + 2 := by
  obtain ⟨w, hw, e1⟩ := draw_N ns hl k 2 h0 (by omega) (by decide)
  have hlines := hg.lines
  let first : List Dt := [.tuple [.tuple (y.1.map lnT).reverse, .tuple (y.2.map lnT)], .tuple [.tuple (y.1.map lnT), .tuple (y.2.map lnT).reverse], ydT y]
  have ef : first = [(y.1.reverse, y.2), (y.1, y.2.reverse), y].map ydT := by
    show _ = [ydT (y.1.reverse, y.2), ydT (y.1, y.2.reverse), ydT y]
    unfold ydT
    rw [List.map_reverse, List.map_reverse]
    rfl
  have g3 : ∀ z ∈ [(y.1.reverse, y.2), (y.1, y.2.reverse), y], Good z.1 z.2 := fun z hz => by
    simp only [List.mem_cons, List.not_mem_nil, or_false] at hz
    rcases hz with rfl | rfl | rfl
    · exact hg.rev1
    · exact hg.rev2
    · exact hg
  have gi : gIx (ydT y) (.int (w : Int)) = some (.tuple ((if w = 0 then y.1 else y.2).map lnT)) := by
    have : w = 0 ∨ w = 1 := by omega
    rcases this with rfl | rfl <;> rfl
  have hz2 : (∀ l ∈ (if w = 0 then y.1 else y.2), LnOk l ∧ l ≠ []) ∧ (if w = 0 then y.1 else y.2).length ≤ 60 := by
    split
    · exact ⟨fun l hl => ⟨hg.h1.ok l hl, hg.h1.ne l hl⟩, by omega⟩
    · exact ⟨fun l hl => ⟨hg.h2.ok l hl, hg.h2.ne l hl⟩, by omega⟩
  have ne := neT (a := if w = 0 then y.1 else y.2) (fun l hl => (hz2.1 l hl).1) (by omega)
  have head : ∀ {s : DS} {o : Out}, s (sideE ns y w .un .un .un .un first) (k + 1) = some o → sSeq (sAsg (dCall d__law_draw (aCons (dVar 0) (aCons (dVar 1) (aCons (dC (.int 2)) aNil)))) (gSet 3)) (sSeq (sSetL 4 (dNL gLstD (aCons (dN gTupD (aCons (dB gStep (dB gIx (dVarO 2) (dC (.int 0))) (dU gNeg (dC (.int 1)))) (aCons (dB gIx (dVarO 2) (dC (.int 1))) aNil))) (aCons (dN gTupD (aCons (dB gIx (dVarO 2) (dC (.int 0))) (aCons (dB gStep (dB gIx (dVarO 2) (dC (.int 1))) (dU gNeg (dC (.int 1)))) aNil))) (aCons (dVar 2) aNil))))) s) (startE 9 [scr ns, ctrD, ydT y]) k = some o := fun h =>
    stS (stA (evC (evA rfl (evA rfl (evA rfl evA0))) e1)) (stS (stL (evNL (evA (evN (evA (evB (evB rfl rfl rfl) rfl rfl) (evA (evB rfl rfl rfl) evA0)) rfl) (evA (evN (evA (evB rfl rfl rfl) (evA (evB (evB rfl rfl rfl) rfl rfl) evA0)) rfl) (evA rfl evA0))) rfl)) h)
  cases hzz : (if w = 0 then y.1 else y.2) with
  | nil =>
    rw [hzz] at ne gi
    refine ⟨[(y.1.reverse, y.2), (y.1, y.2.reverse), y], k + 1, ?_, g3, by omega, by omega⟩
    rw [← ef]
    exact fnRO rfl (head (stS (stIF (evV (b := false) (evB (evB rfl rfl gi) rfl ne)) rfl) (stRL rfl)))
  | cons z0 zs =>
    rw [hzz] at ne gi hz2
    obtain ⟨j, hj, e2⟩ := draw_N ns hl (k + 1) (z0 :: zs).length (by omega) (by omega) (by simp)
    have hlen : gLen [.tuple ((z0 :: zs).map lnT)] = some (.int ((z0 :: zs).length : Int)) := by
      have : ((z0 :: zs).map lnT).length ≤ 1000000 := by
        rw [List.length_map]
        have := hz2.2
        omega
      have := lenT this
      rwa [List.length_map] at this
    -- the line at that place
    have hsplit : (z0 :: zs) = (z0 :: zs).take j ++ (z0 :: zs)[j] :: (z0 :: zs).drop (j + 1) := by
      rw [← List.drop_eq_getElem_cons hj, List.take_append_drop]
    let a := (z0 :: zs).take j
    let l := (z0 :: zs)[j]
    let b := (z0 :: zs).drop (j + 1)
    have ha : a.length = j := by
      show ((z0 :: zs).take j).length = j
      rw [List.length_take]
      omega
    have hzl : (if w = 0 then y.1 else y.2) = a ++ l :: b := by rw [hzz]; exact hsplit
    have hab : a.length + b.length ≤ 400 := by
      have := congrArg List.length hsplit
      rw [List.length_append, List.length_cons (a := (z0 :: zs)[j])] at this
      have h60 := hz2.2
      show ((z0 :: zs).take j).length + ((z0 :: zs).drop (j + 1)).length ≤ 400
      omega
    obtain ⟨lo, ln⟩ := hz2.1 l (List.getElem_mem _)
    have gat : gIx (.tuple ((z0 :: zs).map lnT)) (.int (j : Int)) = some (lnT l) := by
      have e : L2.atI ((z0 :: zs).map lnT) (j : Int) = some (lnT l) := L2.atI_nat (by rw [List.getElem?_map, List.getElem?_eq_getElem hj]; rfl)
      have hb : ((z0 :: zs).map lnT).length ≤ 1000000 := by
        rw [List.length_map]
        have := hz2.2
        omega
      simp only [gIx, e, hb, if_true]
    have tb := turned_back_D (.tup (l.map pD)) lo (k + 2)
    have m1 : LnOk (bw l) := lo.bw
    have m2 : LnOk (rot l 1) := ⟨rot_nm lo.nm 1, by rw [rot_length]; exact lo.few⟩
    have n1 : bw l ≠ [] := fun z => ln (bw_nil.mp z)
    have n2 : rot l 1 ≠ [] := fun z => ln (List.length_eq_zero_iff.mp (by rw [← rot_length l 1, z]; rfl))
    have st1 := change_step ns y w hw a b l (bw l) hzl hab first (by simp [first]) (.sh (lnT l)) .un (k + 2)
    have st2 := change_step ns y w hw a b l (rot l 1) hzl hab (first ++ [ydT (putAt y w (a ++ bw l :: b))]) (by simp [first]) (.sh (lnT l)) (.sh (.tuple ((a ++ bw l :: b).map lnT))) (k + 2)
    rw [ha] at st1 st2
    have rot1 : (dB gAdd (dSl gSlE (dVarO 6) (pS (dC (.int 1))) pN) (dSl gSlE (dVarO 6) pN (pS (dC (.int 1))))) (sideE ns y w (.sh (.int (j : Int))) (.sh (lnT l)) .un .un first) (k + 2) = some (lnT (rot l 1), k + 2) := by
      have s1 : gSlE (lnT l) (some 1) none = some (.tuple ((l.map pD).drop 1)) := by
        show some (PyData.tuple (cutD (l.map pD) (some ((1 : Nat) : Int)) none)) = _
        rw [cut_from]
      have s2 : gSlE (lnT l) none (some 1) = some (.tuple ((l.map pD).take 1)) := by
        show some (PyData.tuple (cutD (l.map pD) none (some ((1 : Nat) : Int)))) = _
        rw [cut_to]
      exact evB (evSl rfl (evP rfl) evP0 s1) (evSl rfl evP0 (evP rfl) s2) (lnT_rot lo)
    refine ⟨[(y.1.reverse, y.2), (y.1, y.2.reverse), y] ++ [putAt y w (a ++ bw l :: b), putAt y w (a ++ rot l 1 :: b)], k + 2, ?_, fun z hz => ?_, by omega, by omega⟩
    · have er : ([(y.1.reverse, y.2), (y.1, y.2.reverse), y] ++ [putAt y w (a ++ bw l :: b), putAt y w (a ++ rot l 1 :: b)]).map ydT = first ++ [ydT (putAt y w (a ++ bw l :: b))] ++ [ydT (putAt y w (a ++ rot l 1 :: b))] := by
        rw [List.map_append, ← ef]
        simp
      rw [er]
      have kk : k + 1 + 1 = k + 2 := by omega
      rw [kk] at e2
      refine fnRO rfl (head (stS (stIT (evV (b := true) (evB (evB rfl rfl gi) rfl ne)) (stS (stA (evC (evA rfl (evA rfl (evA (evN (evA (evB rfl rfl gi) evA0) hlen) evA0))) e2)) (stS (stA (evB (evB rfl rfl gi) rfl gat)) (stF (evI (evN (evA (evN (evA (evL (evCL (evA rfl evA0) tb)) evA0) rfl) (evA rot1 evA0)) rfl) rfl) (forStep rfl st1 (forStep rfl st2 rfl)))))) (stRL rfl)))
    · rcases List.mem_append.mp hz with hz | hz
      · exact g3 z hz
      · simp only [List.mem_cons, List.not_mem_nil, or_false] at hz
        rcases hz with rfl | rfl
        · exact putAt_good hg hzl m1 n1 (nml_bw l)
        · exact putAt_good hg hzl m2 n2 (nml_rot l 1)
end Mx

set_option Elab.async false
set_option linter.all false
set_option maxRecDepth 100000
set_option maxHeartbeats 1000000
/-! law 03 holds -/
namespace Mx
open PySem PySem.Spec PyProof.Rows L2 Evl Dn Cm
open PySem.W (alike alikeAll keyToks dataLt minD TotalLe)

theorem pl_pD {p : Pc} (h : IsName p.1) : Pl (pD p) := .tup _ (.cons (.str _ h.ok (Nat.le_trans h.hi (by decide))) (.cons (.int _) .nil)) (by simp)
theorem pl_pieces {l : Ln} (h : ∀ p ∈ l, IsName p.1) : PlA (l.map pD) := PlA.of fun d hd => by
  obtain ⟨p, hp, rfl⟩ := List.mem_map.mp hd
  exact pl_pD (h p hp)
theorem pl_lnL {l : Ln} (h : ∀ p ∈ l, IsName p.1) (few : l.length ≤ 450) : Pl (lnL l) := .list _ (pl_pieces h) (by rw [List.length_map]; exact few)
theorem pl_lnT {l : Ln} (h : ∀ p ∈ l, IsName p.1) (few : l.length ≤ 450) : Pl (lnT l) := .tup _ (pl_pieces h) (by rw [List.length_map]; exact few)
/-- lines that are no more than a law draws -/
structure Few (ls : List Ln) : Prop where
  nm : ∀ l ∈ ls, ∀ p ∈ l, IsName p.1
  ln : ∀ l ∈ ls, l.length ≤ 450
  few : ls.length ≤ 440
theorem Few.lists {ls : List Ln} (h : Few ls) : Pl (.list (ls.map lnL)) := .list _ (PlA.of fun d hd => by
  obtain ⟨l, hl, rfl⟩ := List.mem_map.mp hd
  exact pl_lnL (h.nm l hl) (h.ln l hl)) (by rw [List.length_map]; have := h.few; omega)
theorem Few.tups {ls : List Ln} (h : Few ls) : Pl (.tuple (ls.map lnT)) := .tup _ (PlA.of fun d hd => by
  obtain ⟨l, hl, rfl⟩ := List.mem_map.mp hd
  exact pl_lnT (h.nm l hl) (h.ln l hl)) (by rw [List.length_map]; have := h.few; omega)
theorem szD_L (ls : List Ln) : szD (ls.map lnL) = (nms ls).length := by
  rw [nms_len]
  unfold szD
  rw [List.map_map]
  congr 1
  exact List.map_congr_left fun l _ => List.length_map _
theorem szD_T (ls : List Ln) : szD (ls.map lnT) = (nms ls).length := by
  rw [nms_len]
  unfold szD
  rw [List.map_map]
  congr 1
  exact List.map_congr_left fun l _ => List.length_map _
theorem Good.few1 {r g : List Ln} (h : Good r g) : Few r ∧ Few g := by
  have hl := h.lines
  exact ⟨⟨fun l hx => (h.h1.ok l hx).nm, fun l hx => by have := h.line (List.mem_append_left g hx); omega, by omega⟩, ⟨fun l hx => (h.h2.ok l hx).nm, fun l hx => by have := h.line (List.mem_append_right r hx); omega, by omega⟩⟩
theorem lists_inj {a b : List Ln} (h : PyData.list (a.map lnL) = .list (b.map lnL)) : a = b := by
  simp only [PyData.list.injEq] at h
  refine map_inj (fun x y e => ?_) h
  simp only [lnL, PyData.list.injEq] at e
  exact lnA_inj e
structure WrongY (a b : Dt) : Prop where
  pa : Pl a
  pb : Pl b
  few : itsN a + itsN b ≤ 4000
  no : ∀ rows rings : List Ln, a = .list (rows.map lnL) → b = .list (rings.map lnL) → Good rows rings → False
theorem WrongY.exc {a b : Dt} (h : WrongY a b) (k : Int) : x_yard_of [a, b] k = some (.exc ("BadYard" : Str) k) := by
  rcases yard_of_any h.pa h.pb h.few k with ⟨r, g, e1, e2, e3, _⟩ | e
  · exact (h.no r g e1 e2 e3).elim
  · exact e
structure WrongN (d : Dt) : Prop where
  pd : Pl d
  few : ∀ a b, d = .tuple [a, b] → itsN a + itsN b ≤ 4000
  no : ∀ rows rings : List Ln, d = ydT (rows, rings) → Good rows rings → False
theorem WrongN.exc {d : Dt} (h : WrongN d) (k : Int) : x_need_yard [d] k = some (.exc ("BadYard" : Str) k) := by
  rcases need_yard_any h.pd h.few k with ⟨r, g, e1, e2, _, _⟩ | ⟨_, e⟩
  · exact (h.no r g e1 e2).elim
  · exact e
theorem again_ne {rows rings : List Ln} {l : Ln} (hl : l ∈ rows ++ rings) (hn : l ≠ []) (nd : (nms (rows ++ rings) ++ l.map (·.1)).Nodup) : False := by
  cases l with
  | nil => exact hn rfl
  | cons p l =>
    have h1 : p.1 ∈ nms (rows ++ rings) := List.mem_map.mpr ⟨p, List.mem_flatten.mpr ⟨_, hl, List.mem_cons_self⟩, rfl⟩
    exact (List.nodup_append.mp nd).2.2 _ h1 _ (List.mem_map.mpr ⟨p, List.mem_cons_self, rfl⟩) rfl
theorem dup1 {rows rings : List Ln} {l : Ln} (hl : l ∈ rows ++ rings) (hn : l ≠ []) (h : Good (rows ++ [l]) rings) : False := by
  refine again_ne hl hn ((List.Perm.nodup_iff ?_).mp h.nd)
  have : (rows ++ [l] ++ rings).Perm ((rows ++ rings) ++ [l]) := by
    rw [List.append_assoc, List.append_assoc]
    exact List.Perm.append_left _ List.perm_append_comm
  have := nms_perm this
  rw [nms_app (rows ++ rings)] at this
  have e : nms [l] = l.map (·.1) := by simp [nms]
  rwa [e] at this
theorem dup2 {rows rings : List Ln} {l : Ln} (hl : l ∈ rows ++ rings) (hn : l ≠ []) (h : Good rows (rings ++ [l])) : False := by
  refine again_ne hl hn ?_
  have := h.nd
  rw [← List.append_assoc, nms_app (rows ++ rings)] at this
  have e : nms [l] = l.map (·.1) := by simp [nms]
  rwa [e] at this
theorem many_D (ns : List Int) (hl : ns.length ≤ 63) (many : Nat) (hm : many ≤ 100) (k : Int) (h0 : 0 ≤ k) (h1 : k + 2000 < 1000000) :
    ∃ (xs : List Str) (rows rings : List Ln) (k' : Int), d__law_many [scr ns, ctrD, .int (many : Int)] k = some (.list [.list (rows.map lnL), .list (rings.map lnL)], k') ∧ Drawn xs rows rings ∧ xs.length = many ∧ xs.Nodup ∧ (∀ x ∈ xs, IsName x) ∧ k ≤ k' ∧ k' ≤ k + 405 := by
  obtain ⟨xs, e3, hlen, nd, hx⟩ := names_eq ns hl k many h0 (by omega) hm
  obtain ⟨rows, rings, k1, e4, dr, b1, b2⟩ := rows_eq ns hl xs hx (by omega) (k + 4) (by omega) (by omega)
  exact ⟨xs, rows, rings, k1, fnR rfl (stR (evC (evA rfl (evA rfl (evA (evL (evCL (evA rfl (evA rfl (evA rfl evA0))) e3)) evA0))) e4)), dr, hlen, nd, hx, by omega, by omega⟩
theorem Drawn.lsok {xs : List Str} {rows rings : List Ln} (h : Drawn xs rows rings) (hx : ∀ x ∈ xs, IsName x) (few : xs.length ≤ 100) : LsOk rows ∧ LsOk rings ∧ Few rows ∧ Few rings ∧ (nms (rows ++ rings)).Perm xs := by
  have p : (nms (rows ++ rings)).Perm xs := h.nm
  have nn := nonames p hx
  have hl := h.few
  have ln : ∀ l ∈ rows ++ rings, l.length ≤ 100 := fun l hl => by
    have := mem_names hl
    have := p.length_eq
    omega
  have ok : ∀ ls : List Ln, (∀ l ∈ ls, l ∈ rows ++ rings) → ls.length ≤ 100 → LsOk ls ∧ Few ls := fun ls hs hn =>
    ⟨⟨fun l hl => ⟨nn l (hs l hl), by have := ln l (hs l hl); omega⟩, fun l hl => h.ne l (hs l hl), by omega⟩, ⟨fun l hl => nn l (hs l hl), fun l hl => by have := ln l (hs l hl); omega, by omega⟩⟩
  have a := ok rows (fun l hl => List.mem_append_left _ hl) (by omega)
  have b := ok rings (fun l hl => List.mem_append_right _ hl) (by omega)
  exact ⟨a.1, b.1, a.2, b.2, p⟩
end Mx

set_option Elab.async false
set_option linter.all false
set_option maxRecDepth 100000
set_option maxHeartbeats 1000000
/-! law 03 holds -/
namespace Mx
open PySem PySem.Spec PyProof.Rows L2 Evl Dn Cm
open PySem.W (alike alikeAll keyToks dataLt minD TotalLe)

theorem loop1 (ρ : Cell → Cell → Ev) (hs : ∀ c11 c12 a b d, SeqOf d [a, b] → (gTupG 2 (gConsD (gSet 11) (gConsD (gSet 12) gNilD))) (ρ c11 c12) d = some (ρ (.sh a) (.sh b)))
    (h11 : ∀ a b k, dVar 11 (ρ (.sh a) (.sh b)) k = some (a, k)) (h12 : ∀ a b k, dVar 12 (ρ (.sh a) (.sh b)) k = some (b, k)) (k : Int) : ∀ (ds : List Dt) (c11 c12 : Cell), (∀ d ∈ ds, ∃ a b, SeqOf d [a, b] ∧ WrongY a b) →
    ∃ d11 d12, forLoop (gTupG 2 (gConsD (gSet 11) (gConsD (gSet 12) gNilD))) b_law03_1 ds (ρ c11 c12) k = some (.next (ρ d11 d12) k)
  | [], c11, c12, _ => ⟨c11, c12, rfl⟩
  | d :: ds, c11, c12, h => by
    obtain ⟨a, b, sq, w⟩ := h d List.mem_cons_self
    obtain ⟨d11, d12, r⟩ := loop1 ρ hs h11 h12 k ds (.sh a) (.sh b) fun x hx => h x (List.mem_cons_of_mem _ hx)
    have ask := ask_exc (w := false) (w.exc k)
    have one : tV (dB gNe (dCall d__law_asked (aCons (dVar 11) (aCons (dVar 12) (aCons (dC (.bool false)) aNil)))) (dC (.str ("yard" : Str)))) (ρ (.sh a) (.sh b)) k = some (false, k) := evV (evB (evC (evA (h11 a b k) (evA (h12 a b k) (evA rfl evA0))) ask) rfl (ne_same yard_ok))
    exact ⟨d11, d12, forStep (hs c11 c12 a b d sq) (stIF (evOrF one one) rfl) r⟩
theorem loop3 (ρ : Cell → Ev) (hs : ∀ c d, gSet 7 (ρ c) d = some (ρ (.sh d))) (h7 : ∀ d k, dVar 7 (ρ (.sh d)) k = some (d, k)) (k : Int) : ∀ (ds : List Dt) (c7 : Cell), (∀ d ∈ ds, WrongN d) →
    ∃ d7, forLoop (gSet 7) b_law03_5 ds (ρ c7) k = some (.next (ρ d7) k)
  | [], c7, _ => ⟨c7, rfl⟩
  | d :: ds, c7, h => by
    obtain ⟨d7, r⟩ := loop3 ρ hs h7 k ds (.sh d) fun x hx => h x (List.mem_cons_of_mem _ hx)
    have ask := ask_exc (b := .none) (w := true) ((h d List.mem_cons_self).exc k)
    exact ⟨d7, forStep (hs c7 d) (stIF (evV (evB (evC (evA (h7 d k) (evA rfl (evA rfl evA0))) ask) rfl (ne_same yard_ok))) rfl) r⟩
theorem neShown {a b : Dt} (ha : a.canLay0 = true) (hb : b.canLay0 = true) : gNe (.str a.shown) (.str b.shown) = some (.bool (!decide (a.shown = b.shown))) := by
  unfold gNe
  rw [if_pos ⟨shown_ok ha, shown_ok hb⟩, eqv_str_str]
  by_cases h : a.shown = b.shown <;> simp [h]
theorem ydT_pl {r g : List Ln} (h1 : Few r) (h2 : Few g) : Pl (ydT (r, g)) := .tup _ (.cons h1.tups (.cons h2.tups .nil)) (by simp)
theorem ydT_itsN {r g : List Ln} : ∀ a b, ydT (r, g) = .tuple [a, b] → itsN a + itsN b = (nms (r ++ g)).length := fun a b e => by
  unfold ydT at e
  simp only [PyData.tuple.injEq, List.cons.injEq, and_true] at e
  obtain ⟨rfl, rfl⟩ := e
  show szD (r.map lnT) + szD (g.map lnT) = _
  rw [szD_T, szD_T, nms_app, List.length_append]
theorem repr_Y {r g : List Ln} (h : Good r g) : gRepr [ydT (r, g)] = some (.str (ydT (r, g)).shown) := repr_D h.fine (by decide) (by decide)
/-- what need_yard says of a yard's data -/
theorem ask_yard {r g : List Ln} (h : Good r g) (b : Dt) (k : Int) : d__law_asked [ydT (r, g), b, .bool true] k = some (.str (if lyard r g = (r, g) then (ydT (r, g)).shown else ("yard" : Str)), k) := by
  rcases need_yard_any (ydT_pl h.few1.1 h.few1.2) (fun a b e => by rw [ydT_itsN a b e]; have := h.few; omega) k with ⟨r', g', e1, e2, e3, e4⟩ | ⟨no, e⟩
  · have := ydT_inj e1
    cases this
    rw [if_pos e3]
    exact ask_val (w := true) e4 (repr_Y h)
  · have : ¬ lyard r g = (r, g) := fun z => no r g rfl h z
    rw [if_neg this]
    exact ask_exc (w := true) e
theorem turn03 (ns : List Int) (y : Yd) (h : Good y.1 y.2) (c0 c1 c2 c3 c4 c5 c6 c8 c9 c10 c11 c12 c13 c14 c15 : Cell) (k : Int) :
    b_law03_4 [c0, c1, c2, c3, c4, c5, c6, .sh (ydT y), c8, c9, c10, c11, c12, c13, .un, .un] k = some (.next [c0, c1, c2, c3, c4, c5, c6, .sh (ydT y), c8, c9, c10, c11, c12, .sh (ydT (lyard y.1 y.2)), .un, .un] k) := by
  have hl := h.lines
  have l1 : lcLoop [c0, c1, c2, c3, c4, c5, c6, .sh (ydT y), c8, c9, c10, c11, c12, c13, .un, .un] (gSet 14) tAll e_law03_2 (y.1.map lnT) k = some (y.1.map lnL, k) := lc_of lnT lnL fun l _ => ⟨_, rfl, rfl⟩
  have l2 : lcLoop [c0, c1, c2, c3, c4, c5, c6, .sh (ydT y), c8, c9, c10, c11, c12, c13, .un, .un] (gSet 15) tAll e_law03_3 (y.2.map lnT) k = some (y.2.map lnL, k) := lc_of lnT lnL fun l _ => ⟨_, rfl, rfl⟩
  have ly := law_yard_D (lines_lists y.1) (lines_lists y.2) h.h1 h.h2 k
  have ask := ask_yard h .none k
  have nes := neShown (a := ydT (lyard y.1 y.2)) (b := ydT y) h.least.fine.lay h.fine.lay
  have rp1 := repr_Y h.least
  have rp2 := repr_Y h
  refine stS (stA (evC (evA (evL (evLc (evI (evB rfl rfl rfl) rfl) (by rw [List.length_map]; omega) l1)) (evA (evL (evLc (evI (evB rfl rfl rfl) rfl) (by rw [List.length_map]; omega) l2)) evA0)) ly)) (stIF (k1 := k) ?_ rfl)
  by_cases e : lyard y.1 y.2 = y
  · have e' : lyard y.1 y.2 = (y.1, y.2) := e
    rw [if_pos e'] at ask
    have es : (ydT (lyard y.1 y.2)).shown = (ydT y).shown := by rw [e]
    rw [decide_eq_true es] at nes
    exact evV (evB (evC (evA rfl (evA rfl (evA rfl evA0))) ask) (evB (evL (evNL (evA (evN (evA rfl evA0) rp2) (evA rfl evA0)) rfl)) (evN (evA (evB (evN (evA rfl evA0) rp1) (evN (evA rfl evA0) rp2) nes) evA0) rfl) rfl) (ne_shown h.fine.lay))
  · have e' : ¬ lyard y.1 y.2 = (y.1, y.2) := e
    rw [if_neg e'] at ask
    have es : ¬ (ydT (lyard y.1 y.2)).shown = (ydT y).shown := fun z => e (shown_inj h.least h z)
    rw [decide_eq_false es] at nes
    exact evV (evB (evC (evA rfl (evA rfl (evA rfl evA0))) ask) (evB (evL (evNL (evA (evN (evA rfl evA0) rp2) (evA rfl evA0)) rfl)) (evN (evA (evB (evN (evA rfl evA0) rp1) (evN (evA rfl evA0) rp2) nes) evA0) rfl) rfl) (ne_same yard_ok))
theorem loop2 (c0 c1 c2 c3 c4 c5 c6 c8 c9 c10 c11 c12 : Cell) (k : Int) : ∀ (ys : List Yd) (c7 c13 : Cell), (∀ y ∈ ys, Good y.1 y.2) →
    ∃ d7 d13, forLoop (gSet 7) b_law03_4 (ys.map ydT) [c0, c1, c2, c3, c4, c5, c6, c7, c8, c9, c10, c11, c12, c13, .un, .un] k = some (.next [c0, c1, c2, c3, c4, c5, c6, d7, c8, c9, c10, c11, c12, d13, .un, .un] k)
  | [], c7, c13, _ => ⟨c7, c13, rfl⟩
  | y :: ys, c7, c13, h => by
    obtain ⟨d7, d13, r⟩ := loop2 c0 c1 c2 c3 c4 c5 c6 c8 c9 c10 c11 c12 k ys (.sh (ydT y)) (.sh (ydT (lyard y.1 y.2))) fun x hx => h x (List.mem_cons_of_mem _ hx)
    exact ⟨d7, d13, forStep rfl (turn03 [] y (h y List.mem_cons_self) c0 c1 c2 c3 c4 c5 c6 c8 c9 c10 c11 c12 c13 .un .un k) r⟩
/-! ### the things that are no yards -/
theorem wrongs {rows rings : List Ln} (hg : Good rows rings) {odd : Dt} (ho : odd ∈ odds) {l0 l1 : Ln} (h0 : l0 ∈ rows ++ rings) (h1 : l1 ∈ rows ++ rings) {mr mg : List Ln} (fr : Few mr) (fg : Few mg) (m1 : 61 ≤ (nms (mr ++ mg)).length) (m2 : (nms (mr ++ mg)).length ≤ 100) :
    ∀ d ∈ [.tuple [odd, .list (rings.map lnL)], .tuple [.list (rows.map lnL), odd], .tuple [.list (rows.map lnL), .list (rings.map lnL ++ [.list []])], .tuple [.list (rows.map lnL ++ [lnL l0]), .list (rings.map lnL)], .list [.list (mr.map lnL), .list (mg.map lnL)]]
      ++ [PyData.tuple [.list (rows.map lnL), .list (rings.map lnL ++ [lnL l1])]]
      ++ [.tuple [.tuple (rows.map lnL), .list (rings.map lnL)], .tuple [.list (rows.map lnL), .tuple (rings.map lnL)], .tuple [.none, .none], .tuple [.list (rows.map lnL ++ [lnT l0]), .list (rings.map lnL)]], ∃ a b, SeqOf d [a, b] ∧ WrongY a b := by
  have po := plB_pl odd (List.all_eq_true.mp odds_pl odd ho)
  have fo : itsN odd ≤ 100 := by simpa using List.all_eq_true.mp odds_few odd ho
  have pr := hg.few1.1.lists
  have pg := hg.few1.2.lists
  have n60 := hg.few
  have nr : itsN (.list (rows.map lnL)) = (nms rows).length := szD_L rows
  have ng : itsN (.list (rings.map lnL)) = (nms rings).length := szD_L rings
  have nl := nms_left (a := rows) (b := rings)
  have ln := hg.lines
  have lok : ∀ l ∈ rows ++ rings, (∀ p ∈ l, IsName p.1) ∧ l.length ≤ 60 ∧ l ≠ [] := fun l hl => ⟨(hg.h1.both hg.h2 l hl).1.nm, hg.line hl, (hg.h1.both hg.h2 l hl).2⟩
  have plus : ∀ (ls : List Ln) (x : Dt), Few ls → Pl x → Pl (.list (ls.map lnL ++ [x])) := fun ls x fl px => .list _ (PlA.of fun d hd => by
    rcases List.mem_append.mp hd with hd | hd
    · obtain ⟨l, hl, rfl⟩ := List.mem_map.mp hd
      exact pl_lnL (fl.nm l hl) (fl.ln l hl)
    · rw [List.mem_singleton.mp hd]
      exact px) (by have := fl.few; simp; omega)
  have nplus : ∀ (ls : List Ln) (x : Dt), itsN (.list (ls.map lnL ++ [x])) = (nms ls).length + itN x := fun ls x => by
    show szD (ls.map lnL ++ [x]) = _
    rw [szD_app, szD_L]
    simp [szD]
  have p0 := pl_lnL (lok l0 h0).1 (by have := (lok l0 h0).2.1; omega)
  have p1 := pl_lnL (lok l1 h1).1 (by have := (lok l1 h1).2.1; omega)
  have pt0 := pl_lnT (lok l0 h0).1 (by have := (lok l0 h0).2.1; omega)
  have i0 : itN (lnL l0) ≤ 60 := by
    show (l0.map pD).length ≤ 60
    rw [List.length_map]
    exact (lok l0 h0).2.1
  have i1 : itN (lnL l1) ≤ 60 := by
    show (l1.map pD).length ≤ 60
    rw [List.length_map]
    exact (lok l1 h1).2.1
  have it0 : itN (lnT l0) ≤ 60 := by
    show (l0.map pD).length ≤ 60
    rw [List.length_map]
    exact (lok l0 h0).2.1
  have last : ∀ (ls ls' : List Ln) (x : Dt), PyData.list (ls.map lnL ++ [x]) = .list (ls'.map lnL) → ∃ l, x = lnL l ∧ ls' = ls ++ [l] := fun ls ls' x e => by
    simp only [PyData.list.injEq] at e
    have hlen := congrArg List.length e
    simp only [List.length_append, List.length_map, List.length_singleton] at hlen
    have hne : ls' ≠ [] := fun z => by
      rw [z] at hlen
      simp at hlen
    obtain ⟨init, l, rfl⟩ : ∃ init l, ls' = init ++ [l] := ⟨ls'.dropLast, ls'.getLast hne, (List.dropLast_concat_getLast hne).symm⟩
    rw [List.map_append] at e
    have e2 := List.append_inj' e rfl
    have e3 : ls = init := lists_inj (by rw [e2.1])
    simp only [List.map_cons, List.map_nil, List.cons.injEq, and_true] at e2
    exact ⟨l, e2.2, by rw [e3]⟩
  intro d hd
  simp only [List.cons_append, List.nil_append, List.mem_cons, List.not_mem_nil, or_false] at hd
  rcases hd with rfl | rfl | rfl | rfl | rfl | rfl | rfl | rfl | rfl | rfl
  · exact ⟨_, _, .tup _, po, pg, by omega, fun r g e1 e2 h => odd_list ho e1 h.h1 (List.nodup_append.mp (by have := h.nd; rwa [nms_app] at this)).1⟩
  · exact ⟨_, _, .tup _, pr, po, by omega, fun r g e1 e2 h => odd_list ho e2 h.h2 (List.nodup_append.mp (by have := h.nd; rwa [nms_app] at this)).2.1⟩
  · refine ⟨_, _, .tup _, pr, plus rings _ hg.few1.2 (.list [] .nil (by simp)), by rw [nplus, nr]; show _ + (_ + 0) ≤ 4000; omega, fun r g e1 e2 h => ?_⟩
    obtain ⟨l, e3, rfl⟩ := last _ _ _ e2
    have : l = [] := by
      simp only [lnL, PyData.list.injEq] at e3
      exact (List.map_eq_nil_iff.mp e3.symm)
    exact h.h2.ne l (by simp) this
  · refine ⟨_, _, .tup _, plus rows _ hg.few1.1 p0, pg, by rw [nplus, ng]; omega, fun r g e1 e2 h => ?_⟩
    obtain ⟨l, e3, rfl⟩ := last _ _ _ e1
    have : l = l0 := (lnA_inj (by simpa [lnL] using e3)).symm
    subst this
    have := lists_inj e2
    subst this
    exact dup1 h0 (lok _ h0).2.2 h
  · refine ⟨_, _, .lst _, fr.lists, fg.lists, ?_, fun r g e1 e2 h => ?_⟩
    · show szD _ + szD _ ≤ 4000
      rw [szD_L, szD_L]
      have := nms_left (a := mr) (b := mg)
      omega
    · have := lists_inj e1
      subst this
      have := lists_inj e2
      subst this
      have := h.few
      omega
  · refine ⟨_, _, .tup _, pr, plus rings _ hg.few1.2 p1, by rw [nplus, nr]; omega, fun r g e1 e2 h => ?_⟩
    obtain ⟨l, e3, rfl⟩ := last _ _ _ e2
    have : l = l1 := (lnA_inj (by simpa [lnL] using e3)).symm
    subst this
    have := lists_inj e1
    subst this
    exact dup2 h1 (lok _ h1).2.2 h
  · refine ⟨_, _, .tup _, ?_, pg, ?_, fun r g e1 e2 h => by cases e1⟩
    · cases pr with
      | list _ a b => exact .tup _ a b
    · rw [show itsN (.tuple (rows.map lnL)) = itsN (.list (rows.map lnL)) from rfl, nr, ng]
      omega
  · refine ⟨_, _, .tup _, pr, ?_, ?_, fun r g e1 e2 h => by cases e2⟩
    · cases pg with
      | list _ a b => exact .tup _ a b
    · rw [show itsN (.tuple (rings.map lnL)) = itsN (.list (rings.map lnL)) from rfl, nr, ng]
      omega
  · exact ⟨_, _, .tup _, .none, .none, by decide, fun r g e1 e2 h => by cases e1⟩
  · refine ⟨_, _, .tup _, plus rows _ hg.few1.1 pt0, pg, by rw [nplus, ng]; omega, fun r g e1 e2 h => ?_⟩
    obtain ⟨l, e3, rfl⟩ := last _ _ _ e1
    cases e3
end Mx

set_option Elab.async false
set_option linter.all false
set_option maxRecDepth 100000
set_option maxHeartbeats 1000000
/-! law 03 holds, the end -/
namespace Mx
open PySem PySem.Spec PyProof.Rows L2 Evl Dn Cm
open PySem.W (alike alikeAll keyToks dataLt minD TotalLe)

theorem nolen {d : Dt} {y : Yd} (e : d = ydT y) (h : (its d).length ≠ 2) : False := by
  rw [e] at h
  exact h rfl
theorem noyards {rows rings r1 g1 : List Ln} (hg : Good rows rings) (hd : Good r1 g1) {odd : Dt} (ho : odd ∈ odds) {mr mg : List Ln} (lr : LsOk mr) (lg : LsOk mg) (fr : Few mr) (fg : Few mg) (m1 : 61 ≤ (nms (mr ++ mg)).length) (m2 : (nms (mr ++ mg)).length ≤ 100) :
    ∀ d ∈ [.none, .int 5, .tuple [], .tuple [.tuple (r1.map lnT)], .tuple [.tuple (r1.map lnT), .tuple (g1.map lnT), .tuple []], .list [.tuple (r1.map lnT), .tuple (g1.map lnT)], .tuple [.tuple (r1.map lnT), .list (g1.map lnT)], .tuple [.list (r1.map lnT), .tuple (g1.map lnT)]]
      ++ [ydT (lyard mr mg), .tuple [.tuple [], odd], .tuple [odd, .tuple []], PyData.tuple [.list (rows.map lnL), .list (rings.map lnL)]], WrongN d := by
  have po := plB_pl odd (List.all_eq_true.mp odds_pl odd ho)
  have fo : itsN odd ≤ 100 := by simpa using List.all_eq_true.mp odds_few odd ho
  have pr := hg.few1.1.lists
  have pg := hg.few1.2.lists
  have n60 := hg.few
  have nr : itsN (.list (rows.map lnL)) = (nms rows).length := szD_L rows
  have ng : itsN (.list (rings.map lnL)) = (nms rings).length := szD_L rings
  have nl := nms_left (a := rows) (b := rings)
  have d60 := hd.few
  have qr := hd.few1.1.tups
  have qg := hd.few1.2.tups
  have qr' : Pl (.list (r1.map lnT)) := by
    cases qr with
    | tup _ a b => exact .list _ a b
  have qg' : Pl (.list (g1.map lnT)) := by
    cases qg with
    | tup _ a b => exact .list _ a b
  have dl := nms_left (a := r1) (b := g1)
  have e0 : Pl (.tuple []) := .tup _ .nil (by simp)
  have two : ∀ {a b x y : Dt}, PyData.tuple [a, b] = .tuple [x, y] → a = x ∧ b = y := fun e => by
    simp only [PyData.tuple.injEq, List.cons.injEq, and_true] at e
    exact e
  have szr : szD (r1.map lnT) = (nms r1).length := szD_T r1
  have szg : szD (g1.map lnT) = (nms g1).length := szD_T g1
  intro d hd'
  simp only [List.cons_append, List.nil_append, List.mem_cons, List.not_mem_nil, or_false] at hd'
  rcases hd' with rfl | rfl | rfl | rfl | rfl | rfl | rfl | rfl | rfl | rfl | rfl | rfl
  · exact ⟨.none, (fun _ _ e => by cases e), fun _ _ e _ => by cases e⟩
  · exact ⟨.int 5, (fun _ _ e => by cases e), fun _ _ e _ => by cases e⟩
  · exact ⟨e0, (fun _ _ e => by cases e), fun _ _ e _ => by cases e⟩
  · exact ⟨.tup _ (.cons qr .nil) (by simp), (fun _ _ e => by cases e), fun _ _ e _ => nolen e (by simp [its])⟩
  · exact ⟨.tup _ (.cons qr (.cons qg (.cons e0 .nil))) (by simp), (fun _ _ e => by cases e), fun _ _ e _ => nolen e (by simp [its])⟩
  · exact ⟨.list _ (.cons qr (.cons qg .nil)) (by simp), (fun _ _ e => by cases e), fun _ _ e _ => by cases e⟩
  · refine ⟨.tup _ (.cons qr (.cons qg' .nil)) (by simp), fun a b e => ?_, fun _ _ e _ => by cases (two e).2⟩
    obtain ⟨rfl, rfl⟩ := two e
    show szD _ + szD _ ≤ 4000
    omega
  · refine ⟨.tup _ (.cons qr' (.cons qg .nil)) (by simp), fun a b e => ?_, fun _ _ e _ => by cases (two e).1⟩
    obtain ⟨rfl, rfl⟩ := two e
    show szD _ + szD _ ≤ 4000
    omega
  · have p : (nms ((lyard mr mg).1 ++ (lyard mr mg).2)).Perm (nms (mr ++ mg)) := by
      rw [nms_app, nms_app]
      refine List.Perm.append ?_ ?_
      · exact (nms_perm (List.mergeSort_perm _ _)).trans (nms_map fun l _ => nml_lrow l)
      · exact (nms_perm (List.mergeSort_perm _ _)).trans (nms_map fun l hl => nml_reads (lring_mem (lg.ne l hl)))
    have len := p.length_eq
    have hleft := nms_left (a := (lyard mr mg).1) (b := (lyard mr mg).2)
    have few : ∀ {ls : List Ln}, LsOk ls → (∀ l ∈ ls, l ∈ (lyard mr mg).1 ++ (lyard mr mg).2) → (nms ls).length ≤ 100 → Few ls := fun {ls} h hs hn => ⟨fun l hl => (h.ok l hl).nm, fun l hl => by
      have := mem_names (hs l hl)
      omega, by
      have a := lines_names h.ne
      omega⟩
    refine ⟨ydT_pl (few (ls := (lyard mr mg).1) lr.rows.sort (fun l hl => List.mem_append_left _ hl) (by omega)) (few (ls := (lyard mr mg).2) lg.rings.sort (fun l hl => List.mem_append_right _ hl) (by omega)), fun a b e => ?_, fun r g e h => ?_⟩
    · have := ydT_itsN (r := (lyard mr mg).1) (g := (lyard mr mg).2) a b e
      omega
    · have := ydT_inj e
      have h60 := h.few
      rw [this] at len
      simp only at len
      omega
  · refine ⟨.tup _ (.cons e0 (.cons po .nil)) (by simp), fun a b e => ?_, fun r g e h => ?_⟩
    · obtain ⟨rfl, rfl⟩ := two e
      show 0 + _ ≤ 4000
      omega
    · obtain ⟨e1, e2⟩ := two e
      exact odd_tuple ho e2 h.h2 (List.nodup_append.mp (by have := h.nd; rwa [nms_app] at this)).2.1
  · refine ⟨.tup _ (.cons po (.cons e0 .nil)) (by simp), fun a b e => ?_, fun r g e h => ?_⟩
    · obtain ⟨rfl, rfl⟩ := two e
      show _ + 0 ≤ 4000
      omega
    · obtain ⟨e1, e2⟩ := two e
      exact odd_tuple ho e1 h.h1 (List.nodup_append.mp (by have := h.nd; rwa [nms_app] at this)).1
  · refine ⟨.tup _ (.cons pr (.cons pg .nil)) (by simp), fun a b e => ?_, fun _ _ e _ => by cases (two e).1⟩
    obtain ⟨rfl, rfl⟩ := two e
    omega
theorem many4 (w : Nat) (h : w < 4) : ∃ many : Nat, 1 ≤ many ∧ many ≤ 60 ∧ gIx (.list [.int 1, .int 3, .int 7, .int 60]) (.int (w : Int)) = some (.int (many : Int)) := by
  have : w = 0 ∨ w = 1 ∨ w = 2 ∨ w = 3 := by omega
  rcases this with rfl | rfl | rfl | rfl
  · exact ⟨1, by decide, by decide, rfl⟩
  · exact ⟨3, by decide, by decide, rfl⟩
  · exact ⟨7, by decide, by decide, rfl⟩
  · exact ⟨60, by decide, by decide, rfl⟩
theorem at_last {xs : List Dt} {x : Dt} (h : xs.length < 1000000) : gIx (.list (xs ++ [x])) (.int (-1)) = some x := by
  have hl : (xs ++ [x]).length = xs.length + 1 := by simp
  have e : L2.atI (xs ++ [x]) (-1) = some x := by
    have h1 : L2.ixN (xs ++ [x]).length (-1) = some xs.length := by
      unfold L2.ixN
      have h0 : ¬ (0 ≤ (-1 : Int)) := by decide
      have h2 : -(((xs ++ [x]).length : Nat) : Int) ≤ -1 := by omega
      rw [if_neg h0, if_pos h2]
      congr 1
      omega
    unfold L2.atI
    rw [h1, Option.bind_some]
    simp
  have h3 : (xs ++ [x]).length ≤ 1000000 := by omega
  simp only [gIx, e, h3, if_true]
theorem law03 (ns : List Int) (hl : ns.length ≤ 63) : lawRun 16 1 b_law03 ns = some (.bool true) := by
  obtain ⟨w, hw, e1⟩ := draw_N ns hl 0 4 (by decide) (by decide) (by decide)
  obtain ⟨many, hm1, hm, e2⟩ := many4 w hw
  obtain ⟨xs, rows, rings, k1, e3, dr, hlen, nd, hx, b1, b2⟩ := many_D ns hl many (by omega) (0 + 1) (by decide) (by decide)
  have hg := dr.good hx nd (by omega)
  have gl := hg.least
  have e5 := law_yard_D (lines_lists rows) (lines_lists rings) hg.h1 hg.h2 k1
  have yo := yard_of_D hg.h1 hg.h2 hg.nd hg.few k1
  have rp := repr_Y gl
  have a1 := ask_val (b := .list (rings.map lnL)) (w := false) yo rp
  have a2 := ask_yard gl .none k1
  rw [if_pos (show lyard (lyard rows rings).1 (lyard rows rings).2 = ((lyard rows rings).1, (lyard rows rings).2) from least_least hg)] at a2
  have ne := ne_shown gl.fine.lay
  obtain ⟨odd, ho, e6⟩ := odd_D ns hl k1 (by omega) (by omega)
  obtain ⟨v, hv, e7⟩ := draw_N ns hl (k1 + 1) 40 (by omega) (by omega) (by decide)
  obtain ⟨xm, mr, mg, k2, e8, drm, hlenm, ndm, hxm, b3, b4⟩ := many_D ns hl (61 + v) (by omega) (k1 + 1 + 1) (by omega) (by omega)
  obtain ⟨lr, lg, fr, fg, pm⟩ := drm.lsok hxm (by omega)
  have m1 : 61 ≤ (nms (mr ++ mg)).length := by rw [pm.length_eq]; omega
  have m2 : (nms (mr ++ mg)).length ≤ 100 := by rw [pm.length_eq]; omega
  -- all lines together
  have lines := hg.lines
  have agne : rows ++ rings ≠ [] := fun z => by
    have p : (nms (rows ++ rings)).Perm xs := dr.nm
    have := p.length_eq
    rw [z] at this
    have h0 : (nms ([] : List Ln)).length = 0 := rfl
    omega
  obtain ⟨l0, ag', hag⟩ : ∃ l0 ag', rows ++ rings = l0 :: ag' := by
    cases h : rows ++ rings with
    | nil => exact absurd h agne
    | cons a b => exact ⟨a, b, rfl⟩
  obtain ⟨ini, l1, hag1⟩ : ∃ ini l1, rows ++ rings = ini ++ [l1] := ⟨(rows ++ rings).dropLast, (rows ++ rings).getLast agne, (List.dropLast_concat_getLast agne).symm⟩
  have h0 : l0 ∈ rows ++ rings := by rw [hag]; exact List.mem_cons_self
  have h1 : l1 ∈ rows ++ rings := by rw [hag1]; simp
  have W := wrongs hg ho h0 h1 fr fg m1 m2
  have N := noyards hg gl ho lr lg fr fg m1 m2
  have ini_len : ini.length + 1 ≤ 60 := by
    have := congrArg List.length hag1
    simp only [List.length_append, List.length_singleton] at this
    omega
  have gcat : gAdd (.list (rows.map lnL)) (.list (rings.map lnL)) = some (.list ((rows ++ rings).map lnL)) := by
    have : (rows.map lnL).length + (rings.map lnL).length ≤ 1000000 := by simp; omega
    refine (if_pos this).trans ?_
    rw [List.map_append]
  have at0 : gIx (.list ((rows ++ rings).map lnL)) (.int 0) = some (lnL l0) := by
    rw [hag]
    have e : L2.atI ((l0 :: ag').map lnL) ((0 : Nat) : Int) = some (lnL l0) := L2.atI_nat rfl
    have hb : ((l0 :: ag').map lnL).length ≤ 1000000 := by
      rw [← hag]
      simp
      omega
    have e' : L2.atI ((l0 :: ag').map lnL) 0 = some (lnL l0) := e
    simp only [gIx, e', hb, if_true]
  have at1 : gIx (.list ((rows ++ rings).map lnL)) (.int (-1)) = some (lnL l1) := by
    rw [hag1, List.map_append]
    exact at_last (by rw [List.length_map]; omega)
  have plus : ∀ (ls : List Ln) (x : Dt), ls.length ≤ 60 → gAdd (.list (ls.map lnL)) (.list [x]) = some (.list (ls.map lnL ++ [x])) := fun ls x h => by
    have : (ls.map lnL).length + [x].length ≤ 1000000 := by simp; omega
    exact if_pos this
  have a4 : gAdd (.int 61) (.int (v : Int)) = some (.int ((61 + v : Nat) : Int)) := by
    have : ((61 + v : Nat) : Int) = 61 + (v : Int) := by omega
    rw [this]
    rfl
  obtain ⟨d11, d12, f1⟩ := loop1 (fun c11 c12 => [.sh (scr ns), .sh ctrD, .sh (ydT (lyard rows rings)), .sh odd, .sh (.list [.list (mr.map lnL), .list (mg.map lnL)]), .sh (.list ((rows ++ rings).map lnL)), .sh (.list ([.tuple [odd, .list (rings.map lnL)], .tuple [.list (rows.map lnL), odd], .tuple [.list (rows.map lnL), .list (rings.map lnL ++ [.list []])], .tuple [.list (rows.map lnL ++ [lnL l0]), .list (rings.map lnL)], .list [.list (mr.map lnL), .list (mg.map lnL)]]
      ++ [PyData.tuple [.list (rows.map lnL), .list (rings.map lnL ++ [lnL l1])]]
      ++ [.tuple [.tuple (rows.map lnL), .list (rings.map lnL)], .tuple [.list (rows.map lnL), .tuple (rings.map lnL)], .tuple [.none, .none], .tuple [.list (rows.map lnL ++ [lnT l0]), .list (rings.map lnL)]])), .un, .un, .sh (.list (rows.map lnL)), .sh (.list (rings.map lnL)), c11, c12, .un, .un, .un])
    (fun c11 c12 a b d sq => by cases sq <;> rfl) (fun a b k => rfl) (fun a b k => rfl) k2 _ .un .un W
  obtain ⟨ys, k3, e9, gys, b5, b6⟩ := changed_D ns hl (y := lyard rows rings) gl k2 (by omega) (by omega)
  obtain ⟨d7, d13, f2⟩ := loop2 (.sh (scr ns)) (.sh ctrD) (.sh (ydT (lyard rows rings))) (.sh odd) (.sh (.list [.list (mr.map lnL), .list (mg.map lnL)])) (.sh (.list ((rows ++ rings).map lnL))) (.sh (.list ([.tuple [odd, .list (rings.map lnL)], .tuple [.list (rows.map lnL), odd], .tuple [.list (rows.map lnL), .list (rings.map lnL ++ [.list []])], .tuple [.list (rows.map lnL ++ [lnL l0]), .list (rings.map lnL)], .list [.list (mr.map lnL), .list (mg.map lnL)]]
      ++ [PyData.tuple [.list (rows.map lnL), .list (rings.map lnL ++ [lnL l1])]]
      ++ [.tuple [.tuple (rows.map lnL), .list (rings.map lnL)], .tuple [.list (rows.map lnL), .tuple (rings.map lnL)], .tuple [.none, .none], .tuple [.list (rows.map lnL ++ [lnT l0]), .list (rings.map lnL)]]))) .un (.sh (.list (rows.map lnL))) (.sh (.list (rings.map lnL))) d11 d12 k3 ys .un .un gys
  have e10 := law_yard_D (lines_lists mr) (lines_lists mg) lr lg k3
  let yards : List Dt := [.none, .int 5, .tuple [], .tuple [.tuple ((lyard rows rings).1.map lnT)], .tuple [.tuple ((lyard rows rings).1.map lnT), .tuple ((lyard rows rings).2.map lnT), .tuple []], .list [.tuple ((lyard rows rings).1.map lnT), .tuple ((lyard rows rings).2.map lnT)], .tuple [.tuple ((lyard rows rings).1.map lnT), .list ((lyard rows rings).2.map lnT)], .tuple [.list ((lyard rows rings).1.map lnT), .tuple ((lyard rows rings).2.map lnT)]]
  obtain ⟨d7', f3⟩ := loop3 (fun c7 => [.sh (scr ns), .sh ctrD, .sh (ydT (lyard rows rings)), .sh odd, .sh (.list [.list (mr.map lnL), .list (mg.map lnL)]), .sh (.list ((rows ++ rings).map lnL)), .sh (.list ([.tuple [odd, .list (rings.map lnL)], .tuple [.list (rows.map lnL), odd], .tuple [.list (rows.map lnL), .list (rings.map lnL ++ [.list []])], .tuple [.list (rows.map lnL ++ [lnL l0]), .list (rings.map lnL)], .list [.list (mr.map lnL), .list (mg.map lnL)]]
      ++ [PyData.tuple [.list (rows.map lnL), .list (rings.map lnL ++ [lnL l1])]]
      ++ [.tuple [.tuple (rows.map lnL), .list (rings.map lnL)], .tuple [.list (rows.map lnL), .tuple (rings.map lnL)], .tuple [.none, .none], .tuple [.list (rows.map lnL ++ [lnT l0]), .list (rings.map lnL)]])), c7, .sh (.list yards), .sh (.list (rows.map lnL)), .sh (.list (rings.map lnL)), d11, d12, d13, .un, .un])
    (fun c d => rfl) (fun d k => rfl) k3 _ d7 N
  have sl1 : gSlE (ydT (lyard rows rings)) none (some 1) = some (.tuple [.tuple ((lyard rows rings).1.map lnT)]) := rfl
  have run : b_law03 (lawEnv 16 1 ns) 0 = some (.ret (.bool true) k3) := by
    refine stS (stG (evC (evA rfl (evA rfl (evA (evB (evL (evNL (evA rfl (evA rfl (evA rfl (evA rfl evA0)))) rfl)) (evC (evA rfl (evA rfl (evA rfl evA0))) e1) e2) evA0))) e3) rfl) (stS (stA (evC (evA rfl (evA rfl evA0)) e5)) (stS (stIF (evOrF (evV (evB (evC (evA rfl (evA rfl (evA rfl evA0))) a1) (evN (evA rfl evA0) rp) ne)) (evV (evB (evC (evA rfl (evA rfl (evA rfl evA0))) a2) (evN (evA rfl evA0) rp) ne))) rfl) ?_))
    refine stS (stA (evC (evA rfl (evA rfl evA0)) e6)) (stS (stA (evC (evA rfl (evA rfl (evA (evB rfl (evC (evA rfl (evA rfl (evA rfl evA0))) e7) a4) evA0))) e8)) (stS (stA (evB rfl rfl gcat)) ?_))
    refine stS (stL (evNL (evA (evN (evA rfl (evA rfl evA0)) rfl) (evA (evN (evA rfl (evA rfl evA0)) rfl) (evA (evN (evA rfl (evA (evB rfl (evL (evNL (evA (evL (evNL evA0 rfl)) evA0) rfl)) (plus rings _ (by omega))) evA0)) rfl) (evA (evN (evA (evB rfl (evL (evNL (evA (evB rfl rfl at0) evA0) rfl)) (plus rows _ (by omega))) (evA rfl evA0)) rfl) (evA rfl evA0))))) rfl)) ?_
    refine stS (stM (evA (evN (evA rfl (evA (evB rfl (evL (evNL (evA (evB rfl (evU rfl rfl) at1) evA0) rfl)) (plus rings _ (by omega))) evA0)) rfl) evA0) rfl rfl) ?_
    refine stS (stL (evBL rfl (evL (evNL (evA (evN (evA (evN (evA rfl evA0) rfl) (evA rfl evA0)) rfl) (evA (evN (evA rfl (evA (evN (evA rfl evA0) rfl) evA0)) rfl) (evA (evN (evA rfl (evA rfl evA0)) rfl) (evA (evN (evA (evB rfl (evL (evNL (evA (evN (evA (evB rfl rfl at0) evA0) rfl) evA0) rfl)) (plus rows _ (by omega))) (evA rfl evA0)) rfl) evA0)))) rfl)) rfl)) ?_
    refine stZ rfl (stS (stF (evI rfl rfl) f1) (stS (stF (evI (evC (evA rfl (evA rfl (evA rfl evA0))) e9) rfl) f2) ?_))
    refine stS (stA (x := .list yards) (evL (evNL (evA rfl (evA rfl (evA rfl (evA (evSl rfl evP0 (evP rfl) sl1) (evA (evB rfl rfl rfl) (evA (evL (evNL (evA rfl evA0) rfl)) (evA (evN (evA (evB rfl rfl rfl) (evA (evL (evNL (evA (evB rfl rfl rfl) evA0) rfl)) evA0)) rfl) (evA (evN (evA (evL (evNL (evA (evB rfl rfl rfl) evA0) rfl)) (evA (evB rfl rfl rfl) evA0)) rfl) evA0)))))))) rfl))) ?_
    exact stS (stF (evI (evB rfl (evL (evNL (evA (evC (evA (evB rfl rfl rfl) (evA (evB rfl rfl rfl) evA0)) e10) (evA (evN (evA rfl (evA rfl evA0)) rfl) (evA (evN (evA rfl (evA rfl evA0)) rfl) (evA (evN (evA rfl (evA rfl evA0)) rfl) evA0)))) rfl)) rfl) rfl) f3) (stR rfl)
  unfold lawRun
  rw [run]
  rfl
end Mx

set_option Elab.async false
set_option linter.all false
set_option maxRecDepth 100000
set_option maxHeartbeats 2000000
namespace K03
open PySem PySem.Spec PyProof.Rows L2 Evl Dn Cm
theorem dfn_mk {K : PySem.W.Frag} {mg : Str → Option Value} {h : Heap} {x : Str} {st : Stmt} {ps : List Str} {f : Addr} {oc : Value} {od an : Option Addr} {osl : Array (Option Value)} {kV doc pm cdv ct : Value} (X : K.In h) (G : h.Ns mainGlobals mg)
    (a : PySem.W.nsIn K mainGlobals x = some (some (.ref f))) (l : K.lookup f = some ⟨oc, od, .func (PySem.W.fnOf x x (defArgs st) (defBody st) (defScope st) .none kV doc pm an cdv ct), osl⟩) (c : PySem.W.codeIn K cdv x = true) (k : PySem.W.keepIn K (.ref f) = true)
    (hb : ∀ (kV doc pm : Value) (an : Option Addr) (cdv ct : Value) (us : List Value), us.length = ps.length → bindArgs (PySem.W.fnOf x x (defArgs st) (defBody st) (defScope st) .none kV doc pm an cdv ct) ⟨us, []⟩ = pure (ps.zip us)) :
    Dfn K mg x st ps f (PySem.W.fnOf x x (defArgs st) (defBody st) (defScope st) .none kV doc pm an cdv ct) := ⟨fun_mk l c k, PySem.W.mg_of X G a, (fun_mk (st := st) l c k).binds hb⟩
theorem all_mk {l : PySem.W.OpenLaw} {w : World} {K : PySem.W.Frag} {h : Heap} {mg : Str → Option Value} {fa : Addr} (X : K.In h) (G : h.Ns mainGlobals mg) (hfa : mg "law" = some (.ref fa))
    {a9 : Addr} {oc9 kV9 doc9 pm9 cdv9 ct9 : Value} {od9 an9 : Option Addr} {osl9 : Array (Option Value)}
    {a10 : Addr} {oc10 kV10 doc10 pm10 cdv10 ct10 : Value} {od10 an10 : Option Addr} {osl10 : Array (Option Value)}
    {a11 : Addr} {oc11 kV11 doc11 pm11 cdv11 ct11 : Value} {od11 an11 : Option Addr} {osl11 : Array (Option Value)}
    {a12 : Addr} {oc12 kV12 doc12 pm12 cdv12 ct12 : Value} {od12 an12 : Option Addr} {osl12 : Array (Option Value)}
    {a15 : Addr} {oc15 kV15 doc15 pm15 cdv15 ct15 : Value} {od15 an15 : Option Addr} {osl15 : Array (Option Value)}
    {a16 : Addr} {oc16 kV16 doc16 pm16 cdv16 ct16 : Value} {od16 an16 : Option Addr} {osl16 : Array (Option Value)}
    {a17 : Addr} {oc17 kV17 doc17 pm17 cdv17 ct17 : Value} {od17 an17 : Option Addr} {osl17 : Array (Option Value)}
    {a18 : Addr} {oc18 kV18 doc18 pm18 cdv18 ct18 : Value} {od18 an18 : Option Addr} {osl18 : Array (Option Value)}
    {a19 : Addr} {oc19 kV19 doc19 pm19 cdv19 ct19 : Value} {od19 an19 : Option Addr} {osl19 : Array (Option Value)}
    {a20 : Addr} {oc20 kV20 doc20 pm20 cdv20 ct20 : Value} {od20 an20 : Option Addr} {osl20 : Array (Option Value)}
    {a21 : Addr} {oc21 kV21 doc21 pm21 cdv21 ct21 : Value} {od21 an21 : Option Addr} {osl21 : Array (Option Value)}
    {a22 : Addr} {oc22 kV22 doc22 pm22 cdv22 ct22 : Value} {od22 an22 : Option Addr} {osl22 : Array (Option Value)}
    {a23 : Addr} {oc23 kV23 doc23 pm23 cdv23 ct23 : Value} {od23 an23 : Option Addr} {osl23 : Array (Option Value)}
    {a24 : Addr} {oc24 kV24 doc24 pm24 cdv24 ct24 : Value} {od24 an24 : Option Addr} {osl24 : Array (Option Value)}
    {a26 : Addr} {oc26 kV26 doc26 pm26 cdv26 ct26 : Value} {od26 an26 : Option Addr} {osl26 : Array (Option Value)}
    {a27 : Addr} {oc27 kV27 doc27 pm27 cdv27 ct27 : Value} {od27 an27 : Option Addr} {osl27 : Array (Option Value)}
    {a28 : Addr} {oc28 kV28 doc28 pm28 cdv28 ct28 : Value} {od28 an28 : Option Addr} {osl28 : Array (Option Value)}
    {a29 : Addr} {oc29 kV29 doc29 pm29 cdv29 ct29 : Value} {od29 an29 : Option Addr} {osl29 : Array (Option Value)}
    {a30 : Addr} {oc30 kV30 doc30 pm30 cdv30 ct30 : Value} {od30 an30 : Option Addr} {osl30 : Array (Option Value)}
    {a31 : Addr} {oc31 kV31 doc31 pm31 cdv31 ct31 : Value} {od31 an31 : Option Addr} {osl31 : Array (Option Value)}
    {a32 : Addr} {oc32 kV32 doc32 pm32 cdv32 ct32 : Value} {od32 an32 : Option Addr} {osl32 : Array (Option Value)}
    {a33 : Addr} {oc33 kV33 doc33 pm33 cdv33 ct33 : Value} {od33 an33 : Option Addr} {osl33 : Array (Option Value)}
    {a34 : Addr} {oc34 kV34 doc34 pm34 cdv34 ct34 : Value} {od34 an34 : Option Addr} {osl34 : Array (Option Value)}
    {a35 : Addr} {oc35 kV35 doc35 pm35 cdv35 ct35 : Value} {od35 an35 : Option Addr} {osl35 : Array (Option Value)}
    {a36 : Addr} {oc36 kV36 doc36 pm36 cdv36 ct36 : Value} {od36 an36 : Option Addr} {osl36 : Array (Option Value)}
    {a37 : Addr} {oc37 kV37 doc37 pm37 cdv37 ct37 : Value} {od37 an37 : Option Addr} {osl37 : Array (Option Value)}
    {e_JoinError : Addr}
    {e_BadYard : Addr}
    {e_BadPlaces : Addr}
    {e_BadDeed : Addr}
    {e_BadText : Addr}
    {e_Unlike : Addr}
    {t_LONGEST_NAME : Tok} {t_MOST_PIECES : Tok}
    (n9 : PySem.W.nsIn K mainGlobals "is_name" = some (some (.ref a9)))
    (l9 : K.lookup a9 = some ⟨oc9, od9, .func (PySem.W.fnOf "is_name" "is_name" (defArgs (topS 9)) (defBody (topS 9)) (defScope (topS 9)) .none kV9 doc9 pm9 an9 cdv9 ct9), osl9⟩)
    (c9 : PySem.W.codeIn K cdv9 "is_name" = true)
    (k9 : PySem.W.keepIn K (.ref a9) = true)
    (n10 : PySem.W.nsIn K mainGlobals "is_piece" = some (some (.ref a10)))
    (l10 : K.lookup a10 = some ⟨oc10, od10, .func (PySem.W.fnOf "is_piece" "is_piece" (defArgs (topS 10)) (defBody (topS 10)) (defScope (topS 10)) .none kV10 doc10 pm10 an10 cdv10 ct10), osl10⟩)
    (c10 : PySem.W.codeIn K cdv10 "is_piece" = true)
    (k10 : PySem.W.keepIn K (.ref a10) = true)
    (n11 : PySem.W.nsIn K mainGlobals "_is_name_with" = some (some (.ref a11)))
    (l11 : K.lookup a11 = some ⟨oc11, od11, .func (PySem.W.fnOf "_is_name_with" "_is_name_with" (defArgs (topS 11)) (defBody (topS 11)) (defScope (topS 11)) .none kV11 doc11 pm11 an11 cdv11 ct11), osl11⟩)
    (c11 : PySem.W.codeIn K cdv11 "_is_name_with" = true)
    (k11 : PySem.W.keepIn K (.ref a11) = true)
    (n12 : PySem.W.nsIn K mainGlobals "flipped" = some (some (.ref a12)))
    (l12 : K.lookup a12 = some ⟨oc12, od12, .func (PySem.W.fnOf "flipped" "flipped" (defArgs (topS 12)) (defBody (topS 12)) (defScope (topS 12)) .none kV12 doc12 pm12 an12 cdv12 ct12), osl12⟩)
    (c12 : PySem.W.codeIn K cdv12 "flipped" = true)
    (k12 : PySem.W.keepIn K (.ref a12) = true)
    (n15 : PySem.W.nsIn K mainGlobals "yard_of" = some (some (.ref a15)))
    (l15 : K.lookup a15 = some ⟨oc15, od15, .func (PySem.W.fnOf "yard_of" "yard_of" (defArgs (topS 15)) (defBody (topS 15)) (defScope (topS 15)) .none kV15 doc15 pm15 an15 cdv15 ct15), osl15⟩)
    (c15 : PySem.W.codeIn K cdv15 "yard_of" = true)
    (k15 : PySem.W.keepIn K (.ref a15) = true)
    (n16 : PySem.W.nsIn K mainGlobals "need_yard" = some (some (.ref a16)))
    (l16 : K.lookup a16 = some ⟨oc16, od16, .func (PySem.W.fnOf "need_yard" "need_yard" (defArgs (topS 16)) (defBody (topS 16)) (defScope (topS 16)) .none kV16 doc16 pm16 an16 cdv16 ct16), osl16⟩)
    (c16 : PySem.W.codeIn K cdv16 "need_yard" = true)
    (k16 : PySem.W.keepIn K (.ref a16) = true)
    (n17 : PySem.W.nsIn K mainGlobals "least_yard" = some (some (.ref a17)))
    (l17 : K.lookup a17 = some ⟨oc17, od17, .func (PySem.W.fnOf "least_yard" "least_yard" (defArgs (topS 17)) (defBody (topS 17)) (defScope (topS 17)) .none kV17 doc17 pm17 an17 cdv17 ct17), osl17⟩)
    (c17 : PySem.W.codeIn K cdv17 "least_yard" = true)
    (k17 : PySem.W.keepIn K (.ref a17) = true)
    (n18 : PySem.W.nsIn K mainGlobals "_is_list_of_lists" = some (some (.ref a18)))
    (l18 : K.lookup a18 = some ⟨oc18, od18, .func (PySem.W.fnOf "_is_list_of_lists" "_is_list_of_lists" (defArgs (topS 18)) (defBody (topS 18)) (defScope (topS 18)) .none kV18 doc18 pm18 an18 cdv18 ct18), osl18⟩)
    (c18 : PySem.W.codeIn K cdv18 "_is_list_of_lists" = true)
    (k18 : PySem.W.keepIn K (.ref a18) = true)
    (n19 : PySem.W.nsIn K mainGlobals "_is_tuple_of_tuples" = some (some (.ref a19)))
    (l19 : K.lookup a19 = some ⟨oc19, od19, .func (PySem.W.fnOf "_is_tuple_of_tuples" "_is_tuple_of_tuples" (defArgs (topS 19)) (defBody (topS 19)) (defScope (topS 19)) .none kV19 doc19 pm19 an19 cdv19 ct19), osl19⟩)
    (c19 : PySem.W.codeIn K cdv19 "_is_tuple_of_tuples" = true)
    (k19 : PySem.W.keepIn K (.ref a19) = true)
    (n20 : PySem.W.nsIn K mainGlobals "_is_pair_of_tuples" = some (some (.ref a20)))
    (l20 : K.lookup a20 = some ⟨oc20, od20, .func (PySem.W.fnOf "_is_pair_of_tuples" "_is_pair_of_tuples" (defArgs (topS 20)) (defBody (topS 20)) (defScope (topS 20)) .none kV20 doc20 pm20 an20 cdv20 ct20), osl20⟩)
    (c20 : PySem.W.codeIn K cdv20 "_is_pair_of_tuples" = true)
    (k20 : PySem.W.keepIn K (.ref a20) = true)
    (n21 : PySem.W.nsIn K mainGlobals "_need_pieces" = some (some (.ref a21)))
    (l21 : K.lookup a21 = some ⟨oc21, od21, .func (PySem.W.fnOf "_need_pieces" "_need_pieces" (defArgs (topS 21)) (defBody (topS 21)) (defScope (topS 21)) .none kV21 doc21 pm21 an21 cdv21 ct21), osl21⟩)
    (c21 : PySem.W.codeIn K cdv21 "_need_pieces" = true)
    (k21 : PySem.W.keepIn K (.ref a21) = true)
    (n22 : PySem.W.nsIn K mainGlobals "_backwards" = some (some (.ref a22)))
    (l22 : K.lookup a22 = some ⟨oc22, od22, .func (PySem.W.fnOf "_backwards" "_backwards" (defArgs (topS 22)) (defBody (topS 22)) (defScope (topS 22)) .none kV22 doc22 pm22 an22 cdv22 ct22), osl22⟩)
    (c22 : PySem.W.codeIn K cdv22 "_backwards" = true)
    (k22 : PySem.W.keepIn K (.ref a22) = true)
    (n23 : PySem.W.nsIn K mainGlobals "_least_row" = some (some (.ref a23)))
    (l23 : K.lookup a23 = some ⟨oc23, od23, .func (PySem.W.fnOf "_least_row" "_least_row" (defArgs (topS 23)) (defBody (topS 23)) (defScope (topS 23)) .none kV23 doc23 pm23 an23 cdv23 ct23), osl23⟩)
    (c23 : PySem.W.codeIn K cdv23 "_least_row" = true)
    (k23 : PySem.W.keepIn K (.ref a23) = true)
    (n24 : PySem.W.nsIn K mainGlobals "_least_ring" = some (some (.ref a24)))
    (l24 : K.lookup a24 = some ⟨oc24, od24, .func (PySem.W.fnOf "_least_ring" "_least_ring" (defArgs (topS 24)) (defBody (topS 24)) (defScope (topS 24)) .none kV24 doc24 pm24 an24 cdv24 ct24), osl24⟩)
    (c24 : PySem.W.codeIn K cdv24 "_least_ring" = true)
    (k24 : PySem.W.keepIn K (.ref a24) = true)
    (n26 : PySem.W.nsIn K mainGlobals "_law_draw" = some (some (.ref a26)))
    (l26 : K.lookup a26 = some ⟨oc26, od26, .func (PySem.W.fnOf "_law_draw" "_law_draw" (defArgs (topS 26)) (defBody (topS 26)) (defScope (topS 26)) .none kV26 doc26 pm26 an26 cdv26 ct26), osl26⟩)
    (c26 : PySem.W.codeIn K cdv26 "_law_draw" = true)
    (k26 : PySem.W.keepIn K (.ref a26) = true)
    (n27 : PySem.W.nsIn K mainGlobals "_law_names" = some (some (.ref a27)))
    (l27 : K.lookup a27 = some ⟨oc27, od27, .func (PySem.W.fnOf "_law_names" "_law_names" (defArgs (topS 27)) (defBody (topS 27)) (defScope (topS 27)) .none kV27 doc27 pm27 an27 cdv27 ct27), osl27⟩)
    (c27 : PySem.W.codeIn K cdv27 "_law_names" = true)
    (k27 : PySem.W.keepIn K (.ref a27) = true)
    (n28 : PySem.W.nsIn K mainGlobals "_law_rows" = some (some (.ref a28)))
    (l28 : K.lookup a28 = some ⟨oc28, od28, .func (PySem.W.fnOf "_law_rows" "_law_rows" (defArgs (topS 28)) (defBody (topS 28)) (defScope (topS 28)) .none kV28 doc28 pm28 an28 cdv28 ct28), osl28⟩)
    (c28 : PySem.W.codeIn K cdv28 "_law_rows" = true)
    (k28 : PySem.W.keepIn K (.ref a28) = true)
    (n29 : PySem.W.nsIn K mainGlobals "_law_turned_back" = some (some (.ref a29)))
    (l29 : K.lookup a29 = some ⟨oc29, od29, .func (PySem.W.fnOf "_law_turned_back" "_law_turned_back" (defArgs (topS 29)) (defBody (topS 29)) (defScope (topS 29)) .none kV29 doc29 pm29 an29 cdv29 ct29), osl29⟩)
    (c29 : PySem.W.codeIn K cdv29 "_law_turned_back" = true)
    (k29 : PySem.W.keepIn K (.ref a29) = true)
    (n30 : PySem.W.nsIn K mainGlobals "_law_ring" = some (some (.ref a30)))
    (l30 : K.lookup a30 = some ⟨oc30, od30, .func (PySem.W.fnOf "_law_ring" "_law_ring" (defArgs (topS 30)) (defBody (topS 30)) (defScope (topS 30)) .none kV30 doc30 pm30 an30 cdv30 ct30), osl30⟩)
    (c30 : PySem.W.codeIn K cdv30 "_law_ring" = true)
    (k30 : PySem.W.keepIn K (.ref a30) = true)
    (n31 : PySem.W.nsIn K mainGlobals "_law_yard" = some (some (.ref a31)))
    (l31 : K.lookup a31 = some ⟨oc31, od31, .func (PySem.W.fnOf "_law_yard" "_law_yard" (defArgs (topS 31)) (defBody (topS 31)) (defScope (topS 31)) .none kV31 doc31 pm31 an31 cdv31 ct31), osl31⟩)
    (c31 : PySem.W.codeIn K cdv31 "_law_yard" = true)
    (k31 : PySem.W.keepIn K (.ref a31) = true)
    (n32 : PySem.W.nsIn K mainGlobals "_law_word" = some (some (.ref a32)))
    (l32 : K.lookup a32 = some ⟨oc32, od32, .func (PySem.W.fnOf "_law_word" "_law_word" (defArgs (topS 32)) (defBody (topS 32)) (defScope (topS 32)) .none kV32 doc32 pm32 an32 cdv32 ct32), osl32⟩)
    (c32 : PySem.W.codeIn K cdv32 "_law_word" = true)
    (k32 : PySem.W.keepIn K (.ref a32) = true)
    (n33 : PySem.W.nsIn K mainGlobals "_law_asked" = some (some (.ref a33)))
    (l33 : K.lookup a33 = some ⟨oc33, od33, .func (PySem.W.fnOf "_law_asked" "_law_asked" (defArgs (topS 33)) (defBody (topS 33)) (defScope (topS 33)) .none kV33 doc33 pm33 an33 cdv33 ct33), osl33⟩)
    (c33 : PySem.W.codeIn K cdv33 "_law_asked" = true)
    (k33 : PySem.W.keepIn K (.ref a33) = true)
    (n34 : PySem.W.nsIn K mainGlobals "_law_odd" = some (some (.ref a34)))
    (l34 : K.lookup a34 = some ⟨oc34, od34, .func (PySem.W.fnOf "_law_odd" "_law_odd" (defArgs (topS 34)) (defBody (topS 34)) (defScope (topS 34)) .none kV34 doc34 pm34 an34 cdv34 ct34), osl34⟩)
    (c34 : PySem.W.codeIn K cdv34 "_law_odd" = true)
    (k34 : PySem.W.keepIn K (.ref a34) = true)
    (n35 : PySem.W.nsIn K mainGlobals "_law_many" = some (some (.ref a35)))
    (l35 : K.lookup a35 = some ⟨oc35, od35, .func (PySem.W.fnOf "_law_many" "_law_many" (defArgs (topS 35)) (defBody (topS 35)) (defScope (topS 35)) .none kV35 doc35 pm35 an35 cdv35 ct35), osl35⟩)
    (c35 : PySem.W.codeIn K cdv35 "_law_many" = true)
    (k35 : PySem.W.keepIn K (.ref a35) = true)
    (n36 : PySem.W.nsIn K mainGlobals "_law_changed" = some (some (.ref a36)))
    (l36 : K.lookup a36 = some ⟨oc36, od36, .func (PySem.W.fnOf "_law_changed" "_law_changed" (defArgs (topS 36)) (defBody (topS 36)) (defScope (topS 36)) .none kV36 doc36 pm36 an36 cdv36 ct36), osl36⟩)
    (c36 : PySem.W.codeIn K cdv36 "_law_changed" = true)
    (k36 : PySem.W.keepIn K (.ref a36) = true)
    (n37 : PySem.W.nsIn K mainGlobals "law" = some (some (.ref a37)))
    (l37 : K.lookup a37 = some ⟨oc37, od37, .func (PySem.W.fnOf "law" "law" (defArgs (topS 37)) (defBody (topS 37)) (defScope (topS 37)) .none kV37 doc37 pm37 an37 cdv37 ct37), osl37⟩)
    (c37 : PySem.W.codeIn K cdv37 "law" = true)
    (k37 : PySem.W.keepIn K (.ref a37) = true)
    (z_ValueError : PySem.W.nsIn K mainGlobals "ValueError" = some none)
    (z_all : PySem.W.nsIn K mainGlobals "all" = some none)
    (z_int : PySem.W.nsIn K mainGlobals "int" = some none)
    (z_isinstance : PySem.W.nsIn K mainGlobals "isinstance" = some none)
    (z_len : PySem.W.nsIn K mainGlobals "len" = some none)
    (z_list : PySem.W.nsIn K mainGlobals "list" = some none)
    (z_min : PySem.W.nsIn K mainGlobals "min" = some none)
    (z_range : PySem.W.nsIn K mainGlobals "range" = some none)
    (z_repr : PySem.W.nsIn K mainGlobals "repr" = some none)
    (z_set : PySem.W.nsIn K mainGlobals "set" = some none)
    (z_sorted : PySem.W.nsIn K mainGlobals "sorted" = some none)
    (z_str : PySem.W.nsIn K mainGlobals "str" = some none)
    (z_tuple : PySem.W.nsIn K mainGlobals "tuple" = some none)
    (z_type : PySem.W.nsIn K mainGlobals "type" = some none)
    (y_LONGEST_NAME : PySem.W.nsIn K mainGlobals "LONGEST_NAME" = some (some (.int 8 t_LONGEST_NAME)))
    (y_MOST_PIECES : PySem.W.nsIn K mainGlobals "MOST_PIECES" = some (some (.int 60 t_MOST_PIECES)))
    (ne_JoinError : PySem.W.nsIn K mainGlobals "JoinError" = some (some (.ref e_JoinError)))
    (ne_BadYard : PySem.W.nsIn K mainGlobals "BadYard" = some (some (.ref e_BadYard)))
    (ne_BadPlaces : PySem.W.nsIn K mainGlobals "BadPlaces" = some (some (.ref e_BadPlaces)))
    (ne_BadDeed : PySem.W.nsIn K mainGlobals "BadDeed" = some (some (.ref e_BadDeed)))
    (ne_BadText : PySem.W.nsIn K mainGlobals "BadText" = some (some (.ref e_BadText)))
    (ne_Unlike : PySem.W.nsIn K mainGlobals "Unlike" = some (some (.ref e_Unlike)))
    (qe_BadYard : PySem.W.excIn K e_BadYard [.type "ValueError", .type "Exception", .type "BaseException", .type "object"] "ValueError.__new__" = true)
    (ke_BadYard : PySem.W.keepIn K (.ref e_BadYard) = true)
    (se_BadYard : PySem.W.subIn K (.ref e_BadYard) (.type "BaseException") = some true)
    (te_BadYard : PySem.W.typeIn K (.ref e_BadYard) = some (.type "type"))
    (f1_BadYard : PySem.W.findIn K (.ref e_BadYard) "__getattribute__" = some (some (.builtin "BaseException.__getattribute__")))
    (f2_BadYard : PySem.W.findIn K (.ref e_BadYard) "__getattr__" = some none)
    (f4_BadYard : PySem.W.hasDictIn K e_BadYard = true)
    (f5_BadYard : PySem.W.findIn K (.ref e_BadYard) "__class__" = some (some (.builtin "object.__class__")))
    (f8_BadYard : PySem.W.mroIn K e_BadYard (.type "object") = some true)
    (v_BadYard : PySem.W.kitOne K (.ref e_BadYard) (.type "ValueError") = some true)
    (j_BadYard : PySem.W.exmOne K (.ref e_BadYard) (.ref e_JoinError) = some true)
    (qe_BadPlaces : PySem.W.excIn K e_BadPlaces [.type "ValueError", .type "Exception", .type "BaseException", .type "object"] "ValueError.__new__" = true)
    (ke_BadPlaces : PySem.W.keepIn K (.ref e_BadPlaces) = true)
    (se_BadPlaces : PySem.W.subIn K (.ref e_BadPlaces) (.type "BaseException") = some true)
    (te_BadPlaces : PySem.W.typeIn K (.ref e_BadPlaces) = some (.type "type"))
    (f1_BadPlaces : PySem.W.findIn K (.ref e_BadPlaces) "__getattribute__" = some (some (.builtin "BaseException.__getattribute__")))
    (f2_BadPlaces : PySem.W.findIn K (.ref e_BadPlaces) "__getattr__" = some none)
    (f4_BadPlaces : PySem.W.hasDictIn K e_BadPlaces = true)
    (f5_BadPlaces : PySem.W.findIn K (.ref e_BadPlaces) "__class__" = some (some (.builtin "object.__class__")))
    (f8_BadPlaces : PySem.W.mroIn K e_BadPlaces (.type "object") = some true)
    (v_BadPlaces : PySem.W.kitOne K (.ref e_BadPlaces) (.type "ValueError") = some true)
    (j_BadPlaces : PySem.W.exmOne K (.ref e_BadPlaces) (.ref e_JoinError) = some true)
    (qe_BadDeed : PySem.W.excIn K e_BadDeed [.type "ValueError", .type "Exception", .type "BaseException", .type "object"] "ValueError.__new__" = true)
    (ke_BadDeed : PySem.W.keepIn K (.ref e_BadDeed) = true)
    (se_BadDeed : PySem.W.subIn K (.ref e_BadDeed) (.type "BaseException") = some true)
    (te_BadDeed : PySem.W.typeIn K (.ref e_BadDeed) = some (.type "type"))
    (f1_BadDeed : PySem.W.findIn K (.ref e_BadDeed) "__getattribute__" = some (some (.builtin "BaseException.__getattribute__")))
    (f2_BadDeed : PySem.W.findIn K (.ref e_BadDeed) "__getattr__" = some none)
    (f4_BadDeed : PySem.W.hasDictIn K e_BadDeed = true)
    (f5_BadDeed : PySem.W.findIn K (.ref e_BadDeed) "__class__" = some (some (.builtin "object.__class__")))
    (f8_BadDeed : PySem.W.mroIn K e_BadDeed (.type "object") = some true)
    (v_BadDeed : PySem.W.kitOne K (.ref e_BadDeed) (.type "ValueError") = some true)
    (j_BadDeed : PySem.W.exmOne K (.ref e_BadDeed) (.ref e_JoinError) = some true)
    (qe_BadText : PySem.W.excIn K e_BadText [.type "ValueError", .type "Exception", .type "BaseException", .type "object"] "ValueError.__new__" = true)
    (ke_BadText : PySem.W.keepIn K (.ref e_BadText) = true)
    (se_BadText : PySem.W.subIn K (.ref e_BadText) (.type "BaseException") = some true)
    (te_BadText : PySem.W.typeIn K (.ref e_BadText) = some (.type "type"))
    (f1_BadText : PySem.W.findIn K (.ref e_BadText) "__getattribute__" = some (some (.builtin "BaseException.__getattribute__")))
    (f2_BadText : PySem.W.findIn K (.ref e_BadText) "__getattr__" = some none)
    (f4_BadText : PySem.W.hasDictIn K e_BadText = true)
    (f5_BadText : PySem.W.findIn K (.ref e_BadText) "__class__" = some (some (.builtin "object.__class__")))
    (f8_BadText : PySem.W.mroIn K e_BadText (.type "object") = some true)
    (v_BadText : PySem.W.kitOne K (.ref e_BadText) (.type "ValueError") = some true)
    (j_BadText : PySem.W.exmOne K (.ref e_BadText) (.ref e_JoinError) = some true)
    (qe_Unlike : PySem.W.excIn K e_Unlike [.type "ValueError", .type "Exception", .type "BaseException", .type "object"] "ValueError.__new__" = true)
    (ke_Unlike : PySem.W.keepIn K (.ref e_Unlike) = true)
    (se_Unlike : PySem.W.subIn K (.ref e_Unlike) (.type "BaseException") = some true)
    (te_Unlike : PySem.W.typeIn K (.ref e_Unlike) = some (.type "type"))
    (f1_Unlike : PySem.W.findIn K (.ref e_Unlike) "__getattribute__" = some (some (.builtin "BaseException.__getattribute__")))
    (f2_Unlike : PySem.W.findIn K (.ref e_Unlike) "__getattr__" = some none)
    (f4_Unlike : PySem.W.hasDictIn K e_Unlike = true)
    (f5_Unlike : PySem.W.findIn K (.ref e_Unlike) "__class__" = some (some (.builtin "object.__class__")))
    (f8_Unlike : PySem.W.mroIn K e_Unlike (.type "object") = some true)
    (v_Unlike : PySem.W.kitOne K (.ref e_Unlike) (.type "ValueError") = some true)
    (j_Unlike : PySem.W.exmOne K (.ref e_Unlike) (.ref e_JoinError) = some true)
    (f6 : PySem.W.specialIn K (.builtin "object.__class__") "__get__" = some (some (.builtin "getset_descriptor.__get__")))
    (f7 : PySem.W.takesIn K (.builtin "object.__class__") = some true)
    (p_BadYard_BadYard : PySem.W.kitOne K (.ref e_BadYard) (.ref e_BadYard) = some true)
    (p_BadYard_BadPlaces : PySem.W.kitOne K (.ref e_BadYard) (.ref e_BadPlaces) = some false)
    (p_BadYard_BadDeed : PySem.W.kitOne K (.ref e_BadYard) (.ref e_BadDeed) = some false)
    (p_BadYard_BadText : PySem.W.kitOne K (.ref e_BadYard) (.ref e_BadText) = some false)
    (p_BadYard_Unlike : PySem.W.kitOne K (.ref e_BadYard) (.ref e_Unlike) = some false)
    (p_BadPlaces_BadYard : PySem.W.kitOne K (.ref e_BadPlaces) (.ref e_BadYard) = some false)
    (p_BadPlaces_BadPlaces : PySem.W.kitOne K (.ref e_BadPlaces) (.ref e_BadPlaces) = some true)
    (p_BadPlaces_BadDeed : PySem.W.kitOne K (.ref e_BadPlaces) (.ref e_BadDeed) = some false)
    (p_BadPlaces_BadText : PySem.W.kitOne K (.ref e_BadPlaces) (.ref e_BadText) = some false)
    (p_BadPlaces_Unlike : PySem.W.kitOne K (.ref e_BadPlaces) (.ref e_Unlike) = some false)
    (p_BadDeed_BadYard : PySem.W.kitOne K (.ref e_BadDeed) (.ref e_BadYard) = some false)
    (p_BadDeed_BadPlaces : PySem.W.kitOne K (.ref e_BadDeed) (.ref e_BadPlaces) = some false)
    (p_BadDeed_BadDeed : PySem.W.kitOne K (.ref e_BadDeed) (.ref e_BadDeed) = some true)
    (p_BadDeed_BadText : PySem.W.kitOne K (.ref e_BadDeed) (.ref e_BadText) = some false)
    (p_BadDeed_Unlike : PySem.W.kitOne K (.ref e_BadDeed) (.ref e_Unlike) = some false)
    (p_BadText_BadYard : PySem.W.kitOne K (.ref e_BadText) (.ref e_BadYard) = some false)
    (p_BadText_BadPlaces : PySem.W.kitOne K (.ref e_BadText) (.ref e_BadPlaces) = some false)
    (p_BadText_BadDeed : PySem.W.kitOne K (.ref e_BadText) (.ref e_BadDeed) = some false)
    (p_BadText_BadText : PySem.W.kitOne K (.ref e_BadText) (.ref e_BadText) = some true)
    (p_BadText_Unlike : PySem.W.kitOne K (.ref e_BadText) (.ref e_Unlike) = some false)
    (p_Unlike_BadYard : PySem.W.kitOne K (.ref e_Unlike) (.ref e_BadYard) = some false)
    (p_Unlike_BadPlaces : PySem.W.kitOne K (.ref e_Unlike) (.ref e_BadPlaces) = some false)
    (p_Unlike_BadDeed : PySem.W.kitOne K (.ref e_Unlike) (.ref e_BadDeed) = some false)
    (p_Unlike_BadText : PySem.W.kitOne K (.ref e_Unlike) (.ref e_BadText) = some false)
    (p_Unlike_Unlike : PySem.W.kitOne K (.ref e_Unlike) (.ref e_Unlike) = some true) :
    ∃ fd : FuncData, (∀ (s : Shared) (v : Value), BindsTo s fd ⟨[v], []⟩ [("_law_script", v)]) ∧ ∀ base : Heap, K.In base → base.Ns mainGlobals mg → FnG l.prog w K mg base CX0 7 fa fd ["_law_script"] (spLaw K) := by
  have e := hfa.symm.trans (PySem.W.mg_of X G n37)
  cases e
  let ad : Nat → Addr := fun i => match i with
    | 9 => a9
    | 10 => a10
    | 11 => a11
    | 12 => a12
    | 15 => a15
    | 16 => a16
    | 17 => a17
    | 18 => a18
    | 19 => a19
    | 20 => a20
    | 21 => a21
    | 22 => a22
    | 23 => a23
    | 24 => a24
    | 26 => a26
    | 27 => a27
    | 28 => a28
    | 29 => a29
    | 30 => a30
    | 31 => a31
    | 32 => a32
    | 33 => a33
    | 34 => a34
    | 35 => a35
    | 36 => a36
    | 37 => fa
    | _ => 0
  let fds : Nat → FuncData := fun i => match i with
    | 9 => PySem.W.fnOf "is_name" "is_name" (defArgs (topS 9)) (defBody (topS 9)) (defScope (topS 9)) .none kV9 doc9 pm9 an9 cdv9 ct9
    | 10 => PySem.W.fnOf "is_piece" "is_piece" (defArgs (topS 10)) (defBody (topS 10)) (defScope (topS 10)) .none kV10 doc10 pm10 an10 cdv10 ct10
    | 11 => PySem.W.fnOf "_is_name_with" "_is_name_with" (defArgs (topS 11)) (defBody (topS 11)) (defScope (topS 11)) .none kV11 doc11 pm11 an11 cdv11 ct11
    | 12 => PySem.W.fnOf "flipped" "flipped" (defArgs (topS 12)) (defBody (topS 12)) (defScope (topS 12)) .none kV12 doc12 pm12 an12 cdv12 ct12
    | 15 => PySem.W.fnOf "yard_of" "yard_of" (defArgs (topS 15)) (defBody (topS 15)) (defScope (topS 15)) .none kV15 doc15 pm15 an15 cdv15 ct15
    | 16 => PySem.W.fnOf "need_yard" "need_yard" (defArgs (topS 16)) (defBody (topS 16)) (defScope (topS 16)) .none kV16 doc16 pm16 an16 cdv16 ct16
    | 17 => PySem.W.fnOf "least_yard" "least_yard" (defArgs (topS 17)) (defBody (topS 17)) (defScope (topS 17)) .none kV17 doc17 pm17 an17 cdv17 ct17
    | 18 => PySem.W.fnOf "_is_list_of_lists" "_is_list_of_lists" (defArgs (topS 18)) (defBody (topS 18)) (defScope (topS 18)) .none kV18 doc18 pm18 an18 cdv18 ct18
    | 19 => PySem.W.fnOf "_is_tuple_of_tuples" "_is_tuple_of_tuples" (defArgs (topS 19)) (defBody (topS 19)) (defScope (topS 19)) .none kV19 doc19 pm19 an19 cdv19 ct19
    | 20 => PySem.W.fnOf "_is_pair_of_tuples" "_is_pair_of_tuples" (defArgs (topS 20)) (defBody (topS 20)) (defScope (topS 20)) .none kV20 doc20 pm20 an20 cdv20 ct20
    | 21 => PySem.W.fnOf "_need_pieces" "_need_pieces" (defArgs (topS 21)) (defBody (topS 21)) (defScope (topS 21)) .none kV21 doc21 pm21 an21 cdv21 ct21
    | 22 => PySem.W.fnOf "_backwards" "_backwards" (defArgs (topS 22)) (defBody (topS 22)) (defScope (topS 22)) .none kV22 doc22 pm22 an22 cdv22 ct22
    | 23 => PySem.W.fnOf "_least_row" "_least_row" (defArgs (topS 23)) (defBody (topS 23)) (defScope (topS 23)) .none kV23 doc23 pm23 an23 cdv23 ct23
    | 24 => PySem.W.fnOf "_least_ring" "_least_ring" (defArgs (topS 24)) (defBody (topS 24)) (defScope (topS 24)) .none kV24 doc24 pm24 an24 cdv24 ct24
    | 26 => PySem.W.fnOf "_law_draw" "_law_draw" (defArgs (topS 26)) (defBody (topS 26)) (defScope (topS 26)) .none kV26 doc26 pm26 an26 cdv26 ct26
    | 27 => PySem.W.fnOf "_law_names" "_law_names" (defArgs (topS 27)) (defBody (topS 27)) (defScope (topS 27)) .none kV27 doc27 pm27 an27 cdv27 ct27
    | 28 => PySem.W.fnOf "_law_rows" "_law_rows" (defArgs (topS 28)) (defBody (topS 28)) (defScope (topS 28)) .none kV28 doc28 pm28 an28 cdv28 ct28
    | 29 => PySem.W.fnOf "_law_turned_back" "_law_turned_back" (defArgs (topS 29)) (defBody (topS 29)) (defScope (topS 29)) .none kV29 doc29 pm29 an29 cdv29 ct29
    | 30 => PySem.W.fnOf "_law_ring" "_law_ring" (defArgs (topS 30)) (defBody (topS 30)) (defScope (topS 30)) .none kV30 doc30 pm30 an30 cdv30 ct30
    | 31 => PySem.W.fnOf "_law_yard" "_law_yard" (defArgs (topS 31)) (defBody (topS 31)) (defScope (topS 31)) .none kV31 doc31 pm31 an31 cdv31 ct31
    | 32 => PySem.W.fnOf "_law_word" "_law_word" (defArgs (topS 32)) (defBody (topS 32)) (defScope (topS 32)) .none kV32 doc32 pm32 an32 cdv32 ct32
    | 33 => PySem.W.fnOf "_law_asked" "_law_asked" (defArgs (topS 33)) (defBody (topS 33)) (defScope (topS 33)) .none kV33 doc33 pm33 an33 cdv33 ct33
    | 34 => PySem.W.fnOf "_law_odd" "_law_odd" (defArgs (topS 34)) (defBody (topS 34)) (defScope (topS 34)) .none kV34 doc34 pm34 an34 cdv34 ct34
    | 35 => PySem.W.fnOf "_law_many" "_law_many" (defArgs (topS 35)) (defBody (topS 35)) (defScope (topS 35)) .none kV35 doc35 pm35 an35 cdv35 ct35
    | 36 => PySem.W.fnOf "_law_changed" "_law_changed" (defArgs (topS 36)) (defBody (topS 36)) (defScope (topS 36)) .none kV36 doc36 pm36 an36 cdv36 ct36
    | 37 => PySem.W.fnOf "law" "law" (defArgs (topS 37)) (defBody (topS 37)) (defScope (topS 37)) .none kV37 doc37 pm37 an37 cdv37 ct37
    | _ => PySem.W.fnOf "law" "law" (defArgs (topS 37)) (defBody (topS 37)) (defScope (topS 37)) .none kV37 doc37 pm37 an37 cdv37 ct37
  have er : Errs K mg "JoinError" [("BadYard" : Str), ("BadPlaces" : Str), ("BadDeed" : Str), ("BadText" : Str), ("Unlike" : Str)] := by
    refine ⟨fun c hc => ?_, ⟨_, PySem.W.mg_of X G ne_JoinError, fun c hc C g => ?_⟩, fun c hc c' hc' C C' g g' => ?_⟩
    · simp only [List.mem_cons, List.not_mem_nil, or_false] at hc
      rcases hc with rfl | rfl | rfl | rfl | rfl
      · exact ⟨_, ⟨PySem.W.mg_of X G ne_BadYard, qe_BadYard, ke_BadYard, se_BadYard, te_BadYard⟩, ⟨f1_BadYard, f2_BadYard, se_BadYard, f4_BadYard, f5_BadYard, f6, f7, f8_BadYard⟩, v_BadYard⟩
      · exact ⟨_, ⟨PySem.W.mg_of X G ne_BadPlaces, qe_BadPlaces, ke_BadPlaces, se_BadPlaces, te_BadPlaces⟩, ⟨f1_BadPlaces, f2_BadPlaces, se_BadPlaces, f4_BadPlaces, f5_BadPlaces, f6, f7, f8_BadPlaces⟩, v_BadPlaces⟩
      · exact ⟨_, ⟨PySem.W.mg_of X G ne_BadDeed, qe_BadDeed, ke_BadDeed, se_BadDeed, te_BadDeed⟩, ⟨f1_BadDeed, f2_BadDeed, se_BadDeed, f4_BadDeed, f5_BadDeed, f6, f7, f8_BadDeed⟩, v_BadDeed⟩
      · exact ⟨_, ⟨PySem.W.mg_of X G ne_BadText, qe_BadText, ke_BadText, se_BadText, te_BadText⟩, ⟨f1_BadText, f2_BadText, se_BadText, f4_BadText, f5_BadText, f6, f7, f8_BadText⟩, v_BadText⟩
      · exact ⟨_, ⟨PySem.W.mg_of X G ne_Unlike, qe_Unlike, ke_Unlike, se_Unlike, te_Unlike⟩, ⟨f1_Unlike, f2_Unlike, se_Unlike, f4_Unlike, f5_Unlike, f6, f7, f8_Unlike⟩, v_Unlike⟩
    · simp only [List.mem_cons, List.not_mem_nil, or_false] at hc
      rcases hc with rfl | rfl | rfl | rfl | rfl
      · cases g.symm.trans (PySem.W.mg_of X G ne_BadYard)
        exact j_BadYard
      · cases g.symm.trans (PySem.W.mg_of X G ne_BadPlaces)
        exact j_BadPlaces
      · cases g.symm.trans (PySem.W.mg_of X G ne_BadDeed)
        exact j_BadDeed
      · cases g.symm.trans (PySem.W.mg_of X G ne_BadText)
        exact j_BadText
      · cases g.symm.trans (PySem.W.mg_of X G ne_Unlike)
        exact j_Unlike
    · simp only [List.mem_cons, List.not_mem_nil, or_false] at hc hc'
      rcases hc with rfl | rfl | rfl | rfl | rfl
      · cases g.symm.trans (PySem.W.mg_of X G ne_BadYard)
        rcases hc' with rfl | rfl | rfl | rfl | rfl
        · cases g'.symm.trans (PySem.W.mg_of X G ne_BadYard)
          exact p_BadYard_BadYard.trans (by decide +kernel)
        · cases g'.symm.trans (PySem.W.mg_of X G ne_BadPlaces)
          exact p_BadYard_BadPlaces.trans (by decide +kernel)
        · cases g'.symm.trans (PySem.W.mg_of X G ne_BadDeed)
          exact p_BadYard_BadDeed.trans (by decide +kernel)
        · cases g'.symm.trans (PySem.W.mg_of X G ne_BadText)
          exact p_BadYard_BadText.trans (by decide +kernel)
        · cases g'.symm.trans (PySem.W.mg_of X G ne_Unlike)
          exact p_BadYard_Unlike.trans (by decide +kernel)
      · cases g.symm.trans (PySem.W.mg_of X G ne_BadPlaces)
        rcases hc' with rfl | rfl | rfl | rfl | rfl
        · cases g'.symm.trans (PySem.W.mg_of X G ne_BadYard)
          exact p_BadPlaces_BadYard.trans (by decide +kernel)
        · cases g'.symm.trans (PySem.W.mg_of X G ne_BadPlaces)
          exact p_BadPlaces_BadPlaces.trans (by decide +kernel)
        · cases g'.symm.trans (PySem.W.mg_of X G ne_BadDeed)
          exact p_BadPlaces_BadDeed.trans (by decide +kernel)
        · cases g'.symm.trans (PySem.W.mg_of X G ne_BadText)
          exact p_BadPlaces_BadText.trans (by decide +kernel)
        · cases g'.symm.trans (PySem.W.mg_of X G ne_Unlike)
          exact p_BadPlaces_Unlike.trans (by decide +kernel)
      · cases g.symm.trans (PySem.W.mg_of X G ne_BadDeed)
        rcases hc' with rfl | rfl | rfl | rfl | rfl
        · cases g'.symm.trans (PySem.W.mg_of X G ne_BadYard)
          exact p_BadDeed_BadYard.trans (by decide +kernel)
        · cases g'.symm.trans (PySem.W.mg_of X G ne_BadPlaces)
          exact p_BadDeed_BadPlaces.trans (by decide +kernel)
        · cases g'.symm.trans (PySem.W.mg_of X G ne_BadDeed)
          exact p_BadDeed_BadDeed.trans (by decide +kernel)
        · cases g'.symm.trans (PySem.W.mg_of X G ne_BadText)
          exact p_BadDeed_BadText.trans (by decide +kernel)
        · cases g'.symm.trans (PySem.W.mg_of X G ne_Unlike)
          exact p_BadDeed_Unlike.trans (by decide +kernel)
      · cases g.symm.trans (PySem.W.mg_of X G ne_BadText)
        rcases hc' with rfl | rfl | rfl | rfl | rfl
        · cases g'.symm.trans (PySem.W.mg_of X G ne_BadYard)
          exact p_BadText_BadYard.trans (by decide +kernel)
        · cases g'.symm.trans (PySem.W.mg_of X G ne_BadPlaces)
          exact p_BadText_BadPlaces.trans (by decide +kernel)
        · cases g'.symm.trans (PySem.W.mg_of X G ne_BadDeed)
          exact p_BadText_BadDeed.trans (by decide +kernel)
        · cases g'.symm.trans (PySem.W.mg_of X G ne_BadText)
          exact p_BadText_BadText.trans (by decide +kernel)
        · cases g'.symm.trans (PySem.W.mg_of X G ne_Unlike)
          exact p_BadText_Unlike.trans (by decide +kernel)
      · cases g.symm.trans (PySem.W.mg_of X G ne_Unlike)
        rcases hc' with rfl | rfl | rfl | rfl | rfl
        · cases g'.symm.trans (PySem.W.mg_of X G ne_BadYard)
          exact p_Unlike_BadYard.trans (by decide +kernel)
        · cases g'.symm.trans (PySem.W.mg_of X G ne_BadPlaces)
          exact p_Unlike_BadPlaces.trans (by decide +kernel)
        · cases g'.symm.trans (PySem.W.mg_of X G ne_BadDeed)
          exact p_Unlike_BadDeed.trans (by decide +kernel)
        · cases g'.symm.trans (PySem.W.mg_of X G ne_BadText)
          exact p_Unlike_BadText.trans (by decide +kernel)
        · cases g'.symm.trans (PySem.W.mg_of X G ne_Unlike)
          exact p_Unlike_Unlike.trans (by decide +kernel)
  have T : Txt K mg ad fds := {
    b_ValueError := PySem.W.mg_none_of X G z_ValueError
    b_all := PySem.W.mg_none_of X G z_all
    b_int := PySem.W.mg_none_of X G z_int
    b_isinstance := PySem.W.mg_none_of X G z_isinstance
    b_len := PySem.W.mg_none_of X G z_len
    b_list := PySem.W.mg_none_of X G z_list
    b_min := PySem.W.mg_none_of X G z_min
    b_range := PySem.W.mg_none_of X G z_range
    b_repr := PySem.W.mg_none_of X G z_repr
    b_set := PySem.W.mg_none_of X G z_set
    b_sorted := PySem.W.mg_none_of X G z_sorted
    b_str := PySem.W.mg_none_of X G z_str
    b_tuple := PySem.W.mg_none_of X G z_tuple
    b_type := PySem.W.mg_none_of X G z_type
    c_LONGEST_NAME := ⟨_, PySem.W.mg_of X G y_LONGEST_NAME⟩
    c_MOST_PIECES := ⟨_, PySem.W.mg_of X G y_MOST_PIECES⟩
    errs := er
    f_is_name := dfn_mk X G n9 l9 c9 k9 (fun _ _ _ _ _ _ us hl => match us, hl with | [_], _ => rfl)
    f_is_piece := dfn_mk X G n10 l10 c10 k10 (fun _ _ _ _ _ _ us hl => match us, hl with | [_], _ => rfl)
    f__is_name_with := dfn_mk X G n11 l11 c11 k11 (fun _ _ _ _ _ _ us hl => match us, hl with | [_, _], _ => rfl)
    f_flipped := dfn_mk X G n12 l12 c12 k12 (fun _ _ _ _ _ _ us hl => match us, hl with | [_], _ => rfl)
    f_yard_of := dfn_mk X G n15 l15 c15 k15 (fun _ _ _ _ _ _ us hl => match us, hl with | [_, _], _ => rfl)
    f_need_yard := dfn_mk X G n16 l16 c16 k16 (fun _ _ _ _ _ _ us hl => match us, hl with | [_], _ => rfl)
    f_least_yard := dfn_mk X G n17 l17 c17 k17 (fun _ _ _ _ _ _ us hl => match us, hl with | [_, _], _ => rfl)
    f__is_list_of_lists := dfn_mk X G n18 l18 c18 k18 (fun _ _ _ _ _ _ us hl => match us, hl with | [_], _ => rfl)
    f__is_tuple_of_tuples := dfn_mk X G n19 l19 c19 k19 (fun _ _ _ _ _ _ us hl => match us, hl with | [_], _ => rfl)
    f__is_pair_of_tuples := dfn_mk X G n20 l20 c20 k20 (fun _ _ _ _ _ _ us hl => match us, hl with | [_], _ => rfl)
    f__need_pieces := dfn_mk X G n21 l21 c21 k21 (fun _ _ _ _ _ _ us hl => match us, hl with | [_], _ => rfl)
    f__backwards := dfn_mk X G n22 l22 c22 k22 (fun _ _ _ _ _ _ us hl => match us, hl with | [_], _ => rfl)
    f__least_row := dfn_mk X G n23 l23 c23 k23 (fun _ _ _ _ _ _ us hl => match us, hl with | [_], _ => rfl)
    f__least_ring := dfn_mk X G n24 l24 c24 k24 (fun _ _ _ _ _ _ us hl => match us, hl with | [_], _ => rfl)
    f__law_draw := dfn_mk X G n26 l26 c26 k26 (fun _ _ _ _ _ _ us hl => match us, hl with | [_, _, _], _ => rfl)
    f__law_names := dfn_mk X G n27 l27 c27 k27 (fun _ _ _ _ _ _ us hl => match us, hl with | [_, _, _], _ => rfl)
    f__law_rows := dfn_mk X G n28 l28 c28 k28 (fun _ _ _ _ _ _ us hl => match us, hl with | [_, _, _], _ => rfl)
    f__law_turned_back := dfn_mk X G n29 l29 c29 k29 (fun _ _ _ _ _ _ us hl => match us, hl with | [_], _ => rfl)
    f__law_ring := dfn_mk X G n30 l30 c30 k30 (fun _ _ _ _ _ _ us hl => match us, hl with | [_], _ => rfl)
    f__law_yard := dfn_mk X G n31 l31 c31 k31 (fun _ _ _ _ _ _ us hl => match us, hl with | [_, _], _ => rfl)
    f__law_word := dfn_mk X G n32 l32 c32 k32 (fun _ _ _ _ _ _ us hl => match us, hl with | [_], _ => rfl)
    f__law_asked := dfn_mk X G n33 l33 c33 k33 (fun _ _ _ _ _ _ us hl => match us, hl with | [_, _, _], _ => rfl)
    f__law_odd := dfn_mk X G n34 l34 c34 k34 (fun _ _ _ _ _ _ us hl => match us, hl with | [_, _], _ => rfl)
    f__law_many := dfn_mk X G n35 l35 c35 k35 (fun _ _ _ _ _ _ us hl => match us, hl with | [_, _, _], _ => rfl)
    f__law_changed := dfn_mk X G n36 l36 c36 k36 (fun _ _ _ _ _ _ us hl => match us, hl with | [_, _, _], _ => rfl)
    f_law := dfn_mk X G n37 l37 c37 k37 (fun _ _ _ _ _ _ us hl => match us, hl with | [_], _ => rfl)
  }
  exact ⟨_, fun s v => .of_eq rfl, fun base _ _ => ok_law (P := l.prog) (w := w) (base := base) T Mx.law03⟩
end K03
open PySem PySem.W PyProof.Rows
set_option maxRecDepth 100000 in
set_option maxHeartbeats 0 in
theorem PySem.Challenge.cw_cutjoin_k03_yards_refused_holds : PySem.Challenge.rw_cutjoin_k03_yards_refused.Holds := by
  w_on; o_law; k_head; (case hw => w_witness2)
  k_fill
  refine Dn.walk_ofG (l := PySem.Challenge.rw_cutjoin_k03_yards_refused) (n := 63) (k := 7) (x := "_law_script") (C := fun _ => L2.CX0) (sp := fun w => Dn.spLaw _) rfl (by decide) rfl ⟨rfl, by decide, by decide⟩ (fun w h Y => PySem.W.kIn_of Y) ?F (fun _ _ a ns hl _ hS => ⟨a, ns, rfl, hS, hl, fun _ => rfl⟩) (fun _ _ _ _ _ h => h)
  case F =>
    intro w mg fa h KX G hmg
    refine' K03.all_mk KX G hmg ?n9 ?l9 ?c9 ?k9 ?n10 ?l10 ?c10 ?k10 ?n11 ?l11 ?c11 ?k11 ?n12 ?l12 ?c12 ?k12 ?n15 ?l15 ?c15 ?k15 ?n16 ?l16 ?c16 ?k16 ?n17 ?l17 ?c17 ?k17 ?n18 ?l18 ?c18 ?k18 ?n19 ?l19 ?c19 ?k19 ?n20 ?l20 ?c20 ?k20 ?n21 ?l21 ?c21 ?k21 ?n22 ?l22 ?c22 ?k22 ?n23 ?l23 ?c23 ?k23 ?n24 ?l24 ?c24 ?k24 ?n26 ?l26 ?c26 ?k26 ?n27 ?l27 ?c27 ?k27 ?n28 ?l28 ?c28 ?k28 ?n29 ?l29 ?c29 ?k29 ?n30 ?l30 ?c30 ?k30 ?n31 ?l31 ?c31 ?k31 ?n32 ?l32 ?c32 ?k32 ?n33 ?l33 ?c33 ?k33 ?n34 ?l34 ?c34 ?k34 ?n35 ?l35 ?c35 ?k35 ?n36 ?l36 ?c36 ?k36 ?n37 ?l37 ?c37 ?k37 ?z_ValueError ?z_all ?z_int ?z_isinstance ?z_len ?z_list ?z_min ?z_range ?z_repr ?z_set ?z_sorted ?z_str ?z_tuple ?z_type ?y_LONGEST_NAME ?y_MOST_PIECES ?ne_JoinError ?ne_BadYard ?ne_BadPlaces ?ne_BadDeed ?ne_BadText ?ne_Unlike ?qe_BadYard ?ke_BadYard ?se_BadYard ?te_BadYard ?f1_BadYard ?f2_BadYard ?f4_BadYard ?f5_BadYard ?f8_BadYard ?v_BadYard ?j_BadYard ?qe_BadPlaces ?ke_BadPlaces ?se_BadPlaces ?te_BadPlaces ?f1_BadPlaces ?f2_BadPlaces ?f4_BadPlaces ?f5_BadPlaces ?f8_BadPlaces ?v_BadPlaces ?j_BadPlaces ?qe_BadDeed ?ke_BadDeed ?se_BadDeed ?te_BadDeed ?f1_BadDeed ?f2_BadDeed ?f4_BadDeed ?f5_BadDeed ?f8_BadDeed ?v_BadDeed ?j_BadDeed ?qe_BadText ?ke_BadText ?se_BadText ?te_BadText ?f1_BadText ?f2_BadText ?f4_BadText ?f5_BadText ?f8_BadText ?v_BadText ?j_BadText ?qe_Unlike ?ke_Unlike ?se_Unlike ?te_Unlike ?f1_Unlike ?f2_Unlike ?f4_Unlike ?f5_Unlike ?f8_Unlike ?v_Unlike ?j_Unlike ?f6 ?f7 ?p_BadYard_BadYard ?p_BadYard_BadPlaces ?p_BadYard_BadDeed ?p_BadYard_BadText ?p_BadYard_Unlike ?p_BadPlaces_BadYard ?p_BadPlaces_BadPlaces ?p_BadPlaces_BadDeed ?p_BadPlaces_BadText ?p_BadPlaces_Unlike ?p_BadDeed_BadYard ?p_BadDeed_BadPlaces ?p_BadDeed_BadDeed ?p_BadDeed_BadText ?p_BadDeed_Unlike ?p_BadText_BadYard ?p_BadText_BadPlaces ?p_BadText_BadDeed ?p_BadText_BadText ?p_BadText_Unlike ?p_Unlike_BadYard ?p_Unlike_BadPlaces ?p_Unlike_BadDeed ?p_Unlike_BadText ?p_Unlike_Unlike
    (case n9 => k_is)
    (case l9 => k_is)
    (case c9 => k_is)
    (case k9 => k_is)
    (case n10 => k_is)
    (case l10 => k_is)
    (case c10 => k_is)
    (case k10 => k_is)
    (case n11 => k_is)
    (case l11 => k_is)
    (case c11 => k_is)
    (case k11 => k_is)
    (case n12 => k_is)
    (case l12 => k_is)
    (case c12 => k_is)
    (case k12 => k_is)
    (case n15 => k_is)
    (case l15 => k_is)
    (case c15 => k_is)
    (case k15 => k_is)
    (case n16 => k_is)
    (case l16 => k_is)
    (case c16 => k_is)
    (case k16 => k_is)
    (case n17 => k_is)
    (case l17 => k_is)
    (case c17 => k_is)
    (case k17 => k_is)
    (case n18 => k_is)
    (case l18 => k_is)
    (case c18 => k_is)
    (case k18 => k_is)
    (case n19 => k_is)
    (case l19 => k_is)
    (case c19 => k_is)
    (case k19 => k_is)
    (case n20 => k_is)
    (case l20 => k_is)
    (case c20 => k_is)
    (case k20 => k_is)
    (case n21 => k_is)
    (case l21 => k_is)
    (case c21 => k_is)
    (case k21 => k_is)
    (case n22 => k_is)
    (case l22 => k_is)
    (case c22 => k_is)
    (case k22 => k_is)
    (case n23 => k_is)
    (case l23 => k_is)
    (case c23 => k_is)
    (case k23 => k_is)
    (case n24 => k_is)
    (case l24 => k_is)
    (case c24 => k_is)
    (case k24 => k_is)
    (case n26 => k_is)
    (case l26 => k_is)
    (case c26 => k_is)
    (case k26 => k_is)
    (case n27 => k_is)
    (case l27 => k_is)
    (case c27 => k_is)
    (case k27 => k_is)
    (case n28 => k_is)
    (case l28 => k_is)
    (case c28 => k_is)
    (case k28 => k_is)
    (case n29 => k_is)
    (case l29 => k_is)
    (case c29 => k_is)
    (case k29 => k_is)
    (case n30 => k_is)
    (case l30 => k_is)
    (case c30 => k_is)
    (case k30 => k_is)
    (case n31 => k_is)
    (case l31 => k_is)
    (case c31 => k_is)
    (case k31 => k_is)
    (case n32 => k_is)
    (case l32 => k_is)
    (case c32 => k_is)
    (case k32 => k_is)
    (case n33 => k_is)
    (case l33 => k_is)
    (case c33 => k_is)
    (case k33 => k_is)
    (case n34 => k_is)
    (case l34 => k_is)
    (case c34 => k_is)
    (case k34 => k_is)
    (case n35 => k_is)
    (case l35 => k_is)
    (case c35 => k_is)
    (case k35 => k_is)
    (case n36 => k_is)
    (case l36 => k_is)
    (case c36 => k_is)
    (case k36 => k_is)
    (case n37 => k_is)
    (case l37 => k_is)
    (case c37 => k_is)
    (case k37 => k_is)
    (case z_ValueError => k_is)
    (case z_all => k_is)
    (case z_int => k_is)
    (case z_isinstance => k_is)
    (case z_len => k_is)
    (case z_list => k_is)
    (case z_min => k_is)
    (case z_range => k_is)
    (case z_repr => k_is)
    (case z_set => k_is)
    (case z_sorted => k_is)
    (case z_str => k_is)
    (case z_tuple => k_is)
    (case z_type => k_is)
    (case y_LONGEST_NAME => k_is)
    (case y_MOST_PIECES => k_is)
    (case ne_JoinError => k_is)
    (case ne_BadYard => k_is)
    (case ne_BadPlaces => k_is)
    (case ne_BadDeed => k_is)
    (case ne_BadText => k_is)
    (case ne_Unlike => k_is)
    (case qe_BadYard => k_exc)
    (case ke_BadYard => k_is)
    (case se_BadYard => k_is)
    (case te_BadYard => k_is)
    (case f1_BadYard => k_is)
    (case f2_BadYard => k_is)
    (case f4_BadYard => k_is)
    (case f5_BadYard => k_is)
    (case f8_BadYard => k_is)
    (case v_BadYard => kit_is)
    (case j_BadYard => kts_exm)
    (case qe_BadPlaces => k_exc)
    (case ke_BadPlaces => k_is)
    (case se_BadPlaces => k_is)
    (case te_BadPlaces => k_is)
    (case f1_BadPlaces => k_is)
    (case f2_BadPlaces => k_is)
    (case f4_BadPlaces => k_is)
    (case f5_BadPlaces => k_is)
    (case f8_BadPlaces => k_is)
    (case v_BadPlaces => kit_is)
    (case j_BadPlaces => kts_exm)
    (case qe_BadDeed => k_exc)
    (case ke_BadDeed => k_is)
    (case se_BadDeed => k_is)
    (case te_BadDeed => k_is)
    (case f1_BadDeed => k_is)
    (case f2_BadDeed => k_is)
    (case f4_BadDeed => k_is)
    (case f5_BadDeed => k_is)
    (case f8_BadDeed => k_is)
    (case v_BadDeed => kit_is)
    (case j_BadDeed => kts_exm)
    (case qe_BadText => k_exc)
    (case ke_BadText => k_is)
    (case se_BadText => k_is)
    (case te_BadText => k_is)
    (case f1_BadText => k_is)
    (case f2_BadText => k_is)
    (case f4_BadText => k_is)
    (case f5_BadText => k_is)
    (case f8_BadText => k_is)
    (case v_BadText => kit_is)
    (case j_BadText => kts_exm)
    (case qe_Unlike => k_exc)
    (case ke_Unlike => k_is)
    (case se_Unlike => k_is)
    (case te_Unlike => k_is)
    (case f1_Unlike => k_is)
    (case f2_Unlike => k_is)
    (case f4_Unlike => k_is)
    (case f5_Unlike => k_is)
    (case f8_Unlike => k_is)
    (case v_Unlike => kit_is)
    (case j_Unlike => kts_exm)
    (case f6 => k_is)
    (case f7 => k_is)
    (case p_BadYard_BadYard => kit_is)
    (case p_BadYard_BadPlaces => kit_is)
    (case p_BadYard_BadDeed => kit_is)
    (case p_BadYard_BadText => kit_is)
    (case p_BadYard_Unlike => kit_is)
    (case p_BadPlaces_BadYard => kit_is)
    (case p_BadPlaces_BadPlaces => kit_is)
    (case p_BadPlaces_BadDeed => kit_is)
    (case p_BadPlaces_BadText => kit_is)
    (case p_BadPlaces_Unlike => kit_is)
    (case p_BadDeed_BadYard => kit_is)
    (case p_BadDeed_BadPlaces => kit_is)
    (case p_BadDeed_BadDeed => kit_is)
    (case p_BadDeed_BadText => kit_is)
    (case p_BadDeed_Unlike => kit_is)
    (case p_BadText_BadYard => kit_is)
    (case p_BadText_BadPlaces => kit_is)
    (case p_BadText_BadDeed => kit_is)
    (case p_BadText_BadText => kit_is)
    (case p_BadText_Unlike => kit_is)
    (case p_Unlike_BadYard => kit_is)
    (case p_Unlike_BadPlaces => kit_is)
    (case p_Unlike_BadDeed => kit_is)
    (case p_Unlike_BadText => kit_is)
    (case p_Unlike_Unlike => kit_is)

