import PyProof.Rows.All
import Wide.All
import OpenK.AllK
import Wide.FinOn
import HandS.ForMost
import HandS.Evl
import HandS.Walk
import HandS.IsInst
import HandS.Wide
import HandS.Conv
import HandS.More
import HandS.Style
import HandS.TupLe
import HandS.Flow
import HandS.Exc
import HandS.TryOnly
import HandS.ExcOwn
import HandS.RaiseMore
import HandS.Gcd
import KE.DataEq
import PyProof.LongRange
import KE.KDictZip
import KE.KStar
import HandS.Star
import KE.DataMinMax
import KE.GoesMore
import KE.KDictDisplayH
import KE.KUnpack
import PySem.Challenge.RW_cellflows_k08_weights_added_and_divisors
set_option Elab.async false
set_option linter.all false
set_option maxRecDepth 100000
set_option maxHeartbeats 4000000
/-! data over the abstract heap: Dq; the state of a def's body: At; judgements DE, DT, DA, DS over data alone -/
namespace Cf
open PySem PySem.Spec PyProof.Rows L2
open Evl (Ex)

mutual
inductive Dq (K : PySem.W.Frag) (F : Hp) : PyData → V → Prop
  | non : Dq K F .none .non
  | bl (b : Bool) : Dq K F (.bool b) (.bl b)
  | int (i : Int) : Dq K F (.int i) (.int i)
  | str (x : Str) : Dq K F (.str x) (.str x)
  | lst {a : Addr} {xs : List V} {ds : List PyData} : SqL K F a xs → Dqs K F ds xs → Dq K F (.list ds) (.ref a)
  | tup {a : Addr} {xs : List V} {ds : List PyData} : SqT K F a xs → Dqs K F ds xs → Dq K F (.tuple ds) (.ref a)
  | emp {a : Addr} : F a = some (.dK []) → Dq K F (.dict []) (.ref a)
  | one {a : Addr} {k n : Int} : F a = some (.dK [(.inl k, .int n)]) → Dq K F (.dict [(.int k, .int n)]) (.ref a)
inductive Dqs (K : PySem.W.Frag) (F : Hp) : List PyData → List V → Prop
  | nil : Dqs K F [] []
  | cons {v : V} {vs : List V} {d : PyData} {ds : List PyData} : Dq K F d v → Dqs K F ds vs → Dqs K F (d :: ds) (v :: vs)
end
section
variable {K : PySem.W.Frag} {F F' : Hp}
mutual
theorem Dq.mono (e : Ex F F') : ∀ (d : PyData) (v : V), Dq K F d v → Dq K F' d v
  | .none, _, .non => .non
  | .bool _, _, .bl b => .bl b
  | .int _, _, .int i => .int i
  | .str _, _, .str x => .str x
  | .list ds, _, .lst h1 h2 => .lst (Evl.ex_l e h1) (Dqs.mono e ds _ h2)
  | .tuple ds, _, .tup h1 h2 => .tup (Evl.ex_t e h1) (Dqs.mono e ds _ h2)
  | .dict _, _, .emp h => .emp (e _ _ h)
  | .dict _, _, .one h => .one (e _ _ h)
theorem Dqs.mono (e : Ex F F') : ∀ (ds : List PyData) (vs : List V), Dqs K F ds vs → Dqs K F' ds vs
  | [], _, .nil => .nil
  | d :: ds, _, .cons h1 h2 => .cons (Dq.mono e d _ h1) (Dqs.mono e ds _ h2)
end
theorem Dq.up (e : Ex F F') {d : PyData} {v : V} (h : Dq K F d v) : Dq K F' d v := Dq.mono e d v h
theorem Dqs.up (e : Ex F F') {ds : List PyData} {vs : List V} (h : Dqs K F ds vs) : Dqs K F' ds vs := Dqs.mono e ds vs h
theorem Dqs.len : ∀ {ds : List PyData} {vs : List V}, Dqs K F ds vs → vs.length = ds.length
  | [], _, .nil => rfl
  | _ :: _, _, .cons _ h => congrArg (· + 1) (Dqs.len h)
theorem Dqs.get : ∀ {ds : List PyData} {vs : List V} {i : Nat} {v : V}, Dqs K F ds vs → vs[i]? = some v → ∃ d, ds[i]? = some d ∧ Dq K F d v
  | [], _, i, v, .nil, h => by simp at h
  | d :: _, _, 0, v, .cons h1 _, h => ⟨d, rfl, by cases h; exact h1⟩
  | _ :: ds, _, i + 1, v, .cons _ h2, h => Dqs.get (i := i) h2 (by simpa using h)
theorem Dqs.at : ∀ {ds : List PyData} {vs : List V} {i : Nat} {d : PyData}, Dqs K F ds vs → ds[i]? = some d → ∃ v, vs[i]? = some v ∧ Dq K F d v
  | [], _, i, d, .nil, h => by simp at h
  | d' :: _, v :: _, 0, d, .cons h1 _, h => ⟨v, rfl, by cases h; exact h1⟩
  | _ :: ds, _ :: vs, i + 1, d, .cons _ h2, h => Dqs.at (i := i) h2 (by simpa using h)
theorem Dqs.app : ∀ {ds es : List PyData} {vs ws : List V}, Dqs K F ds vs → Dqs K F es ws → Dqs K F (ds ++ es) (vs ++ ws)
  | [], _, _, _, .nil, h => h
  | _ :: _, _, _, _, .cons h1 h2, h => .cons h1 (Dqs.app h2 h)
theorem Dqs.drop : ∀ {ds : List PyData} {vs : List V} (n : Nat), Dqs K F ds vs → Dqs K F (ds.drop n) (vs.drop n)
  | _, _, 0, h => h
  | [], _, _ + 1, .nil => .nil
  | _ :: _, _, n + 1, .cons _ h => Dqs.drop n h
theorem Dqs.take : ∀ {ds : List PyData} {vs : List V} (n : Nat), Dqs K F ds vs → Dqs K F (ds.take n) (vs.take n)
  | _, _, 0, _ => .nil
  | [], _, _ + 1, .nil => .nil
  | _ :: _, _, n + 1, .cons h1 h => .cons h1 (Dqs.take n h)
theorem Dqs.rev : ∀ {ds : List PyData} {vs : List V}, Dqs K F ds vs → Dqs K F ds.reverse vs.reverse
  | [], _, .nil => .nil
  | d :: ds, v :: vs, .cons h1 h => by
    rw [List.reverse_cons, List.reverse_cons]
    exact Dqs.app (Dqs.rev h) (.cons h1 .nil)
theorem Dqs.set : ∀ {ds : List PyData} {vs : List V} {d : PyData} {v : V} (n : Nat), Dqs K F ds vs → Dq K F d v → Dqs K F (ds.set n d) (vs.set n v)
  | [], _, _, _, _, .nil, _ => .nil
  | _ :: _, _, _, _, 0, .cons _ h, q => .cons q h
  | _ :: _, _, _, _, n + 1, .cons h1 h, q => .cons h1 (Dqs.set n h q)
theorem Dqs.ints : ∀ {ns : List Int} {vs : List V}, Dqs K F (ns.map .int) vs → vs = ns.map V.int
  | [], _, .nil => rfl
  | _ :: ns, _, .cons h1 h2 => by
    cases h1
    rw [Dqs.ints (ns := ns) h2]
    rfl
theorem Dqs.ofInts : ∀ {ns : List Int}, Dqs K F (ns.map .int) (ns.map V.int)
  | [] => .nil
  | n :: ns => .cons (.int n) Dqs.ofInts
theorem Dqs.bls : ∀ {ns : List Bool} {vs : List V}, Dqs K F (ns.map .bool) vs → vs = ns.map V.bl
  | [], _, .nil => rfl
  | _ :: ns, _, .cons h1 h2 => by
    cases h1
    rw [Dqs.bls (ns := ns) h2]
    rfl
end

/-! ### growth of the frozen part F and the heap H; t: the list of draws -/
structure Tap (x y z : Int) : Prop where
  x0 : 0 ≤ x
  y0 : 0 ≤ y
  y1 : y < 2 ^ 40
  z0 : 0 ≤ z
  z1 : z < 2 ^ 40
def TpOk (t : Option Addr) (F H : Hp) : Prop := ∀ a, t = some a → F a = none ∧ ∃ x y z, H a = some (.lst [.int x, .int y, .int z]) ∧ Tap x y z
structure Gr (t : Option Addr) (F0 H0 F H : Hp) : Prop where
  ff : Ex F0 F
  hh : ∀ a o, t ≠ some a → H0 a = some o → H a = some o
  fh : Ex F H
  nw : ∀ a o, F a = some o → F0 a = none → H0 a = none
section
variable {t : Option Addr} {F0 H0 F H F' H' : Hp}
theorem Gr.refl (h : Ex F H) : Gr t F H F H := ⟨Ex.refl F, fun _ _ _ h => h, h, fun a o h1 h2 => by rw [h2] at h1; cases h1⟩
theorem none_back {H H' : Hp} {a : Addr} (h : ∀ o, H a = some o → H' a = some o) (n : H' a = none) : H a = none := by
  cases e : H a with
  | none => rfl
  | some o =>
    rw [h o e] at n
    cases n
theorem Gr.trans (g : Gr t F0 H0 F H) (g' : Gr t F H F' H') (ht : ∀ a, t = some a → F' a = none) : Gr t F0 H0 F' H' :=
  ⟨g.ff.trans g'.ff, fun a o n h => g'.hh a o n (g.hh a o n h), g'.fh, fun a o h1 h2 => by
    cases e : F a with
    | some u => exact g.nw a u e h2
    | none =>
      have nt : t ≠ some a := fun z => by
        rw [ht a z] at h1
        cases h1
      exact none_back (fun o q => g.hh a o nt q) (g'.nw a o h1 e)⟩
/-- nothing but fresh objects come: from a callee without draws -/
theorem Gr.any (g : Gr none F H F' H') : Gr t F H F' H' := ⟨g.ff, fun a o _ h => g.hh a o (by simp) h, g.fh, g.nw⟩
end

/-! ### slots -/
/-- the entries of a dict: keys, data -/
inductive Dkv {κ : Type} (K : PySem.W.Frag) (F : Hp) : List (κ × PyData) → List (κ × V) → Prop
  | nil : Dkv K F [] []
  | cons {k : κ} {d : PyData} {v : V} {kvs : List (κ × PyData)} {xs : List (κ × V)} : Dq K F d v → Dkv K F kvs xs → Dkv K F ((k, d) :: kvs) ((k, v) :: xs)
theorem Dkv.up {κ : Type} {K : PySem.W.Frag} {F F' : Hp} (e : Ex F F') : ∀ {kvs : List (κ × PyData)} {xs : List (κ × V)}, Dkv K F kvs xs → Dkv K F' kvs xs
  | [], _, .nil => .nil
  | _ :: _, _, .cons h1 h2 => .cons (h1.up e) (h2.up e)
inductive Sl where
  | no
  | sh (d : PyData)
  | ow (ds : List PyData)
  | tp
  | vl (v : V)
  | od (d : PyData)
  | nw (d : PyData)
  | dk (p : Addr) (kvs : List (L2.Key × PyData))
  | dt (p : Addr) (kvs : List (List L2.Key × PyData))
abbrev Rho := List Sl
/-- v is, or ends with, a list that was not there at the base -/
def Nw (F0 H0 F : Hp) (d : PyData) (v : V) : Prop := ∃ p xs, F p = some (.lst xs) ∧ H0 p = none ∧ F0 p = none ∧ xs.length < 100000 ∧ (∀ ds, d = .list ds → v = .ref p) ∧ ∀ ds, d = .tuple ds → ∃ q vs, v = .ref q ∧ F q = some (.tup (vs ++ [.ref p])) ∧ vs.length + 1 = ds.length
theorem Nw.up {F0 H0 F F' : Hp} {d : PyData} {v : V} (e : Ex F F') (h : Nw F0 H0 F d v) : Nw F0 H0 F' d v := by
  obtain ⟨p, xs, h1, h2, h3, h4, h5, h6⟩ := h
  refine ⟨p, xs, e _ _ h1, h2, h3, h4, h5, fun ds hd => ?_⟩
  obtain ⟨q, vs, a, b, c⟩ := h6 ds hd
  exact ⟨q, vs, a, e _ _ b, c⟩
def SlOk (K : PySem.W.Frag) (t : Option Addr) (F0 H0 F H : Hp) (o : Option V) : Sl → Prop
  | .no => True
  | .sh d => ∃ v, o = some v ∧ Dq K F d v
  | .ow ds => ∃ p xs, o = some (.ref p) ∧ H p = some (.lst xs) ∧ F p = none ∧ H0 p = none ∧ t ≠ some p ∧ Dqs K F ds xs
  | .tp => ∃ a, t = some a ∧ o = some (.ref a)
  | .vl v => o = some v
  | .od d => ∃ v, o = some v ∧ Dq K F0 d v
  | .nw d => ∃ v, o = some v ∧ Dq K F d v ∧ Nw F0 H0 F d v
  | .dk p kvs => o = some (.ref p) ∧ (∃ xs, H p = some (.dK xs) ∧ Dkv K F kvs xs) ∧ F p = none ∧ H0 p = none ∧ t ≠ some p
  | .dt p kvs => o = some (.ref p) ∧ (∃ xs, H p = some (.dT xs) ∧ Dkv K F kvs xs) ∧ F p = none ∧ H0 p = none ∧ t ≠ some p
structure At (K : PySem.W.Frag) (t : Option Addr) (F0 H0 F H : Hp) (σ : L2.St) (ρ : Rho) : Prop where
  gr : Gr t F0 H0 F H
  len : σ.length = ρ.length
  sl : ∀ (i : Nat) (o : Option V) (s : Sl), σ[i]? = some o → ρ[i]? = some s → SlOk K t F0 H0 F H o s
  ap : ∀ (i j : Nat) (p : Addr) (ds es : List PyData), i ≠ j → ρ[i]? = some (.ow ds) → ρ[j]? = some (.ow es) → σ[i]? = some (some (.ref p)) → σ[j]? ≠ some (some (.ref p))
  tp : TpOk t F H

section
variable {K : PySem.W.Frag} {t : Option Addr} {F0 H0 F H F' H' : Hp} {σ : L2.St} {ρ : Rho} {i : Nat} {d : PyData} {v : V}
theorem At.slot (A : At K t F0 H0 F H σ ρ) {s : Sl} (h : ρ[i]? = some s) : ∃ o, σ[i]? = some o ∧ SlOk K t F0 H0 F H o s := by
  have hi : i < σ.length := by
    rw [A.len]
    exact (List.getElem?_eq_some_iff.mp h).1
  exact ⟨σ[i], List.getElem?_eq_getElem hi, A.sl i _ s (List.getElem?_eq_getElem hi) h⟩
theorem At.var (A : At K t F0 H0 F H σ ρ) (h : ρ[i]? = some (.sh d)) : ∃ v, σ[i]? = some (some v) ∧ Dq K F d v := by
  obtain ⟨o, e, v, rfl, q⟩ := A.slot h
  exact ⟨v, e, q⟩
theorem At.own (A : At K t F0 H0 F H σ ρ) {ds : List PyData} (h : ρ[i]? = some (.ow ds)) :
    ∃ p xs, σ[i]? = some (some (.ref p)) ∧ H p = some (.lst xs) ∧ F p = none ∧ H0 p = none ∧ t ≠ some p ∧ Dqs K F ds xs := by
  obtain ⟨o, e, p, xs, rfl, q⟩ := A.slot h
  exact ⟨p, xs, e, q⟩
/-- the heaps grow, the slots stay -/
theorem At.grow (A : At K t F0 H0 F H σ ρ) (g : Gr t F H F' H') (ht : TpOk t F' H') : At K t F0 H0 F' H' σ ρ where
  gr := A.gr.trans g fun a e => (ht a e).1
  len := A.len
  sl := fun i o s h1 h2 => by
    have q := A.sl i o s h1 h2
    cases s with
    | no => trivial
    | sh d =>
      obtain ⟨v, e, h⟩ := q
      exact ⟨v, e, h.up g.ff⟩
    | ow ds =>
      obtain ⟨p, xs, e, h1, h2, h3, h4, h5⟩ := q
      refine ⟨p, xs, e, g.hh p _ h4 h1, ?_, h3, h4, h5.up g.ff⟩
      cases e' : F' p with
      | none => rfl
      | some o =>
        have z := g.nw p o e' h2
        rw [h1] at z
        cases z
    | tp => exact q
    | vl v => exact q
    | od d => exact q
    | nw d =>
      obtain ⟨v, e, h, n⟩ := q
      exact ⟨v, e, h.up g.ff, n.up g.ff⟩
    | dk p kvs =>
      obtain ⟨e, ⟨xs, h1, hq⟩, h2, h3, h4⟩ := q
      refine ⟨e, ⟨xs, g.hh p _ h4 h1, hq.up g.ff⟩, ?_, h3, h4⟩
      cases e' : F' p with
      | none => rfl
      | some o =>
        have z := g.nw p o e' h2
        rw [h1] at z
        cases z
    | dt p kvs =>
      obtain ⟨e, ⟨xs, h1, hq⟩, h2, h3, h4⟩ := q
      refine ⟨e, ⟨xs, g.hh p _ h4 h1, hq.up g.ff⟩, ?_, h3, h4⟩
      cases e' : F' p with
      | none => rfl
      | some o =>
        have z := g.nw p o e' h2
        rw [h1] at z
        cases z
  ap := A.ap
  tp := ht
/-- what a pure callee leaves -/
theorem At.call (A : At K t F0 H0 F H σ ρ) (g : Gr none F H F' H') : At K t F0 H0 F' H' σ ρ := by
  refine A.grow g.any fun a e => ?_
  obtain ⟨h1, x, y, z, h2, h3⟩ := A.tp a e
  refine ⟨?_, x, y, z, g.hh a _ (by simp) h2, h3⟩
  cases e' : F' a with
  | none => rfl
  | some o =>
    have q := g.nw a o e' h1
    rw [h2] at q
    cases q
/-- a new frozen object -/
theorem Gr.new (h : Ex F H) {p : Addr} {o : HO} (n : H p = none) : Gr none F H (upd F p o) (upd H p o) where
  ff := Ex.new (by
    cases e : F p with
    | none => rfl
    | some u =>
      rw [h p u e] at n
      cases n)
  hh := fun a u _ q => Ex.new n a u q
  fh := fun a u q => by
    by_cases e : a = p
    · subst e
      rw [upd_same] at q ⊢
      exact q
    · rw [upd_ne e] at q ⊢
      exact h a u q
  nw := fun a u q f => by
    by_cases e : a = p
    · rw [e]
      exact n
    · rw [upd_ne e, f] at q
      cases q
/-- a new object that is not frozen -/
theorem Gr.free (h : Ex F H) {p : Addr} {o : HO} (n : H p = none) : Gr none F H F (upd H p o) where
  ff := Ex.refl F
  hh := fun a u _ q => Ex.new n a u q
  fh := h.trans (Ex.new n)
  nw := fun a u q f => by
    rw [f] at q
    cases q
theorem At.fh (A : At K t F0 H0 F H σ ρ) : Ex F H := A.gr.fh
/-- a slot is given another value -/
theorem At.set (A : At K t F0 H0 F H σ ρ) {s : Sl} {o : Option V} (h : SlOk K t F0 H0 F H o s) (hn : ∀ ds, s ≠ .ow ds) : At K t F0 H0 F H (σ.set i o) (ρ.set i s) where
  gr := A.gr
  len := by rw [List.length_set, List.length_set, A.len]
  sl := fun j o' s' h1 h2 => by
    by_cases e : i = j
    · subst e
      have hi : i < σ.length := by
        have := (List.getElem?_eq_some_iff.mp h1).1
        rwa [List.length_set] at this
      rw [List.getElem?_set_self hi] at h1
      rw [List.getElem?_set_self (by rw [← A.len]; exact hi)] at h2
      cases h1
      cases h2
      exact h
    · rw [List.getElem?_set_ne e] at h1 h2
      exact A.sl j o' s' h1 h2
  ap := fun a b p ds es n h1 h2 h3 => by
    have ha : i ≠ a := fun e => by
      subst e
      have hi := (List.getElem?_eq_some_iff.mp h1).1
      rw [List.length_set] at hi
      rw [List.getElem?_set_self hi] at h1
      cases h1
      exact hn ds rfl
    have hb : i ≠ b := fun e => by
      subst e
      have hi := (List.getElem?_eq_some_iff.mp h2).1
      rw [List.length_set] at hi
      rw [List.getElem?_set_self hi] at h2
      cases h2
      exact hn es rfl
    rw [List.getElem?_set_ne ha] at h1 h3
    rw [List.getElem?_set_ne hb] at h2 ⊢
    exact A.ap a b p ds es n h1 h2 h3
  tp := A.tp
/-- a slot is given a list of its own -/
theorem At.setOw (A : At K t F0 H0 F H σ ρ) {p : Addr} {ds : List PyData} (h : SlOk K t F0 H0 F H (some (.ref p)) (.ow ds)) (hn : ∀ (j : Nat) (es : List PyData), i ≠ j → ρ[j]? = some (.ow es) → σ[j]? ≠ some (some (.ref p))) :
    At K t F0 H0 F H (σ.set i (some (.ref p))) (ρ.set i (.ow ds)) where
  gr := A.gr
  len := by rw [List.length_set, List.length_set, A.len]
  sl := fun j o' s' h1 h2 => by
    by_cases e : i = j
    · subst e
      have hi : i < σ.length := by
        have := (List.getElem?_eq_some_iff.mp h1).1
        rwa [List.length_set] at this
      rw [List.getElem?_set_self hi] at h1
      rw [List.getElem?_set_self (by rw [← A.len]; exact hi)] at h2
      cases h1
      cases h2
      exact h
    · rw [List.getElem?_set_ne e] at h1 h2
      exact A.sl j o' s' h1 h2
  ap := fun a b q ds' es n h1 h2 h3 => by
    by_cases ha : i = a
    · subst ha
      have hi : i < σ.length := by
        have := (List.getElem?_eq_some_iff.mp h3).1
        rwa [List.length_set] at this
      rw [List.getElem?_set_self hi] at h3
      cases h3
      rw [List.getElem?_set_ne n] at h2 ⊢
      exact hn b es n h2
    · rw [List.getElem?_set_ne ha] at h1 h3
      by_cases hb : i = b
      · subst hb
        intro h4
        have hi : i < σ.length := by
          have := (List.getElem?_eq_some_iff.mp h4).1
          rwa [List.length_set] at this
        rw [List.getElem?_set_self hi] at h4
        cases h4
        exact hn a ds' (fun e => ha e) h1 h3
      · rw [List.getElem?_set_ne hb] at h2 ⊢
        exact A.ap a b q ds' es n h1 h2 h3
  tp := A.tp
/-- an owned list is changed -/
theorem At.put (A : At K t F0 H0 F H σ ρ) {p : Addr} {ds es : List PyData} {ys : List V} (h : ρ[i]? = some (.ow ds)) (hp : σ[i]? = some (some (.ref p))) (hy : Dqs K F es ys) :
    At K t F0 H0 F (upd H p (.lst ys)) σ (ρ.set i (.ow es)) := by
  obtain ⟨p', xs, e, h1, h2, h3, h4, h5⟩ := A.own h
  rw [hp] at e
  cases e
  refine ⟨⟨A.gr.ff, fun a o n q => ?_, fun a o q => ?_, A.gr.nw⟩, ?_, fun j o s q1 q2 => ?_, fun a b q ds' es' n q1 q2 q3 => ?_, fun a q => ?_⟩
  · rw [upd_ne (fun z => by rw [z, h3] at q; cases q)]
    exact A.gr.hh a o n q
  · rw [upd_ne (fun z => by rw [z, h2] at q; cases q)]
    exact A.fh a o q
  · rw [List.length_set]
    exact A.len
  · by_cases z : i = j
    · subst z
      have hi : i < ρ.length := (List.getElem?_eq_some_iff.mp h).1
      rw [List.getElem?_set_self hi] at q2
      cases q2
      rw [hp] at q1
      cases q1
      exact ⟨p, ys, rfl, upd_same, h2, h3, h4, hy⟩
    · rw [List.getElem?_set_ne z] at q2
      have w := A.sl j o s q1 q2
      cases s with
      | no => trivial
      | sh d => exact w
      | ow fs =>
        obtain ⟨r, zs, e, w1, w2⟩ := w
        subst e
        refine ⟨r, zs, rfl, ?_, w2⟩
        rw [upd_ne (fun y => A.ap i j p ds fs z h q2 hp (by rw [q1, y]))]
        exact w1
      | tp => exact w
      | vl v => exact w
      | od d => exact w
      | nw d => exact w
      | dk r kvs =>
        obtain ⟨e, ⟨zs, w1, wq⟩, w2⟩ := w
        exact ⟨e, ⟨zs, by rw [upd_ne (fun y => by rw [y, h1] at w1; cases w1)]; exact w1, wq⟩, w2⟩
      | dt r kvs =>
        obtain ⟨e, ⟨zs, w1, wq⟩, w2⟩ := w
        exact ⟨e, ⟨zs, by rw [upd_ne (fun y => by rw [y, h1] at w1; cases w1)]; exact w1, wq⟩, w2⟩
  · have ow : ∀ (c : Nat) (fs : List PyData), (ρ.set i (Sl.ow es))[c]? = some (Sl.ow fs) → ∃ gs, ρ[c]? = some (Sl.ow gs) := fun c fs z => by
      by_cases y : i = c
      · subst y
        exact ⟨ds, h⟩
      · rw [List.getElem?_set_ne y] at z
        exact ⟨fs, z⟩
    obtain ⟨g1, r1⟩ := ow a ds' q1
    obtain ⟨g2, r2⟩ := ow b es' q2
    exact A.ap a b q g1 g2 n r1 r2 q3
  · obtain ⟨w1, x, y, z, w2, w3⟩ := A.tp a q
    refine ⟨w1, x, y, z, ?_, w3⟩
    rw [upd_ne (fun e => h4 (by rw [q, e]))]
    exact w2
/-- an owned list is frozen -/
theorem At.freeze (A : At K t F0 H0 F H σ ρ) {ds : List PyData} (h : ρ[i]? = some (.ow ds)) : ∃ F', At K t F0 H0 F' H σ (ρ.set i (.sh (.list ds))) ∧ Ex F F' := by
  obtain ⟨p, xs, e, h1, h2, h3, h4, h5⟩ := A.own h
  have ef : Ex F (upd F p (.lst xs)) := Ex.new h2
  refine ⟨upd F p (.lst xs), ⟨⟨A.gr.ff.trans ef, A.gr.hh, fun a o q => ?_, fun a o q f => ?_⟩, ?_, fun j o s q1 q2 => ?_, fun a b q ds' es' n q1 q2 q3 => ?_, fun a q => ?_⟩, ef⟩
  · by_cases z : a = p
    · subst z
      rw [upd_same] at q
      cases q
      exact h1
    · rw [upd_ne z] at q
      exact A.fh a o q
  · by_cases z : a = p
    · subst z
      exact h3
    · rw [upd_ne z] at q
      exact A.gr.nw a o q f
  · rw [List.length_set]
    exact A.len
  · by_cases z : i = j
    · subst z
      have hi : i < ρ.length := (List.getElem?_eq_some_iff.mp h).1
      rw [List.getElem?_set_self hi] at q2
      cases q2
      rw [e] at q1
      cases q1
      exact ⟨.ref p, rfl, .lst (.inl (.inl upd_same)) (h5.up ef)⟩
    · rw [List.getElem?_set_ne z] at q2
      have w := A.sl j o s q1 q2
      cases s with
      | no => trivial
      | sh d =>
        obtain ⟨v, e', w'⟩ := w
        exact ⟨v, e', w'.up ef⟩
      | ow fs =>
        obtain ⟨r, zs, e', w1, w2, w3, w4, w5⟩ := w
        subst e'
        refine ⟨r, zs, rfl, w1, ?_, w3, w4, w5.up ef⟩
        rw [upd_ne (fun y => A.ap i j p ds fs z h q2 e (by rw [q1, y]))]
        exact w2
      | tp => exact w
      | vl v => exact w
      | od d => exact w
      | nw d =>
        obtain ⟨v, e', w', n'⟩ := w
        exact ⟨v, e', w'.up ef, n'.up ef⟩
      | dk r kvs =>
        obtain ⟨e', ⟨zs, w1, wq⟩, w2, w3⟩ := w
        exact ⟨e', ⟨zs, w1, wq.up ef⟩, by rw [upd_ne (fun y => by rw [y, h1] at w1; cases w1)]; exact w2, w3⟩
      | dt r kvs =>
        obtain ⟨e', ⟨zs, w1, wq⟩, w2, w3⟩ := w
        exact ⟨e', ⟨zs, w1, wq.up ef⟩, by rw [upd_ne (fun y => by rw [y, h1] at w1; cases w1)]; exact w2, w3⟩
  · have ow : ∀ (c : Nat) (fs : List PyData), (ρ.set i (Sl.sh (.list ds)))[c]? = some (Sl.ow fs) → ρ[c]? = some (Sl.ow fs) := fun c fs z => by
      by_cases y : i = c
      · subst y
        have hi : i < ρ.length := (List.getElem?_eq_some_iff.mp h).1
        rw [List.getElem?_set_self hi] at z
        cases z
      · rw [List.getElem?_set_ne y] at z
        exact z
    exact A.ap a b q ds' es' n (ow a ds' q1) (ow b es' q2) q3
  · obtain ⟨w1, x, y, z, w2, w3⟩ := A.tp a q
    refine ⟨?_, x, y, z, w2, w3⟩
    rw [upd_ne (fun e => h4 (by rw [q, e]))]
    exact w1
end
end Cf
namespace Cf
open PySem PySem.Spec PyProof.Rows L2
open Evl (Ex)

/-- a step of evaluation: nothing that was there changes, but the draws -/
structure Stp (t : Option Addr) (F H F' H' : Hp) : Prop where
  g : Gr t F H F' H'
  tp : TpOk t F' H'
section
variable {K : PySem.W.Frag} {t : Option Addr} {F0 H0 F H F' H' F2 H2 : Hp} {σ : L2.St} {ρ : Rho}
theorem At.step (A : At K t F0 H0 F H σ ρ) (e : Stp t F H F' H') : At K t F0 H0 F' H' σ ρ := A.grow e.g e.tp
theorem Stp.ff (e : Stp t F H F' H') : Ex F F' := e.g.ff
theorem Stp.trans (e : Stp t F H F' H') (e' : Stp t F' H' F2 H2) : Stp t F H F2 H2 := ⟨e.g.trans e'.g fun a z => (e'.tp a z).1, e'.tp⟩
theorem At.stp (A : At K t F0 H0 F H σ ρ) (g : Gr none F H F' H') : Stp t F H F' H' := ⟨g.any, (A.call g).tp⟩
theorem Stp.back (e : Stp t F H F' H') {p : Addr} (n : H' p = none) : H p = none := by
  have nt : t ≠ some p := fun z => by
    obtain ⟨_, x, y, w, h, _⟩ := e.tp p z
    rw [n] at h
    cases h
  exact none_back (fun o q => e.g.hh p o nt q) n
/-- what is new is frozen -/
theorem Stp.ice (A : At K t F0 H0 F H σ ρ) (e : Stp t F H F' H') {p : Addr} {xs : List V} {ds : List PyData} (f : H p = none) (n : F' p = none) (h : H' p = some (.lst xs)) (q : Dqs K F' ds xs) :
    Stp t F H (upd F' p (.lst xs)) H' ∧ Dq K (upd F' p (.lst xs)) (.list ds) (.ref p) := by
  have e1 : Ex F' (upd F' p (.lst xs)) := Ex.new n
  refine ⟨⟨⟨e.ff.trans e1, e.g.hh, fun a o z => ?_, fun a o z w => ?_⟩, fun a z => ?_⟩, .lst (.inl (.inl upd_same)) (q.up e1)⟩
  · by_cases y : a = p
    · subst y
      rw [upd_same] at z
      cases z
      exact h
    · rw [upd_ne y] at z
      exact e.g.fh a o z
  · by_cases y : a = p
    · rw [y]
      exact f
    · rw [upd_ne y] at z
      exact e.g.nw a o z w
  · obtain ⟨w1, x, y, u, w2, w3⟩ := e.tp a z
    refine ⟨?_, x, y, u, w2, w3⟩
    by_cases y : a = p
    · subst y
      obtain ⟨_, x, y, u, w4, _⟩ := A.tp a z
      rw [f] at w4
      cases w4
    · rw [upd_ne y]
      exact w1
theorem At.rfl (A : At K t F0 H0 F H σ ρ) : Stp t F H F H := ⟨Gr.refl A.fh, A.tp⟩
end

def DE (K : PySem.W.Frag) (t : Option Addr) (te : TE) (ρ : Rho) (Q : PyData → Prop) : Prop :=
  ∀ (F0 H0 F H : Hp) (σ : L2.St), At K t F0 H0 F H σ ρ → ∀ QK : VK, (∀ d v F' H', Q d → Stp t F H F' H' → Dq K F' d v → QK v H') → te σ H QK
/-- p is apart from what was there -/
structure Fs (t : Option Addr) (H0 : Hp) (σ : L2.St) (ρ : Rho) (p : Addr) : Prop where
  old : H0 p = none
  tap : t ≠ some p
  own : ∀ (j : Nat) (es : List PyData), ρ[j]? = some (.ow es) → σ[j]? ≠ some (some (.ref p))
theorem At.fs {K : PySem.W.Frag} {t : Option Addr} {F0 H0 F H : Hp} {σ : L2.St} {ρ : Rho} (A : At K t F0 H0 F H σ ρ) {p : Addr} (n : H p = none) : Fs t H0 σ ρ p := by
  have nt : t ≠ some p := fun e => by
    obtain ⟨_, x, y, z, h, _⟩ := A.tp p e
    rw [n] at h
    cases h
  refine ⟨none_back (fun o q => A.gr.hh p o nt q) n, nt, fun j es h e => ?_⟩
  obtain ⟨q, xs, e', h1, _⟩ := A.own h
  rw [e] at e'
  cases e'
  rw [n] at h1
  cases h1
/-- a new list, not frozen -/
def DL (K : PySem.W.Frag) (t : Option Addr) (te : TE) (ρ : Rho) (Q : List PyData → Prop) : Prop :=
  ∀ (F0 H0 F H : Hp) (σ : L2.St), At K t F0 H0 F H σ ρ → ∀ QK : VK, (∀ ds p xs F' H', Q ds → Stp t F H F' H' → H p = none → F' p = none → H' p = some (.lst xs) → Dqs K F' ds xs → QK (.ref p) H') → te σ H QK
def DA (K : PySem.W.Frag) (t : Option Addr) (ta : TA) (ρ : Rho) (Q : List PyData → Prop) : Prop :=
  ∀ (F0 H0 F H : Hp) (σ : L2.St), At K t F0 H0 F H σ ρ → ∀ QK : List V → Hp → Prop, (∀ ds vs F' H', Q ds → Stp t F H F' H' → Dqs K F' ds vs → QK vs H') → ta σ H QK
def DT (K : PySem.W.Frag) (t : Option Addr) (tt : TT) (ρ : Rho) (Q : Bool → Prop) : Prop :=
  ∀ (F0 H0 F H : Hp) (σ : L2.St), At K t F0 H0 F H σ ρ → ∀ QK : Bool → Hp → Prop, (∀ b F' H', Q b → Stp t F H F' H' → QK b H') → tt σ H QK
def DO (K : PySem.W.Frag) (t : Option Addr) (to : TO) (ρ : Rho) (Q : Option Int → Prop) : Prop :=
  ∀ (F0 H0 F H : Hp) (σ : L2.St), At K t F0 H0 F H σ ρ → ∀ QK : Option Int → Hp → Prop, (∀ b F' H', Q b → Stp t F H F' H' → QK b H') → to σ H QK
/-- operations on values, over data -/
def DR (K : PySem.W.Frag) (r : R2) (x y : PyData) (Q : PyData → Prop) : Prop :=
  ∀ (v w : V) (F H : Hp), Ex F H → Dq K F x v → Dq K F y w → ∀ QK : VK, (∀ d u F' H', Q d → Gr none F H F' H' → Dq K F' d u → QK u H') → r v w H QK
def DRL (K : PySem.W.Frag) (r : R2) (x y : PyData) (Q : List PyData → Prop) : Prop :=
  ∀ (v w : V) (F H : Hp), Ex F H → Dq K F x v → Dq K F y w → ∀ QK : VK, (∀ ds p xs F' H', Q ds → Gr none F H F' H' → H p = none → F' p = none → H' p = some (.lst xs) → Dqs K F' ds xs → QK (.ref p) H') → r v w H QK
def DU (K : PySem.W.Frag) (r : V → Hp → VK → Prop) (x : PyData) (Q : PyData → Prop) : Prop :=
  ∀ (v : V) (F H : Hp), Ex F H → Dq K F x v → ∀ QK : VK, (∀ d u F' H', Q d → Gr none F H F' H' → Dq K F' d u → QK u H') → r v H QK
def DC (K : PySem.W.Frag) (r : List V → Hp → VK → Prop) (xs : List PyData) (Q : PyData → Prop) : Prop :=
  ∀ (vs : List V) (F H : Hp), Ex F H → Dqs K F xs vs → ∀ QK : VK, (∀ d u F' H', Q d → Gr none F H F' H' → Dq K F' d u → QK u H') → r vs H QK
def DCL (K : PySem.W.Frag) (r : List V → Hp → VK → Prop) (xs : List PyData) (Q : List PyData → Prop) : Prop :=
  ∀ (vs : List V) (F H : Hp), Ex F H → Dqs K F xs vs → ∀ QK : VK, (∀ ds p ys F' H', Q ds → Gr none F H F' H' → H p = none → F' p = none → H' p = some (.lst ys) → Dqs K F' ds ys → QK (.ref p) H') → r vs H QK

/-- ranges of any size -/
def iRg1 (ta : TA) : TI := fun σ H R => ta σ H fun vs H1 => ∃ j : Int, vs = [.int j] ∧ R (Itr 0 j.toNat) H1
def iRg2 (ta : TA) : TI := fun σ H R => ta σ H fun vs H1 => ∃ i j : Int, vs = [.int i, .int j] ∧ R (Itr i (j - i).toNat) H1
theorem ex_none {F H : Hp} (e : Ex F H) {p : Addr} (h : H p = none) : F p = none := none_back (fun o q => e p o q) h
theorem dqs1 {K : PySem.W.Frag} {F : Hp} {d : PyData} {vs : List V} (h : Dqs K F [d] vs) : ∃ v, vs = [v] ∧ Dq K F d v := by
  cases h with
  | cons h1 h2 =>
    cases h2
    exact ⟨_, rfl, h1⟩
theorem dqs2 {K : PySem.W.Frag} {F : Hp} {d e : PyData} {vs : List V} (h : Dqs K F [d, e] vs) : ∃ v w, vs = [v, w] ∧ Dq K F d v ∧ Dq K F e w := by
  cases h with
  | cons h1 h2 =>
    obtain ⟨w, rfl, h3⟩ := dqs1 h2
    exact ⟨_, _, rfl, h1, h3⟩

section
variable {K : PySem.W.Frag} {t : Option Addr} {ρ : Rho} {i : Nat} {d : PyData} {te ta tb tc : TE} {Q : PyData → Prop}
theorem DE.mono {Q' : PyData → Prop} (h : DE K t te ρ Q) (m : ∀ d, Q d → Q' d) : DE K t te ρ Q' := fun F0 H0 F H σ A QK k => h F0 H0 F H σ A QK fun d v F' H' q => k d v F' H' (m d q)
theorem DT.mono {tt : TT} {Q Q' : Bool → Prop} (h : DT K t tt ρ Q) (m : ∀ d, Q d → Q' d) : DT K t tt ρ Q' := fun F0 H0 F H σ A QK k => h F0 H0 F H σ A QK fun d F' H' q => k d F' H' (m d q)
theorem DL.mono {Q Q' : List PyData → Prop} (h : DL K t te ρ Q) (m : ∀ d, Q d → Q' d) : DL K t te ρ Q' := fun F0 H0 F H σ A QK k => h F0 H0 F H σ A QK fun ds p xs F' H' q => k ds p xs F' H' (m ds q)
theorem DE_var (h : ρ[i]? = some (.sh d)) (q : Q d) : DE K t (tVar i) ρ Q := fun F0 H0 F H σ A QK k => by
  obtain ⟨v, e, z⟩ := A.var h
  exact ⟨v, e, k d v F H q A.rfl z⟩
theorem DE_int {z : Int} (q : Q (.int z)) : DE K t (tC (.int z)) ρ Q := fun F0 H0 F H σ A QK k => k _ _ F H q A.rfl (.int z)
theorem DE_str {z : Str} (q : Q (.str z)) : DE K t (tC (.str z)) ρ Q := fun F0 H0 F H σ A QK k => k _ _ F H q A.rfl (.str z)
theorem DE_bl {z : Bool} (q : Q (.bool z)) : DE K t (tC (.bl z)) ρ Q := fun F0 H0 F H σ A QK k => k _ _ F H q A.rfl (.bl z)
theorem DE_non (q : Q .none) : DE K t (tC .non) ρ Q := fun F0 H0 F H σ A QK k => k _ _ F H q A.rfl .non
theorem DE_op {r : R2} (h : DE K t ta ρ fun x => DE K t tb ρ fun y => DR K r x y Q) : DE K t (tOp r ta tb) ρ Q := fun F0 H0 F H σ A QK k =>
  h F0 H0 F H σ A _ fun x v F1 H1 hb e1 q1 => have A1 := A.step e1;  hb F0 H0 F1 H1 σ A1 _ fun y w F2 H2 hr e2 q2 => have A2 := A1.step e2;  hr v w F2 H2 A2.fh (q1.up e2.ff) q2 QK fun d u F3 H3 q g q3 =>
    k d u F3 H3 q ((e1.trans e2).trans (A2.stp g)) q3
theorem DL_op {r : R2} {Q : List PyData → Prop} (h : DE K t ta ρ fun x => DE K t tb ρ fun y => DRL K r x y Q) : DL K t (tOp r ta tb) ρ Q := fun F0 H0 F H σ A QK k =>
  h F0 H0 F H σ A _ fun x v F1 H1 hb e1 q1 => have A1 := A.step e1;  hb F0 H0 F1 H1 σ A1 _ fun y w F2 H2 hr e2 q2 => have A2 := A1.step e2;  hr v w F2 H2 A2.fh (q1.up e2.ff) q2 QK fun ds p xs F3 H3 q g n1 n2 n3 q3 =>
    k ds p xs F3 H3 q ((e1.trans e2).trans (A2.stp g)) ((e1.trans e2).back n1) n2 n3 q3
theorem DE_new (h : DL K t te ρ fun ds => Q (.list ds)) : DE K t te ρ Q := fun F0 H0 F H σ A QK k => h F0 H0 F H σ A QK fun ds p xs F' H' q e f n1 n2 z => by
  obtain ⟨e2, z2⟩ := e.ice A f n1 n2 z
  exact k _ _ _ _ q e2 z2
theorem DE_un {r : V → Hp → VK → Prop} (h : DE K t ta ρ fun x => DU K r x Q) : DE K t (tUn r ta) ρ Q := fun F0 H0 F H σ A QK k =>
  h F0 H0 F H σ A _ fun x v F1 H1 hr e1 q1 => have A1 := A.step e1;  hr v F1 H1 A1.fh q1 QK fun d u F3 H3 q g q3 => k d u F3 H3 q (e1.trans (A1.stp g)) q3
theorem DE_cb {r : List V → Hp → VK → Prop} {tr : TA} (h : DA K t tr ρ fun xs => DC K r xs Q) : DE K t (tCB r tr) ρ Q := fun F0 H0 F H σ A QK k =>
  h F0 H0 F H σ A _ fun x v F1 H1 hr e1 q1 => have A1 := A.step e1;  hr v F1 H1 A1.fh q1 QK fun d u F3 H3 q g q3 => k d u F3 H3 q (e1.trans (A1.stp g)) q3
theorem DL_cb {r : List V → Hp → VK → Prop} {tr : TA} {Q : List PyData → Prop} (h : DA K t tr ρ fun xs => DCL K r xs Q) : DL K t (tCB r tr) ρ Q := fun F0 H0 F H σ A QK k =>
  h F0 H0 F H σ A _ fun x v F1 H1 hr e1 q1 => have A1 := A.step e1;  hr v F1 H1 A1.fh q1 QK fun ds p ys F3 H3 q g n1 n2 n3 q3 => k ds p ys F3 H3 q (e1.trans (A1.stp g)) (e1.back n1) n2 n3 q3
theorem DA_nil {Q : List PyData → Prop} (q : Q []) : DA K t tNil ρ Q := fun F0 H0 F H σ A QK k => k [] [] F H q A.rfl .nil
theorem DA_cons {tr : TA} {Q : List PyData → Prop} (h : DE K t te ρ fun x => DA K t tr ρ fun xs => Q (x :: xs)) : DA K t (tCons te tr) ρ Q := fun F0 H0 F H σ A QK k =>
  h F0 H0 F H σ A _ fun x v F1 H1 hr e1 q1 => have A1 := A.step e1;  hr F0 H0 F1 H1 σ A1 _ fun xs vs F2 H2 q e2 q2 => have A2 := A1.step e2;  k _ _ F2 H2 q (e1.trans e2) (.cons (q1.up e2.ff) q2)
theorem DE_tup {tr : TA} (h : DA K t tr ρ fun xs => xs.length ≤ 100000 ∧ Q (.tuple xs)) : DE K t (tTup tr) ρ Q := fun F0 H0 F H σ A QK k =>
  h F0 H0 F H σ A _ fun xs vs F1 H1 hq e1 q1 => have A1 := A.step e1;  ⟨Evl.sz_of (by rw [q1.len]; exact hq.1), fun p n =>
    have g := Gr.new A1.fh (o := .tup vs) n
    k _ _ _ _ hq.2 (e1.trans (A1.stp g)) (.tup (.inl (.inl upd_same)) (q1.up g.ff))⟩
theorem DL_lst {tr : TA} {Q : List PyData → Prop} (h : DA K t tr ρ fun xs => xs.length ≤ 100000 ∧ Q xs) : DL K t (tLst tr) ρ Q := fun F0 H0 F H σ A QK k =>
  h F0 H0 F H σ A _ fun xs vs F1 H1 hq e1 q1 => have A1 := A.step e1;  ⟨Evl.sz_of (by rw [q1.len]; exact hq.1), fun p n =>
    have g := Gr.free A1.fh (o := .lst vs) n
    k _ p _ _ _ hq.2 (e1.trans (A1.stp g)) (e1.back n) (ex_none A1.fh n) upd_same (q1.up g.ff)⟩
theorem DE_if {tt : TT} (h : DT K t tt ρ fun b => if b = true then DE K t ta ρ Q else DE K t tb ρ Q) : DE K t (tIf tt ta tb) ρ Q := fun F0 H0 F H σ A QK k =>
  h F0 H0 F H σ A _ fun b F1 H1 hb e1 => by
    have A1 := A.step e1
    cases b with
    | true => exact hb F0 H0 F1 H1 σ A1 QK fun d v F2 H2 q e2 q2 => have A2 := A1.step e2;  k d v F2 H2 q (e1.trans e2) q2
    | false => exact hb F0 H0 F1 H1 σ A1 QK fun d v F2 H2 q e2 q2 => have A2 := A1.step e2;  k d v F2 H2 q (e1.trans e2) q2
theorem DE_and (h : DE K t ta ρ fun x => ∃ b, x = .bool b ∧ if b = true then DE K t tb ρ Q else Q (.bool false)) : DE K t (tAndV ta tb) ρ Q := fun F0 H0 F H σ A QK k =>
  h F0 H0 F H σ A _ fun x v F1 H1 hb e1 q1 => by
    have A1 := A.step e1
    obtain ⟨b, rfl, hb⟩ := hb
    cases q1
    refine ⟨b, rfl, ?_⟩
    cases b with
    | true => exact hb F0 H0 F1 H1 σ A1 QK fun d v F2 H2 q e2 q2 => have A2 := A1.step e2;  k d v F2 H2 q (e1.trans e2) q2
    | false => exact k _ _ F1 H1 hb e1 (.bl false)
theorem DE_or (h : DE K t ta ρ fun x => ∃ b, x = .bool b ∧ if b = true then Q (.bool true) else DE K t tb ρ Q) : DE K t (tOrV ta tb) ρ Q := fun F0 H0 F H σ A QK k =>
  h F0 H0 F H σ A _ fun x v F1 H1 hb e1 q1 => by
    have A1 := A.step e1
    obtain ⟨b, rfl, hb⟩ := hb
    cases q1
    refine ⟨b, rfl, ?_⟩
    cases b with
    | true => exact k _ _ F1 H1 hb e1 (.bl true)
    | false => exact hb F0 H0 F1 H1 σ A1 QK fun d v F2 H2 q e2 q2 => have A2 := A1.step e2;  k d v F2 H2 q (e1.trans e2) q2
theorem DE_not (h : DE K t ta ρ fun x => ∃ b, x = .bool b ∧ Q (.bool (!b))) : DE K t (tNotV ta) ρ Q := fun F0 H0 F H σ A QK k =>
  h F0 H0 F H σ A _ fun x v F1 H1 hb e1 q1 => by
    have A1 := A.step e1
    obtain ⟨b, rfl, hb⟩ := hb
    cases q1
    exact ⟨b, rfl, k _ _ F1 H1 hb e1 (.bl _)⟩
theorem DE_chain {r r' : R2} (h : DE K t ta ρ fun x => DE K t tb ρ fun y => DR K r x y fun z => ∃ b, z = .bool b ∧ if b = true then DE K t tc ρ fun w => DR K r' y w Q else Q (.bool false)) :
    DE K t (tChain r r' ta tb tc) ρ Q := fun F0 H0 F H σ A QK k =>
  h F0 H0 F H σ A _ fun x v F1 H1 hb e1 q1 => have A1 := A.step e1;  hb F0 H0 F1 H1 σ A1 _ fun y w F2 H2 hr e2 q2 => have A2 := A1.step e2;  hr v w F2 H2 A2.fh (q1.up e2.ff) q2 _ fun z u F3 H3 hz g q3 => by
    obtain ⟨b, rfl, hz⟩ := hz
    cases q3
    refine ⟨b, rfl, ?_⟩
    have A3 := A2.call g
    have e3 := (e1.trans e2).trans (A2.stp g)
    cases b with
    | true => exact hz F0 H0 F3 H3 σ A3 _ fun y2 w2 F4 H4 hr2 e4 q4 => have A4 := A3.step e4;  hr2 w w2 F4 H4 A4.fh ((q2.up g.ff).up e4.ff) q4 QK fun d u F5 H5 q g2 q5 => k d u F5 H5 q ((e3.trans e4).trans (A4.stp g2)) q5
    | false => exact k _ _ F3 H3 hz e3 (.bl false)
theorem DT_test {tt : TE} {Q : Bool → Prop} (h : DE K t tt ρ fun x => ∃ b, x = .bool b ∧ Q b) : DT K t (tTest tt) ρ Q := fun F0 H0 F H σ A QK k =>
  h F0 H0 F H σ A _ fun x v F1 H1 hb e1 q1 => by
    have A1 := A.step e1
    obtain ⟨b, rfl, hb⟩ := hb
    cases q1
    exact ⟨b, rfl, k b F1 H1 hb e1⟩
theorem DT_B {tt : TE} {Q : Bool → Prop} (h : DE K t tt ρ fun x => ∃ b, x = .bool b ∧ Q b) : DT K t (tB tt) ρ Q := fun F0 H0 F H σ A QK k =>
  h F0 H0 F H σ A _ fun x v F1 H1 hb e1 q1 => by
    have A1 := A.step e1
    obtain ⟨b, rfl, hb⟩ := hb
    cases q1
    exact ⟨b, rfl, k b F1 H1 hb e1⟩
theorem DT_and {ua ub : TT} {Q : Bool → Prop} (h : DT K t ua ρ fun b => if b = true then DT K t ub ρ Q else Q false) : DT K t (tAnd ua ub) ρ Q := fun F0 H0 F H σ A QK k =>
  h F0 H0 F H σ A _ fun b F1 H1 hb e1 => by
    have A1 := A.step e1
    cases b with
    | true => exact hb F0 H0 F1 H1 σ A1 QK fun d F2 H2 q e2 => have A2 := A1.step e2;  k d F2 H2 q (e1.trans e2)
    | false => exact k _ F1 H1 hb e1
theorem DT_or {ua ub : TT} {Q : Bool → Prop} (h : DT K t ua ρ fun b => if b = true then Q true else DT K t ub ρ Q) : DT K t (tOr ua ub) ρ Q := fun F0 H0 F H σ A QK k =>
  h F0 H0 F H σ A _ fun b F1 H1 hb e1 => by
    have A1 := A.step e1
    cases b with
    | true => exact k _ F1 H1 hb e1
    | false => exact hb F0 H0 F1 H1 σ A1 QK fun d F2 H2 q e2 => have A2 := A1.step e2;  k d F2 H2 q (e1.trans e2)
theorem DT_not {ua : TT} {Q : Bool → Prop} (h : DT K t ua ρ fun b => Q (!b)) : DT K t (tNot ua) ρ Q := fun F0 H0 F H σ A QK k =>
  h F0 H0 F H σ A _ fun b F1 H1 hb e1 => have A1 := A.step e1;  k _ F1 H1 hb e1
theorem DT_yes {Q : Bool → Prop} (h : Q true) : DT K t tYes ρ Q := fun F0 H0 F H σ A QK k => k true F H h A.rfl
theorem DO_no {Q : Option Int → Prop} (h : Q none) : DO K t tNoPart ρ Q := fun F0 H0 F H σ A QK k => k none F H h A.rfl
theorem DO_at {Q : Option Int → Prop} (h : DE K t te ρ fun x => ∃ z, x = .int z ∧ Q (some z)) : DO K t (tPart te) ρ Q := fun F0 H0 F H σ A QK k =>
  h F0 H0 F H σ A _ fun x v F1 H1 hb e1 q1 => by
    have A1 := A.step e1
    obtain ⟨b, rfl, hb⟩ := hb
    cases q1
    exact ⟨b, rfl, k _ F1 H1 hb e1⟩

/-! slices -/
theorem cutV_dqs {F : Hp} {ds : List PyData} {xs : List V} (lo hi : Option Int) (h : Dqs K F ds xs) :
    Dqs K F ((ds.drop (HT.sIx ds.length 0 lo)).take (HT.sIx ds.length ds.length hi - HT.sIx ds.length 0 lo)) (cutV xs lo hi) := by
  unfold cutV
  rw [h.len]
  exact (h.drop _).take _
def cutD (ds : List PyData) (lo hi : Option Int) : List PyData := (ds.drop (HT.sIx ds.length 0 lo)).take (HT.sIx ds.length ds.length hi - HT.sIx ds.length 0 lo)
theorem DL_sl {tl th : TO} {Q : List PyData → Prop} (h : DE K t te ρ fun x => ∃ ds, x = .list ds ∧ DO K t tl ρ fun lo => DO K t th ρ fun hi => Q (cutD ds lo hi)) : DL K t (tSl (rSlL K) te tl th) ρ Q := fun F0 H0 F H σ A QK k =>
  h F0 H0 F H σ A _ fun x v F1 H1 hb e1 q1 => by
    have A1 := A.step e1
    obtain ⟨ds, rfl, hb⟩ := hb
    refine hb F0 H0 F1 H1 σ A1 _ fun lo F2 H2 hc e2 => have A2 := A1.step e2;  hc F0 H0 F2 H2 σ A2 _ fun hi F3 H3 q e3 => ?_
    have A3 := ((A.step e1).step e2).step e3
    have q2 := (q1.up e2.ff).up e3.ff
    cases q2 with
    | @lst a xs _ s1 s2 =>
      refine ⟨a, xs, rfl, Evl.ex_l A3.fh s1, fun p n => ?_⟩
      have g := Gr.free A3.fh (o := .lst (cutV xs lo hi)) n
      exact k _ p _ _ _ q (((e1.trans e2).trans e3).trans (A3.stp g)) (((e1.trans e2).trans e3).back n) (ex_none A3.fh n) upd_same (cutV_dqs lo hi s2)
theorem DE_slT {tl th : TO} (h : DE K t te ρ fun x => ∃ ds, x = .tuple ds ∧ DO K t tl ρ fun lo => DO K t th ρ fun hi =>
    ¬ (HT.sIx ds.length 0 lo = 0 ∧ HT.sIx ds.length ds.length hi = ds.length) ∧ Q (.tuple (cutD ds lo hi))) : DE K t (tSl (rSlT K) te tl th) ρ Q := fun F0 H0 F H σ A QK k =>
  h F0 H0 F H σ A _ fun x v F1 H1 hb e1 q1 => by
    have A1 := A.step e1
    obtain ⟨ds, rfl, hb⟩ := hb
    refine hb F0 H0 F1 H1 σ A1 _ fun lo F2 H2 hc e2 => have A2 := A1.step e2;  hc F0 H0 F2 H2 σ A2 _ fun hi F3 H3 q e3 => ?_
    have A3 := ((A.step e1).step e2).step e3
    have q2 := (q1.up e2.ff).up e3.ff
    cases q2 with
    | @tup a xs _ s1 s2 =>
      refine ⟨a, xs, rfl, Evl.ex_t A3.fh s1, by rw [s2.len]; exact q.1, fun p n => ?_⟩
      have g := Gr.new A3.fh (o := .tup (cutV xs lo hi)) n
      exact k _ _ _ _ q.2 (((e1.trans e2).trans e3).trans (A3.stp g)) (.tup (.inl (.inl upd_same)) ((cutV_dqs lo hi s2).up g.ff))

/-! ### operations over data -/
theorem DR_I0 {g : Int → Int → V} {g' : Int → Int → PyData} {x y : PyData} (hg : ∀ F i j, Dq K F (g' i j) (g i j)) (h : ∃ i j, x = .int i ∧ y = .int j ∧ Q (g' i j)) : DR K (rI0 g) x y Q := fun v w F H e q1 q2 QK k => by
  obtain ⟨i, j, rfl, rfl, q⟩ := h
  cases q1
  cases q2
  exact ⟨i, j, rfl, rfl, k _ _ F H q (Gr.refl e) (hg F i j)⟩
theorem DR_I {C : Int → Int → Prop} {g : Int → Int → V} {g' : Int → Int → PyData} {x y : PyData} (hg : ∀ F i j, Dq K F (g' i j) (g i j)) (h : ∃ i j, x = .int i ∧ y = .int j ∧ C i j ∧ Q (g' i j)) : DR K (rI C g) x y Q := fun v w F H e q1 q2 QK k => by
  obtain ⟨i, j, rfl, rfl, c, q⟩ := h
  cases q1
  cases q2
  exact ⟨i, j, rfl, rfl, c, k _ _ F H q (Gr.refl e) (hg F i j)⟩
theorem DR_l {r r' : R2} {x y : PyData} (h : DR K r x y Q) : DR K (fun a b H Q => r a b H Q ∨ r' a b H Q) x y Q := fun v w F H e q1 q2 QK k => .inl (h v w F H e q1 q2 QK k)
theorem DR_r {r r' : R2} {x y : PyData} (h : DR K r' x y Q) : DR K (fun a b H Q => r a b H Q ∨ r' a b H Q) x y Q := fun v w F H e q1 q2 QK k => .inr (h v w F H e q1 q2 QK k)
theorem DR_ixL {x y : PyData} (h : ∃ ds i d, x = .list ds ∧ y = .int i ∧ atI ds i = some d ∧ Q d) : DR K (rIxL K) x y Q := fun v w F H e q1 q2 QK k => by
  obtain ⟨ds, i, d, rfl, rfl, ha, q⟩ := h
  cases q2
  cases q1 with
  | @lst a xs _ s1 s2 =>
    unfold atI at ha
    cases hj : ixN ds.length i with
    | none => rw [hj] at ha; cases ha
    | some j =>
      rw [hj] at ha
      obtain ⟨u, hu, z⟩ := s2.at (i := j) ha
      refine ⟨a, xs, i, u, rfl, rfl, Evl.ex_l e s1, ?_, k _ _ F H q (Gr.refl e) z⟩
      unfold atI
      rw [s2.len, hj]
      exact hu
theorem DR_ixT {x y : PyData} (h : ∃ ds i d, x = .tuple ds ∧ y = .int i ∧ atI ds i = some d ∧ Q d) : DR K (rIxT K) x y Q := fun v w F H e q1 q2 QK k => by
  obtain ⟨ds, i, d, rfl, rfl, ha, q⟩ := h
  cases q2
  cases q1 with
  | @tup a xs _ s1 s2 =>
    unfold atI at ha
    cases hj : ixN ds.length i with
    | none => rw [hj] at ha; cases ha
    | some j =>
      rw [hj] at ha
      obtain ⟨u, hu, z⟩ := s2.at (i := j) ha
      refine ⟨a, xs, i, u, rfl, rfl, Evl.ex_t e s1, ?_, k _ _ F H q (Gr.refl e) z⟩
      unfold atI
      rw [s2.len, hj]
      exact hu
/-- xs[i], t[i] by the one rule -/
theorem DR_ix {x y : PyData} (h : (∃ ds i d, x = .list ds ∧ y = .int i ∧ atI ds i = some d ∧ Q d) ∨ (∃ ds i d, x = .tuple ds ∧ y = .int i ∧ atI ds i = some d ∧ Q d)) : DR K (rIx K) x y Q := fun v w F H e q1 q2 QK k =>
  h.elim (fun h => .inl (DR_ixL h v w F H e q1 q2 QK k)) fun h => .inr (.inl (DR_ixT h v w F H e q1 q2 QK k))
mutual
theorem Dq.dp {F : Hp} : ∀ (d : PyData) (v : V), PyData.plain d = true → Dq K F d v → Dp K F v d
  | .none, _, _, .non => .non
  | .bool _, _, _, .bl b => .bl b
  | .int _, _, _, .int i => .int i
  | .str _, _, _, .str x => .str x
  | .list ds, _, h, .lst h1 h2 => .lst h1 (Dqs.dp ds _ (by simpa only [PyData.plain] using h) h2)
  | .tuple ds, _, h, .tup h1 h2 => .tup h1 (Dqs.dp ds _ (by simpa only [PyData.plain] using h) h2)
  | .dict _, _, h, _ => by simp [PyData.plain] at h
theorem Dqs.dp {F : Hp} : ∀ (ds : List PyData) (vs : List V), PyData.plainAll ds = true → Dqs K F ds vs → DpAll K F vs ds
  | [], _, _, .nil => .nil
  | d :: ds, _, h, .cons h1 h2 => by
    have h' : d.plain = true ∧ PyData.plainAll ds = true := by simpa [PyData.plainAll] using h
    exact .cons (Dq.dp d _ h'.1 h1) (Dqs.dp ds _ h'.2 h2)
end
mutual
theorem dp_mono {F F' : Hp} (e : Ex F F') : ∀ (d : PyData) (v : V), Dp K F v d → Dp K F' v d
  | .none, _, .non => .non
  | .bool _, _, .bl b => .bl b
  | .int _, _, .int i => .int i
  | .str _, _, .str x => .str x
  | .list ds, _, .lst h1 h2 => .lst (Evl.ex_l e h1) (dps_mono e ds _ h2)
  | .tuple ds, _, .tup h1 h2 => .tup (Evl.ex_t e h1) (dps_mono e ds _ h2)
theorem dps_mono {F F' : Hp} (e : Ex F F') : ∀ (ds : List PyData) (vs : List V), DpAll K F vs ds → DpAll K F' vs ds
  | [], _, .nil => .nil
  | d :: ds, _, .cons h1 h2 => .cons (dp_mono e d _ h1) (dps_mono e ds _ h2)
end
theorem plain_of_shaped {d : PyData} (h : SeqAt.shaped d = true) : d.plain = true := PyData.plain_of_canLay0 d (SeqAt.canLay_of_shaped h)
/-- == where one side may hold what has no data of its own: lists of different lengths -/
def rLen (K : PySem.W.Frag) (b : Bool) : R2 := fun x y H Q => ∃ l r xs ys, x = .ref l ∧ y = .ref r ∧ SqL K H l xs ∧ SqL K H r ys ∧ xs.length ≠ ys.length ∧ Q (.bl b) H
def rStr (g : Bool → Bool) : R2 := fun x y H Q => ∃ i j, x = .str i ∧ y = .str j ∧ Q (.bl (g (decide (i = j)))) H
def rEqU (K : PySem.W.Frag) : R2 := fun x y H Q => rEqD K x y H Q ∨ rLen K false x y H Q ∨ rStr id x y H Q
def rNeU (K : PySem.W.Frag) : R2 := fun x y H Q => rNeD K x y H Q ∨ rLen K true x y H Q ∨ rStr not x y H Q
theorem DR_eq {x y : PyData} (h : SeqAt.shaped x = true ∧ SeqAt.shaped y = true ∧ Q (.bool (PyData.eqv x y))) : DR K (rEqU K) x y Q := fun v w F H e q1 q2 QK k => .inl
  ⟨x, y, dp_mono e x v (Dq.dp x v (plain_of_shaped h.1) q1), dp_mono e y w (Dq.dp y w (plain_of_shaped h.2.1) q2), h.1, h.2.1, k _ _ F H h.2.2 (Gr.refl e) (.bl _)⟩
theorem DR_ne {x y : PyData} (h : SeqAt.shaped x = true ∧ SeqAt.shaped y = true ∧ Q (.bool (!PyData.eqv x y))) : DR K (rNeU K) x y Q := fun v w F H e q1 q2 QK k => .inl
  ⟨x, y, dp_mono e x v (Dq.dp x v (plain_of_shaped h.1) q1), dp_mono e y w (Dq.dp y w (plain_of_shaped h.2.1) q2), h.1, h.2.1, k _ _ F H h.2.2 (Gr.refl e) (.bl _)⟩
theorem DR_len {b : Bool} {x y : PyData} (h : ∃ ds es, x = .list ds ∧ y = .list es ∧ ds.length ≠ es.length ∧ Q (.bool b)) : DR K (rLen K b) x y Q := fun v w F H e q1 q2 QK k => by
  obtain ⟨ds, es, rfl, rfl, hl, q⟩ := h
  cases q1 with
  | @lst a xs _ s1 s2 =>
    cases q2 with
    | @lst b ys _ s3 s4 => exact ⟨a, b, xs, ys, rfl, rfl, Evl.ex_l e s1, Evl.ex_l e s3, by rw [s2.len, s4.len]; exact hl, k _ _ F H q (Gr.refl e) (.bl _)⟩
theorem DR_str {g : Bool → Bool} {x y : PyData} (h : ∃ a b, x = .str a ∧ y = .str b ∧ Q (.bool (g (decide (a = b))))) : DR K (rStr g) x y Q := fun v w F H e q1 q2 QK k => by
  obtain ⟨a, b, rfl, rfl, q⟩ := h
  cases q1
  cases q2
  exact ⟨a, b, rfl, rfl, k _ _ F H q (Gr.refl e) (.bl _)⟩
theorem DR_eqS {x y : PyData} (h : ∃ a b, x = .str a ∧ y = .str b ∧ Q (.bool (decide (a = b)))) : DR K (rEqU K) x y Q := DR_r (DR_r (DR_str h))
theorem DR_neS {x y : PyData} (h : ∃ a b, x = .str a ∧ y = .str b ∧ Q (.bool (!decide (a = b)))) : DR K (rNeU K) x y Q := DR_r (DR_r (DR_str h))
/-- a list == [] -/
theorem DR_eqNil {x y : PyData} (h : ∃ ds, x = .list ds ∧ y = .list [] ∧ Q (.bool (decide (ds = [])))) : DR K (rEqU K) x y Q := by
  obtain ⟨ds, rfl, rfl, q⟩ := h
  cases ds with
  | nil => exact DR_eq ⟨rfl, rfl, q⟩
  | cons d ds => exact DR_r (DR_l (DR_len ⟨_, _, rfl, rfl, by simp, q⟩))
theorem DR_neNil {x y : PyData} (h : ∃ ds, x = .list ds ∧ y = .list [] ∧ Q (.bool (!decide (ds = [])))) : DR K (rNeU K) x y Q := by
  obtain ⟨ds, rfl, rfl, q⟩ := h
  cases ds with
  | nil => exact DR_ne ⟨rfl, rfl, q⟩
  | cons d ds => exact DR_r (DR_l (DR_len ⟨_, _, rfl, rfl, by simp, q⟩))
end
end Cf
namespace Cf
open PySem PySem.Spec PyProof.Rows L2
open Evl (Ex)

/-- what follows, what is returned, break, continue -/
def DS (K : PySem.W.Frag) (t : Option Addr) (ts : TS) (ρ : Rho) (N : Rho → Prop) (R : PyData → Prop) (B C : Rho → Prop) : Prop :=
  ∀ (F0 H0 F H : Hp) (σ : L2.St) (D : Ends), At K t F0 H0 F H σ ρ →
    (∀ ρ' F' H' σ', N ρ' → At K t F0 H0 F' H' σ' ρ' → Ex F F' → D.nx σ' H') →
    (∀ d v F' H', R d → Gr t F0 H0 F' H' → TpOk t F' H' → Dq K F' d v → D.rt v H') →
    (∀ ρ' F' H' σ', B ρ' → At K t F0 H0 F' H' σ' ρ' → Ex F F' → D.bk σ' H') →
    (∀ ρ' F' H' σ', C ρ' → At K t F0 H0 F' H' σ' ρ' → Ex F F' → D.ct σ' H') → ts D σ H
abbrev NoR : Rho → Prop := fun _ => False

section
variable {K : PySem.W.Frag} {t : Option Addr} {ρ : Rho} {i : Nat} {d : PyData} {te ta tb tc : TE} {t1 t2 : TS} {N B C : Rho → Prop} {R : PyData → Prop}
theorem DS.mono {N' B' C' : Rho → Prop} {R' : PyData → Prop} (h : DS K t t1 ρ N R B C) (hN : ∀ x, N x → N' x) (hR : ∀ x, R x → R' x) (hB : ∀ x, B x → B' x) (hC : ∀ x, C x → C' x) : DS K t t1 ρ N' R' B' C' :=
  fun F0 H0 F H σ D A kn kr kb kc => h F0 H0 F H σ D A (fun r F' H' s q => kn r F' H' s (hN r q)) (fun d v F' H' q => kr d v F' H' (hR d q)) (fun r F' H' s q => kb r F' H' s (hB r q)) fun r F' H' s q => kc r F' H' s (hC r q)
theorem DS_seq (h : DS K t t1 ρ (fun ρ1 => DS K t t2 ρ1 N R B C) R B C) : DS K t (tSeq t1 t2) ρ N R B C := fun F0 H0 F H σ D A kn kr kb kc => by
  refine h F0 H0 F H σ { D with nx := t2 D } A (fun r F1 H1 s1 q A1 e1 => ?_) kr kb kc
  exact q F0 H0 F1 H1 s1 D A1 (fun r F' H' s q A' e => kn r F' H' s q A' (e1.trans e)) kr (fun r F' H' s q A' e => kb r F' H' s q A' (e1.trans e)) fun r F' H' s q A' e => kc r F' H' s q A' (e1.trans e)
theorem DS_next (q : N ρ) : DS K t tNext ρ N R B C := fun F0 H0 F H σ D A kn kr kb kc => kn ρ F H σ q A (Ex.refl F)
theorem DS_set (h : DE K t te ρ fun d => N (ρ.set i (.sh d))) : DS K t (tAsg te (gName i)) ρ N R B C := fun F0 H0 F H σ D A kn kr kb kc =>
  h F0 H0 F H σ A _ fun d v F1 H1 q e1 z => kn _ F1 H1 _ q ((A.step e1).set (s := .sh d) ⟨v, rfl, z⟩ fun _ e => by cases e) e1.ff
theorem DS_setOw (h : DL K t te ρ fun ds => N (ρ.set i (.ow ds))) : DS K t (tAsg te (gName i)) ρ N R B C := fun F0 H0 F H σ D A kn kr kb kc =>
  h F0 H0 F H σ A _ fun ds p xs F1 H1 q e1 n n1 n2 z => have f := A.fs n; kn _ F1 H1 _ q ((A.step e1).setOw ⟨p, xs, rfl, n2, n1, f.old, f.tap, z⟩ fun j es _ h => f.own j es h) e1.ff
theorem DS_drop (h : DE K t te ρ fun _ => N ρ) : DS K t (tDrop te) ρ N R B C := fun F0 H0 F H σ D A kn kr kb kc =>
  h F0 H0 F H σ A _ fun d v F1 H1 q e1 z => kn _ F1 H1 _ q (A.step e1) e1.ff
theorem DS_ret (h : DE K t te ρ R) : DS K t (tRet te) ρ N R B C := fun F0 H0 F H σ D A kn kr kb kc =>
  h F0 H0 F H σ A _ fun d v F1 H1 q e1 z => kr d v F1 H1 q (A.step e1).gr e1.tp z
theorem DS_retN (h : R .none) : DS K t tRetN ρ N R B C := fun F0 H0 F H σ D A kn kr kb kc => kr _ _ F H h A.gr A.tp .non
theorem DS_retOw {ds : List PyData} (h : ρ[i]? = some (.ow ds)) (q : R (.list ds)) : DS K t (tRet (tVar i)) ρ N R B C := fun F0 H0 F H σ D A kn kr kb kc => by
  obtain ⟨p, xs, e, h1, h2, h3, h4, h5⟩ := A.own h
  have ef : Ex F (upd F p (.lst xs)) := Ex.new h2
  obtain ⟨F', A', _⟩ := A.freeze h
  obtain ⟨v, e2, z⟩ := A'.var (i := i) (d := .list ds) (List.getElem?_set_self (List.getElem?_eq_some_iff.mp h).1)
  rw [e] at e2
  cases e2
  exact ⟨_, e, kr _ _ _ _ q A'.gr A'.tp z⟩
theorem DS_freeze {ds : List PyData} (h : ρ[i]? = some (.ow ds)) (q : DS K t t1 (ρ.set i (.sh (.list ds))) N R B C) : DS K t t1 ρ N R B C := fun F0 H0 F H σ D A kn kr kb kc => by
  obtain ⟨F', A', e⟩ := A.freeze h
  exact q F0 H0 F' H σ D A' (fun r F1 H1 s q a e1 => kn r F1 H1 s q a (e.trans e1)) kr (fun r F1 H1 s q a e1 => kb r F1 H1 s q a (e.trans e1)) fun r F1 H1 s q a e1 => kc r F1 H1 s q a (e.trans e1)
/-- a slot is forgotten -/
theorem At.forget {F0 H0 F H : Hp} {σ : L2.St} (A : At K t F0 H0 F H σ ρ) (i : Nat) : At K t F0 H0 F H σ (ρ.set i .no) where
  gr := A.gr
  len := by rw [List.length_set, A.len]
  sl := fun j o s h1 h2 => by
    by_cases z : i = j
    · subst z
      have hi : i < ρ.length := by
        have := (List.getElem?_eq_some_iff.mp h2).1
        rwa [List.length_set] at this
      rw [List.getElem?_set_self hi] at h2
      cases h2
      trivial
    · rw [List.getElem?_set_ne z] at h2
      exact A.sl j o s h1 h2
  ap := fun a b p ds es n h1 h2 => by
    have aux : ∀ (c : Nat) (fs : List PyData), (ρ.set i Sl.no)[c]? = some (Sl.ow fs) → ρ[c]? = some (Sl.ow fs) := fun c fs z => by
      by_cases y : i = c
      · subst y
        have hi : i < ρ.length := by
          have := (List.getElem?_eq_some_iff.mp z).1
          rwa [List.length_set] at this
        rw [List.getElem?_set_self hi] at z
        cases z
      · rw [List.getElem?_set_ne y] at z
        exact z
    exact A.ap a b p ds es n (aux a ds h1) (aux b es h2)
  tp := A.tp
theorem DS_if {c : TT} (h : DT K t c ρ fun b => if b = true then DS K t t1 ρ N R B C else DS K t t2 ρ N R B C) : DS K t (tIfS c t1 t2) ρ N R B C := fun F0 H0 F H σ D A kn kr kb kc =>
  h F0 H0 F H σ A _ fun b F1 H1 hb s1 => by
    have A1 := A.step s1
    have e1 := s1.ff
    cases b with
    | true => exact hb F0 H0 F1 H1 σ D A1 (fun r F' H' s q A' e => kn r F' H' s q A' (e1.trans e)) kr (fun r F' H' s q A' e => kb r F' H' s q A' (e1.trans e)) fun r F' H' s q A' e => kc r F' H' s q A' (e1.trans e)
    | false => exact hb F0 H0 F1 H1 σ D A1 (fun r F' H' s q A' e => kn r F' H' s q A' (e1.trans e)) kr (fun r F' H' s q A' e => kb r F' H' s q A' (e1.trans e)) fun r F' H' s q A' e => kc r F' H' s q A' (e1.trans e)
/-- a, b, .. = a tuple -/
def setAll : List Nat → List PyData → Rho → Rho
  | i :: is, d :: ds, ρ => setAll is ds (ρ.set i (.sh d))
  | _, _, ρ => ρ
def gNames : List Nat → TGs
  | [] => gNil
  | i :: is => gCons (gName i) (gNames is)
theorem names_run {F0 H0 F H : Hp} : ∀ (is : List Nat) (ds : List PyData) (vs : List V) (σ : L2.St) (ρ : Rho) (Q : L2.St → Hp → Prop), is.length = ds.length → Dqs K F ds vs → At K t F0 H0 F H σ ρ →
    (∀ σ', At K t F0 H0 F H σ' (setAll is ds ρ) → Q σ' H) → gNames is vs σ H Q
  | [], [], _, σ, ρ, Q, _, .nil, A, k => ⟨rfl, k σ A⟩
  | i :: is, d :: ds, v :: vs, σ, ρ, Q, hl, .cons h1 h2, A, k => ⟨v, vs, rfl, names_run is ds vs _ _ Q (by simpa using hl) h2 (A.set (i := i) (s := .sh d) ⟨v, rfl, h1⟩ fun _ e => by cases e) k⟩
theorem DS_unpack {is : List Nat} {n : Nat} (h : DE K t te ρ fun x => ∃ ds, x = .tuple ds ∧ ds.length = n ∧ is.length = n ∧ N (setAll is ds ρ)) : DS K t (tAsg te (gTup K n (gNames is))) ρ N R B C := fun F0 H0 F H σ D A kn kr kb kc =>
  h F0 H0 F H σ A _ fun x v F1 H1 hq s1 z => by
    have A1 := A.step s1
    have e1 := s1.ff
    obtain ⟨ds, rfl, h1, h2, q⟩ := hq
    cases z with
    | @tup a xs _ s1 s2 =>
      exact ⟨a, xs, rfl, Evl.ex_t A1.fh s1, by rw [s2.len, h1], names_run is ds xs σ ρ _ (by rw [h1, h2]) s2 A1 fun σ' A' => kn _ F1 H1 σ' q A' e1⟩
/-- a, b = x, y, two different names -/
theorem DS_par {i j : Nat} {tr : TA} (h : DA K t tr ρ fun xs => ∃ d e, xs = [d, e] ∧ N ((ρ.set i (.sh d)).set j (.sh e))) : DS K t (tPar i j tr) ρ N R B C := fun F0 H0 F H σ D A kn kr kb kc =>
  h F0 H0 F H σ A _ fun xs vs F1 H1 hq s1 z => by
    have A1 := A.step s1
    have e1 := s1.ff
    obtain ⟨d, e, rfl, q⟩ := hq
    obtain ⟨v, w, rfl, z1, z2⟩ := dqs2 z
    exact ⟨v, w, rfl, kn _ F1 H1 _ q ((A1.set (i := i) (s := .sh d) ⟨v, rfl, z1⟩ fun _ e => by cases e).set (i := j) (s := .sh e) ⟨w, rfl, z2⟩ fun _ e => by cases e) e1⟩
/-- xs.append(e), xs a list of its own -/
theorem DS_append {ds : List PyData} (h : ρ[i]? = some (.ow ds)) (hl : ds.length < 100000) (he : DE K t te ρ fun d => N (ρ.set i (.ow (ds ++ [d])))) : DS K t (tDrop (tBM K "list" rAppend (tVar i) (tCons te tNil))) ρ N R B C :=
  fun F0 H0 F H σ D A kn kr kb kc => by
    obtain ⟨p, xs, e, h1, h2, h3, h4, h5⟩ := A.own h
    refine ⟨.ref p, e, .inl ⟨rfl, xs, .inl (.inl h1)⟩, he F0 H0 F H σ A _ fun d v F1 H1 q s1 z => ?_⟩
    have A1 := A.step s1
    have e1 := s1.ff
    obtain ⟨p', xs', e', g1, g2, g3, g4, g5⟩ := A1.own h
    rw [e] at e'
    cases e'
    exact ⟨p, xs', v, rfl, rfl, g1, Evl.sz_lt (by rw [g5.len]; exact hl), kn _ F1 _ σ q (A1.put h e (g5.app (.cons z .nil))) e1⟩
theorem atI_dqs {F : Hp} {ds : List PyData} {xs : List V} {z : Int} {d : PyData} (h : Dqs K F ds xs) (ha : atI ds z = some d) : ∃ v, atI xs z = some v ∧ Dq K F d v := by
  unfold atI at ha ⊢
  rw [h.len]
  cases hj : ixN ds.length z with
  | none => rw [hj] at ha; cases ha
  | some j =>
    rw [hj] at ha
    obtain ⟨u, hu, q⟩ := h.at (i := j) ha
    exact ⟨u, hu, q⟩
/-- xs[k] of a list of its own -/
theorem DE_ixOw {ds : List PyData} {Q : PyData → Prop} (h : ρ[i]? = some (.ow ds)) (he : DE K t te ρ fun y => ∃ z d, y = .int z ∧ atI ds z = some d ∧ Q d) : DE K t (tOp (rIx K) (tVar i) te) ρ Q := fun F0 H0 F H σ A QK k => by
  obtain ⟨p, xs, e, _⟩ := A.own h
  refine ⟨.ref p, e, he F0 H0 F H σ A _ fun y w F1 H1 hq s1 z => ?_⟩
  have A1 := A.step s1
  obtain ⟨m, d, rfl, ha, q⟩ := hq
  cases z
  obtain ⟨p', xs', e', g1, g2, g3, g4, g5⟩ := A1.own h
  rw [e] at e'
  cases e'
  obtain ⟨v, hv, zq⟩ := atI_dqs g5 ha
  exact .inl ⟨p, xs', m, v, rfl, rfl, .inl (.inl g1), hv, k d v F1 H1 q s1 zq⟩
/-! ### loops -/
theorem DS_for {g : TG} {J : It} {n : Nat} {G : Hp → Prop} {Y : Nat → Hp → V → Hp → Prop} {F0 H0 F H : Hp} {σ : L2.St} {D : Ends} (w : Walk J n G Y) (I : Nat → Rho → Prop) (A : At K t F0 H0 F H σ ρ) (h0 : I 0 ρ)
    (hG : ∀ F' H', Ex F F' → Ex F' H' → G H')
    (kn : ∀ ρ' F' H' σ', I n ρ' → At K t F0 H0 F' H' σ' ρ' → Ex F F' → D.nx σ' H')
    (hs : ∀ k x σ' ρ' F1 H1 H2 (Nx : L2.St → Hp → Prop), k < n → I k ρ' → At K t F0 H0 F1 H1 σ' ρ' → Ex F F1 → Y k H1 x H2 →
      (∀ ρ2 F2 H3 σ2, I (k + 1) ρ2 → At K t F0 H0 F2 H3 σ2 ρ2 → Ex F F2 → Nx σ2 H3) → g x σ' H2 fun σ2 H3 => t1 { D with nx := Nx, ct := Nx, bk := D.nx } σ2 H3) :
    ∃ W : Nat → Nat → L2.St → Hp → Prop, (∃ m, W 0 m σ H) ∧ ∀ i m σ H, W i m σ H →
      (J.stop i H ∧ D.nx σ H) ∨ (J.go i H ∧ ∃ N : L2.St → Hp → Prop, (∀ σ' H', N σ' H' → ∃ m', m' < m ∧ W (i + 1) m' σ' H') ∧ ∀ x H', J.yld i H x H' → g x σ H' fun σ2 H2 => t1 { D with nx := N, ct := N, bk := D.nx } σ2 H2) := by
  refine for_it w (fun k σ' H' => ∃ F' ρ', I k ρ' ∧ At K t F0 H0 F' H' σ' ρ' ∧ Ex F F') ⟨F, ρ, h0, A, Ex.refl F⟩ (fun k σ' H' _ ⟨F', ρ', _, A', e⟩ => hG F' H' e A'.fh) ?_ fun σ' H' ⟨F', ρ', q, A', e⟩ => kn ρ' F' H' σ' q A' e
  rintro k x σ' H1 H2 hk ⟨F1, ρ', q, A1, e1⟩ y
  exact hs k x σ' ρ' F1 H1 H2 _ hk q A1 e1 y fun ρ2 F2 H3 σ2 q2 A2 e2 => ⟨F2, ρ2, q2, A2, e2⟩
/-- for x in a list -/
theorem DS_forL (h : DE K t te ρ fun x => ∃ ds, x = .list ds ∧ ∃ I : Nat → Rho → Prop, I 0 ρ ∧ (∀ k d ρ', ds[k]? = some d → I k ρ' → DS K t t1 (ρ'.set i (.sh d)) (I (k + 1)) R N (I (k + 1))) ∧ ∀ ρ', I ds.length ρ' → N ρ') :
    DS K t (tFor (iList K te) (gName i) t1) ρ N R B C := fun F0 H0 F H σ D A kn kr kb kc =>
  h F0 H0 F H σ A _ fun x v F1 H1 hq s1 z => by
    have A1 := A.step s1
    have e1 := s1.ff
    obtain ⟨ds, rfl, I, h0, hs, hd⟩ := hq
    cases z with
    | @lst a xs _ s1 s2 =>
      refine ⟨a, rfl, ⟨xs, Evl.ex_l A1.fh s1⟩, ?_⟩
      refine DS_for (walk_list (K := K) (xs := xs)) I A1 h0 (fun F' H' e e' => Evl.ex_l (e.trans e') s1) (fun ρ' F' H' σ' q A' e => kn ρ' F' H' σ' (hd ρ' (by rwa [s2.len] at q)) A' (e1.trans e)) ?_
      rintro k x σ' ρ' F2 H2 H3 Nx hk q A2 e2 ⟨rfl, hx⟩ kN
      obtain ⟨d, hd', zd⟩ := s2.get hx
      exact hs k d ρ' hd' q F0 H0 F2 _ _ _ (A2.set (i := i) (s := .sh d) ⟨x, rfl, zd.up e2⟩ fun _ e => by cases e) (fun r F' H' s q A' e => kN r F' H' s q A' (e2.trans e)) kr
        (fun r F' H' s q A' e => kn r F' H' s q A' ((e1.trans e2).trans e)) fun r F' H' s q A' e => kN r F' H' s q A' (e2.trans e)
theorem forR_core {F0 H0 F H : Hp} {σ : L2.St} {D : Ends} {lo : Int} {n : Nat} {I : Nat → Rho → Prop} (A : At K t F0 H0 F H σ ρ) (h0 : I 0 ρ) (hs : ∀ k ρ', k < n → I k ρ' → DS K t t1 (ρ'.set i (.sh (.int (lo + k)))) (I (k + 1)) R N (I (k + 1))) (hd : ∀ ρ', I n ρ' → N ρ')
    (kn : ∀ ρ' F' H' σ', N ρ' → At K t F0 H0 F' H' σ' ρ' → Ex F F' → D.nx σ' H') (kr : ∀ d v F' H', R d → Gr t F0 H0 F' H' → TpOk t F' H' → Dq K F' d v → D.rt v H') :
    ∃ W : Nat → Nat → L2.St → Hp → Prop, (∃ m, W 0 m σ H) ∧ ∀ j m σ H, W j m σ H →
      ((Itr lo n).stop j H ∧ D.nx σ H) ∨ ((Itr lo n).go j H ∧ ∃ N : L2.St → Hp → Prop, (∀ σ' H', N σ' H' → ∃ m', m' < m ∧ W (j + 1) m' σ' H') ∧ ∀ x H', (Itr lo n).yld j H x H' → gName i x σ H' fun σ2 H2 => t1 { D with nx := N, ct := N, bk := D.nx } σ2 H2) := by
  refine DS_for (walk_range (lo := lo) (n := n)) I A h0 (fun _ _ _ _ => trivial) (fun ρ' F' H' σ' q A' e => kn ρ' F' H' σ' (hd ρ' q) A' e) ?_
  rintro k x σ' ρ' F2 H2 H3 Nx hk q A2 e2 ⟨rfl, rfl⟩ kN
  exact hs k ρ' hk q F0 H0 F2 _ _ _ (A2.set (i := i) (s := .sh _) ⟨_, rfl, .int _⟩ fun _ e => by cases e) (fun r F' H' s q A' e => kN r F' H' s q A' (e2.trans e)) kr
    (fun r F' H' s q A' e => kn r F' H' s q A' (e2.trans e)) fun r F' H' s q A' e => kN r F' H' s q A' (e2.trans e)
/-- for x in range(n) -/
theorem DS_forR1 {tr : TA} (h : DA K t tr ρ fun xs => ∃ j : Int, xs = [.int j] ∧ ∃ I : Nat → Rho → Prop, I 0 ρ ∧
      (∀ k ρ', k < j.toNat → I k ρ' → DS K t t1 (ρ'.set i (.sh (.int (0 + k)))) (I (k + 1)) R N (I (k + 1))) ∧ ∀ ρ', I j.toNat ρ' → N ρ') : DS K t (tFor (iRg1 tr) (gName i) t1) ρ N R B C := fun F0 H0 F H σ D A kn kr kb kc =>
  h F0 H0 F H σ A _ fun xs vs F1 H1 hq s1 z => by
    have A1 := A.step s1
    have e1 := s1.ff
    obtain ⟨j, rfl, I, h0, hs, hd⟩ := hq
    obtain ⟨v, rfl, z1⟩ := dqs1 z
    cases z1
    exact ⟨j, rfl, forR_core A1 h0 hs hd (fun r F' H' s q A' e => kn r F' H' s q A' (e1.trans e)) kr⟩
theorem DS_forR2 {tr : TA} (h : DA K t tr ρ fun xs => ∃ l j : Int, xs = [.int l, .int j] ∧ ∃ I : Nat → Rho → Prop, I 0 ρ ∧
      (∀ k ρ', k < (j - l).toNat → I k ρ' → DS K t t1 (ρ'.set i (.sh (.int (l + k)))) (I (k + 1)) R N (I (k + 1))) ∧ ∀ ρ', I (j - l).toNat ρ' → N ρ') : DS K t (tFor (iRg2 tr) (gName i) t1) ρ N R B C := fun F0 H0 F H σ D A kn kr kb kc =>
  h F0 H0 F H σ A _ fun xs vs F1 H1 hq s1 z => by
    have A1 := A.step s1
    have e1 := s1.ff
    obtain ⟨l, j, rfl, I, h0, hs, hd⟩ := hq
    obtain ⟨v, w, rfl, z1, z2⟩ := dqs2 z
    cases z1
    cases z2
    exact ⟨l, j, rfl, forR_core A1 h0 hs hd (fun r F' H' s q A' e => kn r F' H' s q A' (e1.trans e)) kr⟩
/-- while: an invariant by a measure -/
theorem DS_while {c : TT} (I : Nat → Rho → Prop) (m : Nat) (h0 : I m ρ) (hs : ∀ m ρ', I m ρ' → DT K t c ρ' fun b => if b = true then DS K t t1 ρ' (fun ρ2 => ∃ m', m' < m ∧ I m' ρ2) R N (fun ρ2 => ∃ m', m' < m ∧ I m' ρ2) else N ρ') :
    DS K t (tWhile c t1) ρ N R B C := fun F0 H0 F H σ D A kn kr kb kc => by
  refine ⟨fun m σ' H' => ∃ F' ρ', I m ρ' ∧ At K t F0 H0 F' H' σ' ρ' ∧ Ex F F', ⟨m, F, ρ, h0, A, Ex.refl F⟩, ?_⟩
  rintro m σ' H' ⟨F1, ρ', q, A1, e1⟩
  refine hs m ρ' q F0 H0 F1 H' σ' A1 _ fun b F2 H2 hb s2 => ?_
  have A2 := A1.step s2
  have e2 := s2.ff
  cases b with
  | false => exact kn ρ' F2 H2 σ' hb A2 (e1.trans e2)
  | true =>
    refine ⟨fun σ2 H3 => ∃ m' F3 ρ3, m' < m ∧ I m' ρ3 ∧ At K t F0 H0 F3 H3 σ2 ρ3 ∧ Ex F F3, fun σ2 H3 ⟨m', F3, ρ3, l, q3, A3, e3⟩ => ⟨m', l, F3, ρ3, q3, A3, e3⟩, ?_⟩
    exact hb F0 H0 F2 H2 σ' _ A2 (fun r F' H' s ⟨m', l, q⟩ A' e => ⟨m', F', r, l, q, A', (e1.trans e2).trans e⟩) kr (fun r F' H' s q A' e => kn r F' H' s q A' ((e1.trans e2).trans e)) fun r F' H' s ⟨m', l, q⟩ A' e => ⟨m', F', r, l, q, A', (e1.trans e2).trans e⟩

/-! ### comprehensions -/
theorem Stp.write {F H F' H' : Hp} {D : Addr} {o : HO} (e : Stp t F H F' H') (nt : t ≠ some D) (n : H D = none) (m : F' D = none) : Stp t F H F' (upd H' D o) where
  g := ⟨e.ff, fun a u w q => by
    rw [upd_ne (fun z => by rw [z, n] at q; cases q)]
    exact e.g.hh a u w q, fun a u q => by
    rw [upd_ne (fun z => by rw [z, m] at q; cases q)]
    exact e.g.fh a u q, e.g.nw⟩
  tp := fun a q => by
    obtain ⟨w1, x, y, z, w2, w3⟩ := e.tp a q
    refine ⟨w1, x, y, z, ?_, w3⟩
    rw [upd_ne (fun h => nt (by rw [q, h]))]
    exact w2
/-- one turn's slots: what the target stores -/
structure Tn (K : PySem.W.Frag) (t : Option Addr) (ρ : Rho) (σ : L2.St) (own : List Nat) (g : TG) (x : V) (F1 H1 F2 H2 : Hp) (ρ2 : Rho) : Prop where
  ex : ∃ σ2, (∀ Qn : L2.St → Hp → Prop, Qn σ2 H2 → g x (wipe σ own) H2 Qn) ∧ wipe σ2 own = wipe σ own ∧ ∀ F0 H0, At K t F0 H0 F1 H1 σ ρ → At K t F0 H0 F2 H2 σ2 ρ2
  st : Stp t F1 H1 F2 H2
theorem DL_lc {g : TG} {own : List Nat} {tt : TT} {J : It} {n : Nat} {G : Hp → Prop} {Y : Nat → Hp → V → Hp → Prop} {F0 H0 F H : Hp} {σ : L2.St} {QK : VK} {D : Addr} (w : Walk J n G Y) (I : Nat → List PyData → Prop) (A : At K t F0 H0 F H σ ρ) (nD : H D = none)
    (h0 : I 0 []) (hG : ∀ F' H', Ex F F' → Ex F' H' → G H')
    (hY : ∀ k x F1 H1 H2, k < n → At K t F0 H0 F1 H1 σ ρ → Ex F F1 → Y k H1 x H2 → ∃ F2 ρ2, Tn K t ρ σ own g x F1 H1 F2 H2 ρ2 ∧ ∀ acc, I k acc → acc.length < 100000 ∧ DT K t tt ρ2 fun b => if b = true then DE K t te ρ2 (fun y => I (k + 1) (acc ++ [y])) else I (k + 1) acc)
    (k : ∀ ds xs F' H', I n ds → Stp t F H F' H' → F' D = none → H' D = some (.lst xs) → Dqs K F' ds xs → QK (.ref D) H') :
    ∃ W : Nat → Nat → Hp → Prop, (∃ m, W 0 m (upd H D (.lst []))) ∧ ∀ j m H, W j m H →
      (J.stop j H ∧ QK (.ref D) H) ∨ (J.go j H ∧ ∃ Nx : Hp → Prop, (∀ H', Nx H' → ∃ m', m' < m ∧ W (j + 1) m' H') ∧ ∀ x H', J.yld j H x H' → g x (wipe σ own) H' fun σ2 H2 => wipe σ2 own = wipe σ own ∧ tt σ2 H2 fun b H3 =>
        if b = true then te σ2 H3 fun y H4 => ∃ acc, H4 D = some (.lst acc) ∧ acc.length < sizeLine ∧ Nx (upd H4 D (.lst (acc ++ [y]))) else Nx H3) := by
  refine lc_it w (fun k H' => ∃ F' ds xs, I k ds ∧ Stp t F H F' H' ∧ F' D = none ∧ H' D = some (.lst xs) ∧ Dqs K F' ds xs) ⟨F, [], [], h0, A.stp (Gr.free A.fh nD), ex_none A.fh nD, upd_same, .nil⟩
    (fun k H' _ ⟨F', ds, xs, _, e, _⟩ => hG F' H' e.ff e.g.fh) ?_ fun H' ⟨F', ds, xs, q, e, n1, n2, z⟩ => k ds xs F' H' q e n1 n2 z
  rintro k x H1 H2 hk ⟨F1, ds, xs, q, e1, n1, n2, z⟩ y
  have A1 := A.step e1
  obtain ⟨F2, ρ2, ⟨⟨σ2, hg, hw, hA⟩, e2⟩, hq⟩ := hY k x F1 H1 H2 hk A1 e1.ff y
  obtain ⟨hl, hq⟩ := hq ds q
  have A2 := hA F0 H0 A1
  have nt : t ≠ some D := (A.fs nD).tap
  have keep : ∀ {F3 H3 F4 H4 : Hp} {ys : List V}, Stp t F3 H3 F4 H4 → F3 D = none → H3 D = some (.lst ys) → F4 D = none ∧ H4 D = some (.lst ys) := fun {F3 H3 F4 H4 ys} e a b => by
    refine ⟨?_, e.g.hh D _ nt b⟩
    cases u : F4 D with
    | none => rfl
    | some o =>
      have := e.g.nw D o u a
      rw [b] at this
      cases this
  obtain ⟨l1, l2⟩ := keep e2 n1 n2
  refine hg _ ⟨hw, hq F0 H0 F2 H2 _ A2 _ fun b F3 H3 hb e3 => ?_⟩
  obtain ⟨m1, m2⟩ := keep e3 l1 l2
  cases b with
  | false => exact ⟨F3, ds, xs, hb, (e1.trans e2).trans e3, m1, m2, (z.up e2.ff).up e3.ff⟩
  | true =>
    refine hb F0 H0 F3 H3 _ (A2.step e3) _ fun y u F4 H4 hy e4 zy => ?_
    obtain ⟨r1, r2⟩ := keep e4 m1 m2
    exact ⟨xs, r2, Evl.sz_lt (by rw [z.len]; exact hl), F4, _, _, hy, (((e1.trans e2).trans e3).trans e4).write nt nD r1, r1, upd_same, (((z.up e2.ff).up e3.ff).up e4.ff).app (.cons zy .nil)⟩
theorem tn_name {σ : L2.St} {x : V} {d : PyData} {F1 H1 : Hp} (z : Dq K F1 d x) (e : Stp t F1 H1 F1 H1) : Tn K t ρ σ [i] (gName i) x F1 H1 F1 H1 (ρ.set i (.sh d)) := by
  refine ⟨⟨σ.set i (some x), fun Qn q => ?_, ?_, fun F0 H0 A => A.set (s := .sh d) ⟨x, rfl, z⟩ fun _ e => by cases e⟩, e⟩
  · show Qn ((σ.set i none).set i (some x)) H1
    rw [List.set_set]
    exact q
  · show (σ.set i (some x)).set i none = σ.set i none
    rw [List.set_set]
/-- [e for x in a list if c] -/
theorem DL_lcL {tl : TE} {tt : TT} {Q : List PyData → Prop} (h : DE K t tl ρ fun x => ∃ ds, x = .list ds ∧ ∃ I : Nat → List PyData → Prop, I 0 [] ∧
      (∀ k d acc, ds[k]? = some d → I k acc → acc.length < 100000 ∧ DT K t tt (ρ.set i (.sh d)) fun b => if b = true then DE K t te (ρ.set i (.sh d)) (fun y => I (k + 1) (acc ++ [y])) else I (k + 1) acc) ∧ ∀ acc, I ds.length acc → Q acc) :
    DL K t (tLc (iList K tl) (gName i) tt te [i]) ρ Q := fun F0 H0 F H σ A QK k =>
  h F0 H0 F H σ A _ fun x v F1 H1 hq e1 z => by
    have A1 := A.step e1
    obtain ⟨ds, rfl, I, h0, hs, hd⟩ := hq
    cases z with
    | @lst a xs _ s1 s2 =>
      refine ⟨a, rfl, ⟨xs, Evl.ex_l A1.fh s1⟩, fun D nD => ?_⟩
      refine DL_lc (own := [i]) (g := gName i) (walk_list (K := K) (xs := xs)) I A1 nD h0 (fun F' H' e e' => Evl.ex_l (e.trans e') s1) (fun m x F2 H2 H3 hm A2 e2 y => ?_) fun ds' ys F' H' q e n1 n2 z => k ds' D ys F' H' (hd ds' (by rwa [s2.len] at q)) (e1.trans e) (e1.back nD) n1 n2 z
      obtain ⟨rfl, hx⟩ := y
      obtain ⟨d, hd', zd⟩ := s2.get hx
      exact ⟨F2, _, tn_name (zd.up e2) A2.rfl, fun acc q => hs m d acc hd' q⟩
/-- [e for x in range(..) if c] -/
theorem DL_lcR {tt : TT} {Q : List PyData → Prop} {F0 H0 F H : Hp} {σ : L2.St} {QK : VK} {lo : Int} {n : Nat} (A : At K t F0 H0 F H σ ρ) (I : Nat → List PyData → Prop) (h0 : I 0 [])
    (hs : ∀ k acc, k < n → I k acc → acc.length < 100000 ∧ DT K t tt (ρ.set i (.sh (.int (lo + k)))) fun b => if b = true then DE K t te (ρ.set i (.sh (.int (lo + k)))) (fun y => I (k + 1) (acc ++ [y])) else I (k + 1) acc)
    (k : ∀ ds D xs F' H', I n ds → Stp t F H F' H' → H D = none → F' D = none → H' D = some (.lst xs) → Dqs K F' ds xs → QK (.ref D) H') (D : Addr) (nD : H D = none) :
    ∃ W : Nat → Nat → Hp → Prop, (∃ m, W 0 m (upd H D (.lst []))) ∧ ∀ j m H, W j m H →
      ((Itr lo n).stop j H ∧ QK (.ref D) H) ∨ ((Itr lo n).go j H ∧ ∃ Nx : Hp → Prop, (∀ H', Nx H' → ∃ m', m' < m ∧ W (j + 1) m' H') ∧ ∀ x H', (Itr lo n).yld j H x H' → gName i x (wipe σ [i]) H' fun σ2 H2 => wipe σ2 [i] = wipe σ [i] ∧ tt σ2 H2 fun b H3 =>
        if b = true then te σ2 H3 fun y H4 => ∃ acc, H4 D = some (.lst acc) ∧ acc.length < sizeLine ∧ Nx (upd H4 D (.lst (acc ++ [y]))) else Nx H3) := by
  refine DL_lc (own := [i]) (g := gName i) (walk_range (lo := lo) (n := n)) I A nD h0 (fun _ _ _ _ => trivial) (fun m x F2 H2 H3 hm A2 e2 y => ?_) fun ds' ys F' H' q e n1 n2 z => k ds' D ys F' H' q e nD n1 n2 z
  obtain ⟨rfl, rfl⟩ := y
  exact ⟨F2, _, tn_name (.int _) A2.rfl, fun acc q => hs m acc hm q⟩
theorem DL_lcR1 {tr : TA} {tt : TT} {Q : List PyData → Prop} (h : DA K t tr ρ fun xs => ∃ j : Int, xs = [.int j] ∧ ∃ I : Nat → List PyData → Prop, I 0 [] ∧
      (∀ k acc, k < j.toNat → I k acc → acc.length < 100000 ∧ DT K t tt (ρ.set i (.sh (.int (0 + k)))) fun b => if b = true then DE K t te (ρ.set i (.sh (.int (0 + k)))) (fun y => I (k + 1) (acc ++ [y])) else I (k + 1) acc) ∧ ∀ acc, I j.toNat acc → Q acc) :
    DL K t (tLc (iRg1 tr) (gName i) tt te [i]) ρ Q := fun F0 H0 F H σ A QK k =>
  h F0 H0 F H σ A _ fun xs vs F1 H1 hq e1 z => by
    obtain ⟨j, rfl, I, h0, hs, hd⟩ := hq
    obtain ⟨v, rfl, z1⟩ := dqs1 z
    cases z1
    exact ⟨j, rfl, fun D nD => DL_lcR (Q := Q) (A.step e1) I h0 hs (fun ds' D ys F' H' q e n n1 n2 z => k ds' D ys F' H' (hd ds' q) (e1.trans e) (e1.back n) n1 n2 z) D nD⟩
/-! ### calls -/
/-- the promise of a def over data that changes nothing -/
def spP (K : PySem.W.Frag) (W : List PyData → (PyData → Prop) → Prop) : Sp := fun vs H Q _ => ∃ F ds R, Ex F H ∧ Dqs K F ds vs ∧ W ds R ∧ ∀ d v F' H', R d → Gr none F H F' H' → Dq K F' d v → Q v H'
/-- the same, drawing from the list at its first argument -/
def spT (K : PySem.W.Frag) (W : List PyData → (PyData → Prop) → Prop) : Sp := fun vs H Q _ => ∃ a ws F ds R, vs = .ref a :: ws ∧ Ex F H ∧ TpOk (some a) F H ∧ Dqs K F ds ws ∧ W ds R ∧ ∀ d v F' H', R d → Gr (some a) F H F' H' → TpOk (some a) F' H' → Dq K F' d v → Q v H'
theorem DE_call {W : List PyData → (PyData → Prop) → Prop} {E : XK} {tr : TA} {Q : PyData → Prop} (h : DA K t tr ρ fun ds => W ds Q) : DE K t (tCall (spP K W) [] E tr) ρ Q := fun F0 H0 F H σ A QK k =>
  h F0 H0 F H σ A _ fun ds vs F1 H1 hq e1 z => ⟨F1, ds, Q, e1.g.fh, by rw [List.append_nil]; exact z, hq, fun d v F' H' q g zd => k d v F' H' q (e1.trans ((A.step e1).stp g)) zd⟩
theorem DE_callT {a : Addr} {W : List PyData → (PyData → Prop) → Prop} {E : XK} {tr : TA} {Q : PyData → Prop} (hi : ρ[i]? = some .tp) (h : DA K (some a) tr ρ fun ds => W ds Q) : DE K (some a) (tCall (spT K W) [] E (tCons (tVar i) tr)) ρ Q := fun F0 H0 F H σ A QK k => by
  obtain ⟨o, e, b, hb, rfl⟩ := A.slot hi
  cases hb
  exact ⟨.ref a, e, h F0 H0 F H σ A _ fun ds vs F1 H1 hq e1 z => ⟨a, vs, F1, ds, Q, by rw [List.append_nil], e1.g.fh, e1.tp, z, hq, fun d v F' H' q g tp zd => k d v F' H' q (e1.trans ⟨g, tp⟩) zd⟩⟩
/-- a fresh list of draws is handed -/
def DTp (K : PySem.W.Frag) (te : TE) (ρ : Rho) : Prop := DL K none te ρ fun ds => ∃ x y z, ds = [.int x, .int y, .int z] ∧ Tap x y z
theorem DE_callNew {W : List PyData → (PyData → Prop) → Prop} {E : XK} {Q : PyData → Prop} (h : DTp K te ρ) (hw : W [] Q) : DE K none (tCall (spT K W) [] E (tCons te tNil)) ρ Q := fun F0 H0 F H σ A QK k =>
  h F0 H0 F H σ A _ fun ds p xs F1 H1 hq e1 n n1 n2 z => by
    obtain ⟨x, y, w, rfl, ht⟩ := hq
    have ez : xs = [.int x, .int y, .int w] := Dqs.ints (ns := [x, y, w]) z
    subst ez
    refine ⟨p, [], F1, [], Q, rfl, e1.g.fh, fun a ha => ?_, .nil, hw, fun d v F' H' q g tp zd => k d v F' H' q ?_ zd⟩
    · cases ha
      exact ⟨n1, x, y, w, n2, ht⟩
    · refine ⟨⟨e1.ff.trans g.ff, fun a o _ q => g.hh a o (fun e => ?_) (e1.g.hh a o (by simp) q), g.fh, fun a o q w => ?_⟩, fun a q => by cases q⟩
      · cases e
        rw [n] at q
        cases q
      · cases u : F1 a with
        | some o' => exact e1.g.nw a o' u w
        | none => exact e1.back (g.nw a o q u)
theorem At.begin {N : List Str} {F H : Hp} {ds : List PyData} {vs : List V} (e : Ex F H) (z : Dqs K F ds vs) (hl : ds.length ≤ N.length) : At K none F H F H (L2.start N vs) (ds.map Sl.sh ++ List.replicate (N.length - ds.length) Sl.no) := by
  refine ⟨Gr.refl e, ?_, fun i o s h1 h2 => ?_, fun i j p es fs n h1 => ?_, fun a q => by cases q⟩
  · unfold L2.start
    simp [z.len]
  · unfold L2.start at h1
    by_cases hi : i < ds.length
    · rw [List.getElem?_append_left (by simpa [z.len] using hi), List.getElem?_map] at h1
      rw [List.getElem?_append_left (by simpa using hi), List.getElem?_map] at h2
      rw [List.getElem?_eq_getElem hi] at h2
      cases h2
      obtain ⟨v, hv, zd⟩ := z.at (i := i) (List.getElem?_eq_getElem hi)
      rw [hv] at h1
      cases h1
      exact ⟨v, Eq.refl _, zd⟩
    · rw [List.getElem?_append_right (by simpa using hi)] at h2
      have := List.mem_of_getElem? h2
      have := (List.mem_replicate.mp this).2
      subst this
      trivial
  · have := List.mem_of_getElem? h1
    rcases List.mem_append.mp this with m | m
    · obtain ⟨d, _, m⟩ := List.mem_map.mp m
      cases m
    · have := (List.mem_replicate.mp m).2
      cases this
/-- a body keeps the promise -/
theorem run_P {W : List PyData → (PyData → Prop) → Prop} {N : List Str} {vs : List V} {H : Hp} {Q : VK} {E : XK} {ts : TS} (h : spP K W vs H Q E)
    (b : ∀ ds R, W ds R → ds.length ≤ N.length ∧ DS K none ts (ds.map Sl.sh ++ List.replicate (N.length - ds.length) Sl.no) (fun _ => R .none) R NoR NoR) : ts { nx := fun _ H' => Q .non H', rt := Q } (L2.start N vs) H := by
  obtain ⟨F, ds, R, e, z, hW, k⟩ := h
  obtain ⟨hl, b⟩ := b ds R hW
  have A : At K none F H F H (L2.start N vs) (ds.map Sl.sh ++ List.replicate (N.length - ds.length) Sl.no) := by
    refine ⟨Gr.refl e, ?_, fun i o s h1 h2 => ?_, fun i j p es fs n h1 => ?_, fun a q => by cases q⟩
    · unfold L2.start
      simp [z.len]
    · unfold L2.start at h1
      by_cases hi : i < ds.length
      · rw [List.getElem?_append_left (by simpa [z.len] using hi), List.getElem?_map] at h1
        rw [List.getElem?_append_left (by simpa using hi), List.getElem?_map] at h2
        rw [List.getElem?_eq_getElem hi] at h2
        cases h2
        obtain ⟨v, hv, zd⟩ := z.at (i := i) (List.getElem?_eq_getElem hi)
        rw [hv] at h1
        cases h1
        exact ⟨v, rfl, zd⟩
      · rw [List.getElem?_append_right (by simpa using hi)] at h2
        have := List.mem_of_getElem? h2
        have := (List.mem_replicate.mp this).2
        subst this
        trivial
    · have := List.mem_of_getElem? h1
      rcases List.mem_append.mp this with m | m
      · obtain ⟨d, _, m⟩ := List.mem_map.mp m
        cases m
      · have := (List.mem_replicate.mp m).2
        cases this
  exact b F H F H _ _ A (fun ρ' F' H' σ' q A' _ => k _ _ F' H' q A'.gr .non) (fun d v F' H' q g _ zd => k d v F' H' q g zd) (fun _ _ _ _ q => q.elim) fun _ _ _ _ q => q.elim
theorem run_T {W : List PyData → (PyData → Prop) → Prop} {N : List Str} {vs : List V} {H : Hp} {Q : VK} {E : XK} {ts : TS} (h : spT K W vs H Q E)
    (b : ∀ a ds R, W ds R → ds.length + 1 ≤ N.length ∧ DS K (some a) ts (Sl.tp :: ds.map Sl.sh ++ List.replicate (N.length - (ds.length + 1)) Sl.no) (fun _ => R .none) R NoR NoR) : ts { nx := fun _ H' => Q .non H', rt := Q } (L2.start N vs) H := by
  obtain ⟨a, ws, F, ds, R, rfl, e, tp, z, hW, k⟩ := h
  obtain ⟨hl, b⟩ := b a ds R hW
  have A : At K (some a) F H F H (L2.start N (.ref a :: ws)) (Sl.tp :: ds.map Sl.sh ++ List.replicate (N.length - (ds.length + 1)) Sl.no) := by
    refine ⟨Gr.refl e, ?_, fun i o s h1 h2 => ?_, fun i j p es fs n h1 => ?_, tp⟩
    · unfold L2.start
      simp [z.len]
    · unfold L2.start at h1
      cases i with
      | zero =>
        cases h1
        cases h2
        exact ⟨a, rfl, rfl⟩
      | succ i =>
        have h1 : (ws.map some ++ List.replicate (N.length - (ws.length + 1)) none)[i]? = some o := h1
        have h2 : (ds.map Sl.sh ++ List.replicate (N.length - (ds.length + 1)) Sl.no)[i]? = some s := h2
        by_cases hi : i < ds.length
        · rw [List.getElem?_append_left (by simpa [z.len] using hi), List.getElem?_map] at h1
          rw [List.getElem?_append_left (by simpa using hi), List.getElem?_map] at h2
          rw [List.getElem?_eq_getElem hi] at h2
          cases h2
          obtain ⟨v, hv, zd⟩ := z.at (i := i) (List.getElem?_eq_getElem hi)
          rw [hv] at h1
          cases h1
          exact ⟨v, rfl, zd⟩
        · rw [List.getElem?_append_right (by simpa using hi)] at h2
          have := List.mem_of_getElem? h2
          have := (List.mem_replicate.mp this).2
          subst this
          trivial
    · have := List.mem_of_getElem? h1
      rcases List.mem_append.mp this with m | m
      · rcases List.mem_cons.mp m with m | m
        · cases m
        · obtain ⟨d, _, m⟩ := List.mem_map.mp m
          cases m
      · have := (List.mem_replicate.mp m).2
        cases this
  exact b F H F H _ _ A (fun ρ' F' H' σ' q A' _ => k _ _ F' H' q A'.gr A'.tp .non) (fun d v F' H' q g tp zd => k d v F' H' q g tp zd) (fun _ _ _ _ q => q.elim) fun _ _ _ _ q => q.elim
end
end Cf
namespace Cf
open PySem PySem.Spec PyProof.Rows L2
open Evl (Ex)

/-! ### operators that serve several kinds -/
theorem opr_or {X : Cx} {f : Value → Value → Sem Value} {r r' : R2} (h : OpR X f r) (h' : OpR X f r') : OpR X f (fun x y H Q => r x y H Q ∨ r' x y H Q) := fun pins s σ H x y v u Q I rx ry q =>
  q.elim (fun q => h pins s σ H x y v u Q I rx ry q) fun q => h' pins s σ H x y v u Q I rx ry q
theorem callr_or {X : Cx} {f : Value} {r r' : List V → Hp → VK → Prop} (h : CallR X f r) (h' : CallR X f r') : CallR X f (fun x H Q => r x H Q ∨ r' x H Q) := fun pins s σ H x us Q I rx q =>
  q.elim (fun q => h pins s σ H x us Q I rx q) fun q => h' pins s σ H x us Q I rx q
theorem plain_is {h : Heap} {a : Addr} {its : Array Value} (p : PlainL h a its) : h.IsList a its := by
  obtain ⟨o, n, h1, h2, _, h3⟩ := p
  exact ⟨o, h1, h2, n, h3⟩
def rCatL (K : PySem.W.Frag) : R2 := fun x y H Q => ∃ l b xs zs, x = .ref l ∧ y = .ref b ∧ SqL K H l xs ∧ SqL K H b zs ∧ xs.length + zs.length ≤ sizeLine ∧ ∀ p, H p = none → Q (.ref p) (upd H p (.lst (xs ++ zs)))
theorem op_catL {X : Cx} : OpR X (binaryOp .Add) (rCatL X.K) := by
  intro pins s σ H x y v u Q I rx ry h
  obtain ⟨l, b, xs, zs, rfl, rfl, h1, h2, hz, q⟩ := h
  cases rx
  cases ry
  obtain ⟨its, r1, p1, _⟩ := I.list h1
  obtain ⟨its2, r2, p2, _⟩ := I.list h2
  obtain ⟨⟨c1, d1, a1, s1⟩, o1, k1, n1, e1⟩ := plain_is p1
  obtain ⟨⟨c2, d2, a2, s2⟩, o2, k2, n2, e2⟩ := plain_is p2
  simp only at k1 e1 k2 e2
  subst k1 e1 k2 e2
  have hs : its.toArray.size + its2.toArray.size ≤ sizeLine := by
    rw [List.size_toArray, List.size_toArray, ← r1.length, ← r2.length]
    exact hz
  refine concat_meets ⟨_, o1, rfl⟩ ⟨_, o2, rfl⟩ noFill_list_add seq_list_add PySem.F.slot_list_add PySem.F.entry_list_add (PySem.F.args_list_add_2 _ _)
    (list_addW l b its.toArray its2.toArray n1 n2 d1 d2 s1 s2 hs) ⟨o1, o2, ?_⟩
  have e : its.toArray ++ its2.toArray = (its ++ its2).toArray := by simp
  rw [e]
  exact ⟨.ref _, _, I.lnew (t' := s.toks) (r1.append r2) (by rw [List.length_append]; exact hz), rfl, q _ I.fresh⟩

theorem op_len_eq {X : Cx} (hu : X.A.units + 64 < cLine) : OpR X (compareOp .Eq) (rLen X.K false) := by
  intro pins s σ H x y v u Q I rx ry h
  obtain ⟨l, b, xs, zs, rfl, rfl, h1, h2, hz, q⟩ := h
  cases rx
  cases ry
  obtain ⟨its, r1, p1, _⟩ := I.list h1
  obtain ⟨its2, r2, p2, _⟩ := I.list h2
  refine SeqAt.eq_list_lengthsAt (plain_is p1) (plain_is p2) ?_ (by omega) ⟨.bl _, H, I, rfl, q⟩
  rw [List.size_toArray, List.size_toArray, ← r1.length, ← r2.length]
  simpa using hz
theorem op_len_ne {X : Cx} (hu : X.A.units + 64 < cLine) : OpR X (compareOp .NotEq) (rLen X.K true) := by
  intro pins s σ H x y v u Q I rx ry h
  obtain ⟨l, b, xs, zs, rfl, rfl, h1, h2, hz, q⟩ := h
  cases rx
  cases ry
  obtain ⟨its, r1, p1, _⟩ := I.list h1
  obtain ⟨its2, r2, p2, _⟩ := I.list h2
  refine SeqAt.RcNeAt.lists_lengths (plain_is p1) (plain_is p2) ?_ (by omega) X.prog X.w _ _ ⟨.bl _, H, I, rfl, q⟩
  rw [List.size_toArray, List.size_toArray, ← r1.length, ← r2.length]
  simpa using hz
theorem op_str_eq {X : Cx} : OpR X (compareOp .Eq) (rStr id) := by
  intro pins s σ H x y v u Q I rx ry h
  obtain ⟨i, j, rfl, rfl, q⟩ := h
  refine op_eq pins s σ H _ _ v u Q I rx ry ⟨rfl, ?_⟩
  have e : decide (V.str i = V.str j) = decide (i = j) := decide_eq_decide.mpr ⟨fun e => by cases e; rfl, fun e => by rw [e]⟩
  rw [e]
  exact q
theorem op_str_ne {X : Cx} : OpR X (compareOp .NotEq) (rStr not) := by
  intro pins s σ H x y v u Q I rx ry h
  obtain ⟨i, j, rfl, rfl, q⟩ := h
  refine op_ne pins s σ H _ _ v u Q I rx ry ⟨rfl, ?_⟩
  have e : decide (V.str i = V.str j) = decide (i = j) := decide_eq_decide.mpr ⟨fun e => by cases e; rfl, fun e => by rw [e]⟩
  rw [e]
  exact q
theorem op_eqU {X : Cx} (hu : X.A.units + 64 < cLine) : OpR X (compareOp .Eq) (rEqU X.K) := opr_or (op_eqD hu) (opr_or (op_len_eq hu) op_str_eq)
theorem op_neU {X : Cx} (hu : X.A.units + 64 < cLine) : OpR X (compareOp .NotEq) (rNeU X.K) := opr_or (op_neD hu) (opr_or (op_len_ne hu) op_str_ne)
/-- + of ints, lists, tuples, texts -/
def rPlus (K : PySem.W.Frag) : R2 := fun x y H Q => rI0 (fun i j => .int (i + j)) x y H Q ∨ rCatL K x y H Q ∨ rCatT K x y H Q ∨ (∃ i j, x = .str i ∧ y = .str j ∧ i.length + j.length ≤ sizeLine ∧ Q (.str (i ++ j)) H)
theorem op_plus {X : Cx} : OpR X (binaryOp .Add) (rPlus X.K) := opr_or op_add (opr_or op_catL (opr_or op_catT op_add_str))
/-- * of ints, a list and an int -/
def rTimes : R2 := fun x y H Q => rI CMul (fun i j => .int (i * j)) x y H Q ∨ rRep x y H Q ∨ rI CMulW (fun i j => .int (i * j)) x y H Q
theorem op_times {X : Cx} : OpR X (binaryOp .Mult) rTimes := opr_or op_mul (opr_or op_rep op_mulW)
def rModI : R2 := rI (fun _ j => 0 < j) fun i j => .int (i % j)
theorem op_modI {X : Cx} : OpR X (binaryOp .Mod) rModI := op_mod
def rDivI : R2 := rI CDivW fun i j => .int (i / j)
theorem op_divI {X : Cx} : OpR X (binaryOp .FloorDiv) rDivI := op_fdivW
def rPowI : R2 := rI CPow fun i j => .int (i ^ j.toNat)
theorem op_powI {X : Cx} : OpR X (binaryOp .Pow) rPowI := op_pow
def rMinus : R2 := rI0 fun i j => .int (i - j)
theorem op_minus {X : Cx} : OpR X (binaryOp .Sub) rMinus := op_sub
def rLtI : R2 := rI0 fun i j => .bl (decide (i < j))
def rLeI : R2 := rI0 fun i j => .bl (decide (i ≤ j))
def rGtI : R2 := rI0 fun i j => .bl (decide (j < i))
def rGeI : R2 := rI0 fun i j => .bl (decide (j ≤ i))
theorem op_ltI {X : Cx} : OpR X (compareOp .Lt) rLtI := op_lt
theorem op_leI {X : Cx} : OpR X (compareOp .LtE) rLeI := op_le
theorem op_gtI {X : Cx} : OpR X (compareOp .Gt) rGtI := op_gt
theorem op_geI {X : Cx} : OpR X (compareOp .GtE) rGeI := op_ge
def rIsNone : R2 := fun x y H Q => y = .non ∧ Q (.bl (decide (x = .non))) H
def rNotNone : R2 := fun x y H Q => y = .non ∧ Q (.bl (!decide (x = .non))) H
/-- type(x) is T -/
def rIsTyB : R2 := fun x y H Q => ∃ a b, x = .ty a ∧ y = .ty b ∧ Q (.bl (decide (a = b))) H
theorem op_isTy1 {X : Cx} : OpR X (compareOp .Is) rIsTyB := op_isTyB
theorem op_notTy1 {X : Cx} : OpR X (compareOp .IsNot) rNT := by
  intro pins s σ H x y v u Q I rx ry h
  exact op_isNotTy pins s σ H x y v u Q I rx ry h
def rNegI : V → Hp → VK → Prop := rU fun i => .int (-i)
theorem un_negI {X : Cx} : UnR X (unaryOp .USub) rNegI := un_neg
/-- len of a list, a tuple, a text -/
def rLenA (K : PySem.W.Frag) : List V → Hp → VK → Prop := fun xs H Q => (∃ p ys, xs = [.ref p] ∧ (SqL K H p ys ∨ SqT K H p ys) ∧ Q (.int ys.length) H) ∨ (∃ z, xs = [.str z] ∧ z.length ≤ sizeLine ∧ Q (.int z.length) H)
theorem call_lenA {X : Cx} : CallR X (.builtin "len") (rLenA X.K) := callr_or call_len_seq call_len_str
def rIntA : List V → Hp → VK → Prop := fun xs H Q => (∃ i, xs = [.int i] ∧ Q (.int i) H) ∨ ∃ k, xs = [.bl k] ∧ Q (.int (if k then 1 else 0)) H
theorem call_intA {X : Cx} : CallR X (.type "int") rIntA := call_int1
def rListA (K : PySem.W.Frag) : List V → Hp → VK → Prop := fun xs H Q => ∃ p ys, xs = [.ref p] ∧ (SqL K H p ys ∨ SqT K H p ys) ∧ ∀ l, H l = none → Q (.ref l) (upd H l (.lst ys))
theorem call_listA {X : Cx} : CallR X (.type "list") (rListA X.K) := call_list_of
def rAbsA : List V → Hp → VK → Prop := fun xs H Q => ∃ i, xs = [.int i] ∧ Q (.int (if i < 0 then -i else i)) H
theorem call_absA {X : Cx} : CallR X (.builtin "abs") rAbsA := call_abs
def rMax2A : List V → Hp → VK → Prop := fun xs H Q => ∃ i j, xs = [.int i, .int j] ∧ Q (.int (if j > i then j else i)) H
theorem call_max2A {X : Cx} (hc : X.calm = true) : CallR X (.builtin "max") rMax2A := call_max2 hc
def rMin2A : List V → Hp → VK → Prop := fun xs H Q => ∃ i j, xs = [.int i, .int j] ∧ Q (.int (if j < i then j else i)) H
theorem call_min2A {X : Cx} (hc : X.calm = true) : CallR X (.builtin "min") rMin2A := call_min2 hc

section
variable {K : PySem.W.Frag} {t : Option Addr} {ρ : Rho} {i : Nat} {d : PyData} {te ta tb tc : TE} {Q : PyData → Prop} {x y : PyData}
theorem DR_plusI (h : ∃ i j, x = .int i ∧ y = .int j ∧ Q (.int (i + j))) : DR K (rPlus K) x y Q := DR_l (DR_I0 (g' := fun i j => .int (i + j)) (fun _ _ _ => .int _) h)
theorem DR_minus (h : ∃ i j, x = .int i ∧ y = .int j ∧ Q (.int (i - j))) : DR K rMinus x y Q := DR_I0 (g' := fun i j => .int (i - j)) (fun _ _ _ => .int _) h
theorem DR_timesI (h : ∃ i j, x = .int i ∧ y = .int j ∧ CMul i j ∧ Q (.int (i * j))) : DR K rTimes x y Q := DR_l (DR_I (g' := fun i j => .int (i * j)) (fun _ _ _ => .int _) h)
theorem DR_timesW (h : ∃ i j, x = .int i ∧ y = .int j ∧ CMulW i j ∧ Q (.int (i * j))) : DR K rTimes x y Q := DR_r (DR_r (DR_I (g' := fun i j => .int (i * j)) (fun _ _ _ => .int _) h))
theorem DR_mod (h : ∃ i j : Int, x = .int i ∧ y = .int j ∧ 0 < j ∧ Q (.int (i % j))) : DR K rModI x y Q := DR_I (g' := fun i j => .int (i % j)) (fun _ _ _ => .int _) h
theorem DR_div (h : ∃ i j : Int, x = .int i ∧ y = .int j ∧ CDivW i j ∧ Q (.int (i / j))) : DR K rDivI x y Q := DR_I (g' := fun i j => .int (i / j)) (fun _ _ _ => .int _) h
theorem DR_pow (h : ∃ i j : Int, x = .int i ∧ y = .int j ∧ CPow i j ∧ Q (.int (i ^ j.toNat))) : DR K rPowI x y Q := DR_I (g' := fun i j => .int (i ^ j.toNat)) (fun _ _ _ => .int _) h
theorem DR_lt (h : ∃ i j : Int, x = .int i ∧ y = .int j ∧ Q (.bool (decide (i < j)))) : DR K rLtI x y Q := DR_I0 (g' := fun i j => .bool (decide (i < j))) (fun _ _ _ => .bl _) h
theorem DR_le (h : ∃ i j : Int, x = .int i ∧ y = .int j ∧ Q (.bool (decide (i ≤ j)))) : DR K rLeI x y Q := DR_I0 (g' := fun i j => .bool (decide (i ≤ j))) (fun _ _ _ => .bl _) h
theorem DR_gt (h : ∃ i j : Int, x = .int i ∧ y = .int j ∧ Q (.bool (decide (j < i)))) : DR K rGtI x y Q := DR_I0 (g' := fun i j => .bool (decide (j < i))) (fun _ _ _ => .bl _) h
theorem DR_ge (h : ∃ i j : Int, x = .int i ∧ y = .int j ∧ Q (.bool (decide (j ≤ i)))) : DR K rGeI x y Q := DR_I0 (g' := fun i j => .bool (decide (j ≤ i))) (fun _ _ _ => .bl _) h
theorem DR_isN (h : y = .none ∧ Q (.bool (match x with | .none => true | _ => false))) : DR K rIsNone x y Q := fun v w F H e q1 q2 QK k => by
  obtain ⟨rfl, q⟩ := h
  cases q2
  refine ⟨rfl, k _ _ F H q (Gr.refl e) ?_⟩
  cases q1 <;> exact .bl _
theorem DR_notN (h : y = .none ∧ Q (.bool (match x with | .none => false | _ => true))) : DR K rNotNone x y Q := fun v w F H e q1 q2 QK k => by
  obtain ⟨rfl, q⟩ := h
  cases q2
  refine ⟨rfl, k _ _ F H q (Gr.refl e) ?_⟩
  cases q1 <;> exact .bl _
theorem DRL_cat {Q : List PyData → Prop} (h : ∃ ds es, x = .list ds ∧ y = .list es ∧ ds.length + es.length ≤ 100000 ∧ Q (ds ++ es)) : DRL K (rPlus K) x y Q := fun v w F H e q1 q2 QK k => by
  obtain ⟨ds, es, rfl, rfl, hl, q⟩ := h
  cases q1 with
  | @lst a xs _ s1 s2 =>
    cases q2 with
    | @lst b ys _ s3 s4 =>
      refine .inr (.inl ⟨a, b, xs, ys, rfl, rfl, Evl.ex_l e s1, Evl.ex_l e s3, Evl.sz_of (by rw [s2.len, s4.len]; exact hl), fun p n => ?_⟩)
      have g := Gr.free e (o := .lst (xs ++ ys)) n
      exact k _ p _ _ _ q g n (ex_none e n) upd_same (s2.app s4)
/-- a new list times an int -/
theorem rep_dqs {F : Hp} {ds : List PyData} {xs : List V} (h : Dqs K F ds xs) : ∀ n : Nat, Dqs K F (List.replicate n ds).flatten (List.replicate n xs).flatten
  | 0 => .nil
  | n + 1 => by
    rw [List.replicate_succ, List.replicate_succ, List.flatten_cons, List.flatten_cons]
    exact h.app (rep_dqs h n)
theorem DL_rep {Q : List PyData → Prop} (h : DL K t ta ρ fun ds => DE K t tb ρ fun y => ∃ z : Int, y = .int z ∧ -(2 ^ 62) ≤ z ∧ z < 2 ^ 62 ∧ ds.length * z.toNat ≤ 100000 ∧ Q (List.replicate z.toNat ds).flatten) : DL K t (tOp rTimes ta tb) ρ Q := fun F0 H0 F H σ A QK k =>
  h F0 H0 F H σ A _ fun ds p xs F1 H1 hb e1 n n1 n2 z => hb F0 H0 F1 H1 σ (A.step e1) _ fun y w F2 H2 hy e2 zy => by
    have A2 := (A.step e1).step e2
    obtain ⟨m, rfl, b1, b2, b3, q⟩ := hy
    cases zy
    have nt : t ≠ some p := (A.fs n).tap
    refine .inr (.inl ⟨p, m, xs, rfl, rfl, e2.g.hh p _ nt n2, by omega, by omega, Evl.sz_of (by rw [z.len]; exact b3), fun r hr => ?_⟩)
    have g := Gr.free A2.fh (o := .lst (List.replicate m.toNat xs).flatten) hr
    exact k _ r _ _ _ q ((e1.trans e2).trans (A2.stp g)) ((e1.trans e2).back hr) (ex_none A2.fh hr) upd_same (rep_dqs (z.up e2.ff) _)
theorem DU_neg (h : ∃ i : Int, x = .int i ∧ Q (.int (-i))) : DU K rNegI x Q := fun v F H e q1 QK k => by
  obtain ⟨i, rfl, q⟩ := h
  cases q1
  exact ⟨i, rfl, k _ _ F H q (Gr.refl e) (.int _)⟩
def lenD : PyData → Option Nat
  | .list ds => some ds.length
  | .tuple ds => some ds.length
  | .str z => if z.length ≤ 100000 then some z.length else none
  | _ => none
theorem DC_len {xs : List PyData} (h : ∃ x n, xs = [x] ∧ lenD x = some n ∧ Q (.int n)) : DC K (rLenA K) xs Q := fun vs F H e z QK k => by
  obtain ⟨x, n, rfl, hn, q⟩ := h
  obtain ⟨v, rfl, zx⟩ := dqs1 z
  cases zx with
  | @lst a xs ds s1 s2 =>
    cases hn
    exact .inl ⟨a, xs, rfl, .inl (Evl.ex_l e s1), by rw [s2.len]; exact k _ _ F H q (Gr.refl e) (.int _)⟩
  | @tup a xs ds s1 s2 =>
    cases hn
    exact .inl ⟨a, xs, rfl, .inr (Evl.ex_t e s1), by rw [s2.len]; exact k _ _ F H q (Gr.refl e) (.int _)⟩
  | str w =>
    have hn : (if w.length ≤ 100000 then some w.length else none) = some n := hn
    split at hn
    · rename_i hw
      cases hn
      exact .inr ⟨w, rfl, Evl.sz_of hw, k _ _ F H q (Gr.refl e) (.int _)⟩
    · cases hn
  | non => cases hn
  | bl => cases hn
  | int => cases hn
  | emp => cases hn
  | one => cases hn
theorem DE_lenOw {ds : List PyData} (h : ρ[i]? = some (.ow ds)) (q : Q (.int ds.length)) : DE K t (tCB (rLenA K) (tCons (tVar i) tNil)) ρ Q := fun F0 H0 F H σ A QK k => by
  obtain ⟨p, xs, e, h1, h2, h3, h4, h5⟩ := A.own h
  exact ⟨.ref p, e, .inl ⟨p, xs, rfl, .inl (.inl (.inl h1)), by rw [h5.len]; exact k _ _ F H q A.rfl (.int _)⟩⟩
theorem DC_int {xs : List PyData} (h : (∃ i, xs = [.int i] ∧ Q (.int i)) ∨ (∃ b : Bool, xs = [.bool b] ∧ Q (.int (if b then 1 else 0)))) : DC K rIntA xs Q := fun vs F H e z QK k => by
  rcases h with ⟨i, rfl, q⟩ | ⟨b, rfl, q⟩
  · obtain ⟨v, rfl, zx⟩ := dqs1 z
    cases zx
    exact .inl ⟨i, rfl, k _ _ F H q (Gr.refl e) (.int _)⟩
  · obtain ⟨v, rfl, zx⟩ := dqs1 z
    cases zx
    exact .inr ⟨b, rfl, k _ _ F H q (Gr.refl e) (.int _)⟩
theorem DCL_list {xs : List PyData} {Q : List PyData → Prop} (h : ∃ ds, (xs = [.list ds] ∨ xs = [.tuple ds]) ∧ Q ds) : DCL K (rListA K) xs Q := fun vs F H e z QK k => by
  obtain ⟨ds, h, q⟩ := h
  rcases h with rfl | rfl
  · obtain ⟨v, rfl, zx⟩ := dqs1 z
    cases zx with
    | @lst a xs ds s1 s2 => exact ⟨a, xs, rfl, .inl (Evl.ex_l e s1), fun p n => k _ p _ _ _ q (Gr.free e n) n (ex_none e n) upd_same s2⟩
  · obtain ⟨v, rfl, zx⟩ := dqs1 z
    cases zx with
    | @tup a xs ds s1 s2 => exact ⟨a, xs, rfl, .inr (Evl.ex_t e s1), fun p n => k _ p _ _ _ q (Gr.free e n) n (ex_none e n) upd_same s2⟩
theorem DC_abs {xs : List PyData} (h : ∃ i : Int, xs = [.int i] ∧ Q (.int (if i < 0 then -i else i))) : DC K rAbsA xs Q := fun vs F H e z QK k => by
  obtain ⟨i, rfl, q⟩ := h
  obtain ⟨v, rfl, zx⟩ := dqs1 z
  cases zx
  exact ⟨i, rfl, k _ _ F H q (Gr.refl e) (.int _)⟩
theorem DC_max2 {xs : List PyData} (h : ∃ i j : Int, xs = [.int i, .int j] ∧ Q (.int (max i j))) : DC K rMax2A xs Q := fun vs F H e z QK k => by
  obtain ⟨i, j, rfl, q⟩ := h
  obtain ⟨v, w, rfl, zx, zy⟩ := dqs2 z
  cases zx
  cases zy
  refine ⟨i, j, rfl, ?_⟩
  have em : (if j > i then j else i) = max i j := by
    split <;> omega
  rw [em]
  exact k _ _ F H q (Gr.refl e) (.int _)
theorem DC_min2 {xs : List PyData} (h : ∃ i j : Int, xs = [.int i, .int j] ∧ Q (.int (min i j))) : DC K rMin2A xs Q := fun vs F H e z QK k => by
  obtain ⟨i, j, rfl, q⟩ := h
  obtain ⟨v, w, rfl, zx, zy⟩ := dqs2 z
  cases zx
  cases zy
  refine ⟨i, j, rfl, ?_⟩
  have em : (if j < i then j else i) = min i j := by
    split <;> omega
  rw [em]
  exact k _ _ F H q (Gr.refl e) (.int _)
theorem DC_sum {xs : List PyData} (h : ∃ ns : List Int, xs = [.list (ns.map .int)] ∧ Q (.int ns.sum)) : DC K (rSum K) xs Q := fun vs F H e z QK k => by
  obtain ⟨ns, rfl, q⟩ := h
  obtain ⟨v, rfl, zx⟩ := dqs1 z
  cases zx with
  | @lst a xs ds s1 s2 =>
    have es := s2.ints
    subst es
    exact ⟨a, ns, rfl, Evl.ex_l e s1, k _ _ F H q (Gr.refl e) (.int _)⟩
theorem DC_all {xs : List PyData} (h : ∃ ns : List Bool, xs = [.list (ns.map .bool)] ∧ Q (.bool (ns.all id))) : DC K (rAll K) xs Q := fun vs F H e z QK k => by
  obtain ⟨ns, rfl, q⟩ := h
  obtain ⟨v, rfl, zx⟩ := dqs1 z
  cases zx with
  | @lst a xs ds s1 s2 =>
    have es := s2.bls
    subst es
    exact ⟨a, ns, rfl, Evl.ex_l e s1, k _ _ F H q (Gr.refl e) (.bl _)⟩
theorem DC_any {xs : List PyData} (h : ∃ ns : List Bool, xs = [.list (ns.map .bool)] ∧ Q (.bool (ns.any id))) : DC K (rAny K) xs Q := fun vs F H e z QK k => by
  obtain ⟨ns, rfl, q⟩ := h
  obtain ⟨v, rfl, zx⟩ := dqs1 z
  cases zx with
  | @lst a xs ds s1 s2 =>
    have es := s2.bls
    subst es
    exact ⟨a, ns, rfl, Evl.ex_l e s1, k _ _ F H q (Gr.refl e) (.bl _)⟩

/-! ### kinds -/
def tyD : PyData → String
  | .none => "NoneType"
  | .bool _ => "bool"
  | .int _ => "int"
  | .str _ => "str"
  | .list _ => "list"
  | .tuple _ => "tuple"
  | .dict _ => "dict"
theorem dq_ty {F H : Hp} (e : Ex F H) {v : V} (h : Dq K F x v) : TyX K H v (.type (tyD x)) := by
  cases h with
  | non => exact .base .non
  | bl b => exact .base (.bl b)
  | int i => exact .base (.int i)
  | str z => exact .base (.str z)
  | @lst a xs ds s1 s2 =>
    rcases s1 with (s1 | ⟨o, s1⟩) | ⟨o, its, n, s1, s3, _⟩
    · exact .base (.lst (e _ _ s1))
    · exact .base (.frz (e _ _ s1))
    · exact .kList s1 s3
  | @tup a xs ds s1 s2 =>
    rcases s1 with (s1 | ⟨o, s1⟩) | ⟨o, its, n, s1, s3, _⟩
    · exact .base (.tup (e _ _ s1))
    · exact .fTuple (e _ _ s1)
    · exact .kTuple s1 s3
  | emp s1 => exact .base (.dK (e _ _ s1))
  | one s1 => exact .base (.dK (e _ _ s1))
theorem dq_tyB {F H : Hp} (e : Ex F H) {v : V} (h : Dq K F x v) : TyB K H v (tyD x) := by
  cases h with
  | non => exact .non
  | bl b => exact .bl b
  | int i => exact .int i
  | str z => exact .str z
  | lst s1 s2 => exact .lst (Evl.ex_l e s1)
  | tup s1 s2 => exact .tup (Evl.ex_t e s1)
  | emp s1 => exact .dK (e _ _ s1)
  | one s1 => exact .dK (e _ _ s1)
/-- isinstance(x, T), T a built-in class: by its name -/
theorem DE_isi {n : String} (h : DE K t te ρ fun x => ∃ b, kitB (tyD x) n = some b ∧ Q (.bool b)) : DE K t (tCB (rIsi K) (tCons te (tCons (tC (.ty n)) tNil))) ρ Q := fun F0 H0 F H σ A QK k =>
  h F0 H0 F H σ A _ fun x v F1 H1 hq e1 z => by
    obtain ⟨b, hb, q⟩ := hq
    exact ⟨v, .ty n, _, _, b, rfl, .ty n, dq_ty e1.g.fh z, kit_ty hb, k _ _ F1 H1 q e1 (.bl b)⟩
/-- type(x) is T, type(x) is not T -/
theorem DE_tyIs {n : String} (h : DE K t te ρ fun x => Q (.bool (decide (tyD x = n)))) : DE K t (tOp rIsTyB (tCB (rTyp K) (tCons te tNil)) (tC (.ty n))) ρ Q := fun F0 H0 F H σ A QK k =>
  h F0 H0 F H σ A _ fun x v F1 H1 q e1 z => ⟨v, _, rfl, dq_tyB e1.g.fh z, _, n, rfl, rfl, k _ _ F1 H1 q e1 (.bl _)⟩
theorem DE_tyNot {n : String} (h : DE K t te ρ fun x => Q (.bool (!decide (tyD x = n)))) : DE K t (tOp rNT (tCB (rTyp K) (tCons te tNil)) (tC (.ty n))) ρ Q := fun F0 H0 F H σ A QK k =>
  h F0 H0 F H σ A _ fun x v F1 H1 q e1 z => ⟨v, _, rfl, dq_tyB e1.g.fh z, _, n, rfl, rfl, k _ _ F1 H1 q e1 (.bl _)⟩
/-- {} -/
theorem DE_emp (q : Q (.dict [])) : DE K t tDNewK ρ Q := fun F0 H0 F H σ A QK k p n => by
  have g := Gr.new A.fh (o := .dK []) n
  exact k _ _ _ _ q (A.stp g) (.emp upd_same)
end
end Cf
namespace Cf
open PySem PySem.Spec PyProof.Rows L2
open Evl (Ex)

/-! ### repr over data -/
section
variable {X : Cx} {pins : List (Addr × Obj)} {σ : L2.St} {H : Hp} {s : Shared}
theorem emp_dict (I : Inv X pins σ H s) {a : Addr} (h : H a = some (.dK [])) : (a == sysModules) = false ∧ ∃ o es n, s.heap.get? a = some o ∧ o.cls = .type "dict" ∧ o.data = .dict es n ∧ es.toList = [] := by
  obtain ⟨_, hs, vs, kv, o, es, ep, h1, h2, h3, _, h4, _⟩ := I.hok a _ h
  cases kv
  exact ⟨hs, o, es, ep, h1, h2.1, h3, List.length_eq_zero_iff.mp h4.length⟩
theorem one_dict (I : Inv X pins σ H s) {a : Addr} {k n : Int} (h : H a = some (.dK [(.inl k, .int n)])) : (a == sysModules) = false ∧ ∃ (o : Obj) (es : Array DictEntry) (m : Nat) (e : DictEntry) (tk tn : Tok), s.heap.get? a = some o ∧ o.cls = .type "dict" ∧ o.data = .dict es m ∧ es.toList = [e] ∧ e.key = .int k tk ∧ e.val = .int n tn := by
  obtain ⟨_, hs, vs, kv, o, es, ep, h1, h2, h3, _, h4, _⟩ := I.hok a _ h
  cases kv with
  | cons r t =>
    cases t
    obtain ⟨r1, r2⟩ := r
    obtain ⟨tn, r2⟩ := r2
    generalize he : es.toList = l at h4
    cases h4 with
    | cons e1 e2 t =>
      cases t
      rename_i e
      rw [← r1] at e1
      have e3 : keyIs (.inl k) e.key = true := e1
      rcases keyIs_shape e3 with ⟨i, tk, q1, q2⟩ | ⟨x, tk, q1, q2⟩
      · cases q1
        exact ⟨hs, o, es, ep, e, tk, tn, h1, h2.1, h3, he, q2, by rw [e2, r2]⟩
      · cases q1
mutual
theorem dq_reads (I : Inv X pins σ H s) : ∀ (d : PyData) (v : V) (u : Value), Dq X.K H d v → RelV v u → ∃ as, Reads s.heap u d as
  | .none, _, _, .non, r => by
    cases r
    exact ⟨_, Reads.none⟩
  | .bool _, _, _, .bl b, r => by
    cases r
    exact ⟨_, Reads.bool b⟩
  | .int _, _, _, .int i, r => by
    obtain ⟨t, rfl⟩ := r
    exact ⟨_, Reads.int i t⟩
  | .str _, _, _, .str x, r => by
    obtain ⟨t, rfl⟩ := r
    exact ⟨_, Reads.str x t⟩
  | .list ds, _, _, .lst h1 h2, r => by
    cases r
    obtain ⟨its, rv, ⟨o, n, ho, hc, _, hd⟩, _⟩ := I.list h1
    obtain ⟨as, hr⟩ := dqs_reads I ds _ its h2 rv
    exact ⟨_, Reads.list ho hc hd hr⟩
  | .tuple ds, _, _, .tup h1 h2, r => by
    cases r
    obtain ⟨its, rv, ⟨o, ho, hc, n, hd⟩, _⟩ := I.tuple h1
    obtain ⟨as, hr⟩ := dqs_reads I ds _ its h2 rv
    exact ⟨_, Reads.tuple ho hc hd hr⟩
  | .dict _, _, _, .emp h, r => by
    cases r
    obtain ⟨_, o, es, n, h1, h2, h3, h4⟩ := emp_dict I h
    refine ⟨_, Reads.dict (as := []) (bs := []) (kvs := []) h1 h2 h3 ?_ ?_⟩
    · rw [h4]
      exact .nil
    · rw [h4]
      exact .nil
  | .dict _, _, _, .one (k := k) (n := n) h, r => by
    cases r
    obtain ⟨_, o, es, m, e, tk, tn, h1, h2, h3, h4, h5, h6⟩ := one_dict I h
    refine ⟨_, Reads.dict (as := []) (bs := []) (kvs := [(.int k, .int n)]) h1 h2 h3 ?_ ?_⟩
    · rw [h4, List.map_cons, List.map_nil, h5]
      exact .cons (as := []) (bs := []) (Reads.int k tk) .nil
    · rw [h4, List.map_cons, List.map_nil, h6]
      exact .cons (as := []) (bs := []) (Reads.int n tn) .nil
theorem dqs_reads (I : Inv X pins σ H s) : ∀ (ds : List PyData) (vs : List V) (us : List Value), Dqs X.K H ds vs → Vals vs us → ∃ as, ReadsAll s.heap us ds as
  | [], _, _, .nil, r => by
    cases r
    exact ⟨_, ReadsAll.nil⟩
  | d :: ds, _, _, .cons h1 h2, r => by
    cases r with
    | cons r1 r2 =>
      obtain ⟨as, q1⟩ := dq_reads I d _ _ h1 r1
      obtain ⟨bs, q2⟩ := dqs_reads I ds _ _ h2 r2
      exact ⟨_, ReadsAll.cons q1 q2⟩
end
theorem rest_le {a b : Nat} {t : Nat} (h : a ≤ t) (h' : t ≤ b) : a ≤ b := Nat.le_trans h h'
mutual
theorem dq_repr {prog : Program} {w : World} (I : Inv X pins σ H s) : ∀ (d : PyData) (v : V) (u : Value), Dq X.K H d v → RelV v u → d.showable = true → d.shown.length ≤ sizeLine → ∃ bs, ReadAtMost s.heap d.depth bs ∧ ReprK prog w bs s.heap d.depth u d.shown
  | .none, _, _, .non, r, _, _ => by
    cases r
    exact ⟨[], (fun _ h => nomatch h), by simp only [PyData.shown]; exact .of_is ReprIs.none _ _ _⟩
  | .bool _, _, _, .bl b, r, _, _ => by
    cases r
    exact ⟨[], (fun _ h => nomatch h), by simp only [PyData.shown]; exact .of_is (ReprIs.bool b) _ _ _⟩
  | .int _, _, _, .int i, r, hs, _ => by
    obtain ⟨t, rfl⟩ := r
    exact ⟨[], (fun _ h => nomatch h), by simp only [PyData.shown]; exact .of_is (ReprIs.int t (by simpa [PyData.showable] using hs)) _ _ _⟩
  | .str _, _, _, .str x, r, _, hz => by
    obtain ⟨t, rfl⟩ := r
    exact ⟨[], (fun _ h => nomatch h), by simp only [PyData.shown]; exact .of_is (ReprIs.str x t (by simpa only [PyData.shown] using hz)) _ _ _⟩
  | .list ds, _, _, .lst (a := a) h1 h2, r, hs, hz => by
    have whole := dq_reads I (.list ds) _ _ (.lst h1 h2) r
    cases r
    obtain ⟨its, rv, ⟨o, n, ho, hc, _, hd⟩, _⟩ := I.list h1
    have hz2 : (listText (PyData.shownAll ds)).length ≤ sizeLine := by simpa only [PyData.shown] using hz
    obtain ⟨bs, hb, hk⟩ := dqs_repr (prog := prog) (w := w) I ds _ its h2 rv (by simpa [PyData.showable] using hs) (fun t ht => rest_le (listText_mem_le ht) hz2)
    obtain ⟨as, rd⟩ := whole
    have hna : a ∉ bs := not_mem_of_deeper rd (by simp only [PyData.depth]; omega) hb
    refine ⟨a :: bs, ReadAtMost.cons rd (by simp only [PyData.depth]; omega) hb, ?_⟩
    simp only [PyData.depth, PyData.shown]
    cases its with
    | nil =>
      have e0 : PyData.shownAll ds = [] := List.length_eq_zero_iff.mp (by simpa using hk.length_eq)
      rw [e0, listText_nil]
      exact ReprK.listEmpty ho hc hd
    | cons x l => exact ReprK.list ho hc hd hna (by simpa using hk.length_eq) fun i y e => hk.item i y (by simpa using e)
  | .tuple ds, _, _, .tup (a := a) h1 h2, r, hs, hz => by
    have whole := dq_reads I (.tuple ds) _ _ (.tup h1 h2) r
    cases r
    obtain ⟨its, rv, ⟨o, ho, hc, n, hd⟩, _⟩ := I.tuple h1
    have hz2 : (tupleText (PyData.shownAll ds)).length ≤ sizeLine := by simpa only [PyData.shown] using hz
    obtain ⟨bs, hb, hk⟩ := dqs_repr (prog := prog) (w := w) I ds _ its h2 rv (by simpa [PyData.showable] using hs) (fun t ht => rest_le (tupleText_mem_le ht) hz2)
    obtain ⟨as, rd⟩ := whole
    have hna : a ∉ bs := not_mem_of_deeper rd (by simp only [PyData.depth]; omega) hb
    refine ⟨a :: bs, ReadAtMost.cons rd (by simp only [PyData.depth]; omega) hb, ?_⟩
    simp only [PyData.depth, PyData.shown]
    exact ReprK.tuple ho hc hd hna hk
  | .dict _, _, _, .emp (a := a) h, r, hs, hz => by
    have whole := dq_reads I (.dict []) _ _ (.emp h) r
    cases r
    obtain ⟨ns, o, es, n, h1, h2, h3, h4⟩ := emp_dict I h
    obtain ⟨as, rd⟩ := whole
    have hna : a ∉ ([] : List Addr) := fun z => nomatch z
    refine ⟨[a], ReadAtMost.cons rd (n := 0) (by omega) (fun _ z => nomatch z), ?_⟩
    simp only [PyData.depth, PyData.shown]
    refine (ReprK.dict (d := 0) (as := []) (ps := []) h1 h2 h3 ns hna ?_).level_le (by omega)
    rw [h4]
    exact .nil
  | .dict _, _, _, .one (a := a) (k := k) (n := n) h, r, hs, hz => by
    have whole := dq_reads I (.dict [(.int k, .int n)]) _ _ (.one h) r
    cases r
    obtain ⟨ns, o, es, m, e, tk, tn, h1, h2, h3, h4, h5, h6⟩ := one_dict I h
    obtain ⟨as, rd⟩ := whole
    have hna : a ∉ ([] : List Addr) := fun z => nomatch z
    refine ⟨[a], ReadAtMost.cons rd (n := PyData.depth (.dict [(.int k, .int n)])) (by omega) (fun _ z => nomatch z), ?_⟩
    have hsk : PyData.showable (.int k) = true ∧ PyData.showable (.int n) = true := by simpa [PyData.showable, PyData.showableKv] using hs
    simp only [PyData.depth, PyData.depthKv, PyData.shown, PyData.shownKv]
    refine (ReprK.dict (d := 0) (as := []) h1 h2 h3 ns hna ?_).level_le (by omega)
    rw [h4]
    refine .cons ?_ ?_ .nil
    · rw [h5]
      exact .of_is (ReprIs.int tk (by simpa [PyData.showable] using hsk.1)) _ _ _
    · rw [h6]
      exact .of_is (ReprIs.int tn (by simpa [PyData.showable] using hsk.2)) _ _ _
theorem dqs_repr {prog : Program} {w : World} (I : Inv X pins σ H s) : ∀ (ds : List PyData) (vs : List V) (us : List Value), Dqs X.K H ds vs → Vals vs us → PyData.showableAll ds = true → (∀ t ∈ PyData.shownAll ds, t.length ≤ sizeLine) → ∃ bs, ReadAtMost s.heap (PyData.depthAll ds) bs ∧ ReprAllK prog w bs s.heap (PyData.depthAll ds) us (PyData.shownAll ds)
  | [], _, _, .nil, r, _, _ => by
    cases r
    exact ⟨[], (fun _ h => nomatch h), by simp only [PyData.shownAll]; exact .nil⟩
  | d :: ds, _, _, .cons h1 h2, r, hs, hz => by
    cases r with
    | cons r1 r2 =>
      have hs2 : d.showable = true ∧ PyData.showableAll ds = true := by simpa [PyData.showableAll] using hs
      obtain ⟨b1, m1, k1⟩ := dq_repr (prog := prog) (w := w) I d _ _ h1 r1 hs2.1 (hz _ (by simp only [PyData.shownAll]; exact List.mem_cons_self))
      obtain ⟨b2, m2, k2⟩ := dqs_repr (prog := prog) (w := w) I ds _ _ h2 r2 hs2.2 (fun t ht => hz t (by simp only [PyData.shownAll]; exact List.mem_cons_of_mem _ ht))
      refine ⟨b1 ++ b2, fun b hm => ?_, ?_⟩
      · simp only [PyData.depthAll]
        rcases List.mem_append.mp hm with hm | hm
        · obtain ⟨d2, as, r', l⟩ := m1 b hm
          exact ⟨d2, as, r', rest_le l (Nat.le_max_left _ _)⟩
        · obtain ⟨d2, as, r', l⟩ := m2 b hm
          exact ⟨d2, as, r', rest_le l (Nat.le_max_right _ _)⟩
      · simp only [PyData.depthAll, PyData.shownAll]
        exact .cons ((k1.more fun b hb => List.mem_append_left _ hb).level_le (Nat.le_max_left _ _)) (k2.more_le (fun b hb => List.mem_append_right _ hb) (Nat.le_max_right _ _))
end
end
def rReprD (K : PySem.W.Frag) : List V → Hp → VK → Prop := fun xs H Q => ∃ v d, xs = [v] ∧ Dq K H d v ∧ d.showable = true ∧ d.shown.length ≤ sizeLine ∧ d.depth ≤ 60 ∧ Q (.str d.shown) H
theorem call_reprD {X : Cx} (hg : X.A.guards = some []) (hu : X.A.units + 64 < cLine) : CallR X (.builtin "repr") (rReprD X.K) := by
  intro pins s σ H xs us Q I r h
  obtain ⟨v, d, rfl, hd, hs, hz, hdep, q⟩ := h
  obtain ⟨u, rfl, rv⟩ := vals1 r
  have fin : ∀ {x : Str} {t : Tok} {h' : Heap} {tk : Tok}, (∀ b o, s.heap.get? b = some o → h'.get? b = some o) → x = d.shown → EP X pins σ Q (.str x t) { s with heap := h', toks := tk } := fun {x t h' tk} k e => by
    subst e
    exact ⟨.str d.shown, H, I.kept (t' := tk) k, ⟨_, rfl⟩, q⟩
  cases hd with
  | non =>
    cases rv
    exact PySem.P.repr_of_none (fin (fun _ _ e => e) (by simp only [PyData.shown]))
  | bl b =>
    cases rv
    exact PySem.P.repr_of_bool (fin (fun _ _ e => e) (by simp only [PyData.shown]))
  | int i =>
    obtain ⟨t, rfl⟩ := rv
    exact PySem.P.repr_of_int (by simpa [PyData.showable] using hs) (fin (fun _ _ e => e) (by simp only [PyData.shown]))
  | str z =>
    obtain ⟨t, rfl⟩ := rv
    exact PySem.P.repr_of_str (fin (fun _ _ e => e) (by simp only [PyData.shown])) (by simpa only [PyData.shown] using hz)
  | @lst a xs ds h1 h2 =>
    cases rv
    obtain ⟨its, rv, ⟨o, n, ho, hc, _, hd⟩, _⟩ := I.list h1
    have hz2 : (listText (PyData.shownAll ds)).length ≤ sizeLine := by simpa only [PyData.shown] using hz
    obtain ⟨bs, hb, hk⟩ := dqs_repr (prog := X.prog) (w := X.w) I ds _ its h2 rv (by simpa [PyData.showable] using hs) (fun t ht => rest_le (listText_mem_le ht) hz2)
    obtain ⟨as, rd⟩ := dq_reads I (.list ds) _ _ (.lst h1 h2) rfl
    have hna : a ∉ bs := not_mem_of_deeper rd (by simp only [PyData.depth]; omega) hb
    have hd2 : PyData.depthAll ds + 1 ≤ 60 := by
      simp only [PyData.depth] at hdep
      omega
    refine call_repr_slot (by omega) ⟨o, ho, hc⟩ F.slot_list_repr.toG ?_
    cases its with
    | nil =>
      have e0 : PyData.shownAll ds = [] := List.length_eq_zero_iff.mp (by simpa using hk.length_eq)
      refine call_list_repr_empty ⟨o, ho, hc⟩ ho hd ⟨_, _, rfl, fin (fun _ _ e => e) ?_⟩
      simp only [PyData.shown]
      rw [e0, listText_nil]
    | cons x l =>
      refine call_list_reprK ho hc hd hna (by simpa using hk.length_eq) (fun i y e => hk.item i y (by simpa using e)) (A := X.A.in1) hg (fun b _ => Clear.nil b) (by show X.A.units + 1 + _ < _; omega) (fun _ _ e => e) (fun h' u tk hk => ⟨_, _, rfl, fin hk (by simp only [PyData.shown])⟩) hz2
  | @tup a xs ds h1 h2 =>
    cases rv
    obtain ⟨its, rv, ⟨o, ho, hc, n, hd⟩, _⟩ := I.tuple h1
    have hz2 : (tupleText (PyData.shownAll ds)).length ≤ sizeLine := by simpa only [PyData.shown] using hz
    obtain ⟨bs, hb, hk⟩ := dqs_repr (prog := X.prog) (w := X.w) I ds _ its h2 rv (by simpa [PyData.showable] using hs) (fun t ht => rest_le (tupleText_mem_le ht) hz2)
    obtain ⟨as, rd⟩ := dq_reads I (.tuple ds) _ _ (.tup h1 h2) rfl
    have hna : a ∉ bs := not_mem_of_deeper rd (by simp only [PyData.depth]; omega) hb
    have hd2 : PyData.depthAll ds + 1 ≤ 60 := by
      simp only [PyData.depth] at hdep
      omega
    refine call_repr_slot (by omega) ⟨o, ho, hc⟩ F.slot_tuple_repr ?_
    exact call_tuple_reprK ho hc hd hna hk (A := X.A.in1) hg (fun b _ => Clear.nil b) (by show X.A.units + 1 + _ < _; omega) (fun _ _ e => e) (fun h' u tk hk => ⟨_, _, rfl, fin hk (by simp only [PyData.shown])⟩) hz2
  | @emp a h1 =>
    cases rv
    obtain ⟨ns, o, es, n, g1, g2, g3, g4⟩ := emp_dict I h1
    refine call_repr_slot (by omega) ⟨o, g1, g2⟩ F.slot_dict_repr ?_
    exact call_dict_reprK (d := 0) (as := []) (ps := []) g1 g2 g3 ns (fun z => nomatch z) (by rw [g4]; exact .nil) (A := X.A.in1) hg (fun b _ => Clear.nil b) (by show X.A.units + 1 + _ < _; omega) (fun _ _ e => e) (fun h2 u tk hk => ⟨_, _, rfl, fin hk (by simp only [PyData.shown]; rfl)⟩) (by simpa only [PyData.shown, PyData.shownKv] using hz)
  | @one a k n h1 =>
    cases rv
    obtain ⟨ns, o, es, m, e, tk, tn, g1, g2, g3, g4, g5, g6⟩ := one_dict I h1
    refine call_repr_slot (by omega) ⟨o, g1, g2⟩ F.slot_dict_repr ?_
    have hsk : PyData.showable (.int k) = true ∧ PyData.showable (.int n) = true := by simpa [PyData.showable, PyData.showableKv] using hs
    exact call_dict_reprK (d := 0) (as := []) g1 g2 g3 ns (fun z => nomatch z) (by
      rw [g4]
      refine .cons (by rw [g5]; exact .of_is (ReprIs.int tk (by simpa [PyData.showable] using hsk.1)) _ _ _) (by rw [g6]; exact .of_is (ReprIs.int tn (by simpa [PyData.showable] using hsk.2)) _ _ _) .nil) (A := X.A.in1) hg (fun b _ => Clear.nil b) (by show X.A.units + 1 + _ < _; omega) (fun _ _ e => e) (fun h2 u tk hk => ⟨_, _, rfl, fin hk (by simp only [PyData.shown, PyData.shownKv])⟩) (by simpa only [PyData.shown, PyData.shownKv] using hz)
section
variable {K : PySem.W.Frag} {Q : PyData → Prop}
theorem DC_repr {xs : List PyData} (h : ∃ d, xs = [d] ∧ d.showable = true ∧ d.shown.length ≤ sizeLine ∧ d.depth ≤ 60 ∧ Q (.str d.shown)) : DC K (rReprD K) xs Q := fun vs F H e z QK k => by
  obtain ⟨d, rfl, h1, h2, h3, q⟩ := h
  obtain ⟨v, rfl, zx⟩ := dqs1 z
  exact ⟨v, d, rfl, zx.up e, h1, h2, h3, k _ _ F H q (Gr.refl e) (.str _)⟩
end
end Cf
namespace Cf
open PySem PySem.Spec PyProof.Rows L2
open Evl (Ex)

/-! ### a def's promise where no repr is under way -/
structure FnG (P : Program) (w : World) (K : PySem.W.Frag) (mg : Str → Option Value) (base : Heap) (CX : CXT) (k : Nat) (f : Addr) (fd : FuncData) (ps : List Str) (sp : Sp) : Prop where
  arity : ∀ vs H Q E, sp vs H Q E → vs.length = ps.length
  go : ∀ (A : Around) (outer : List Env) (s : Shared) (H : Hp) (args : Args) (us : List Value) (vs : List V) (Q : VK) (E : XK), A.guards = some [] → Room k A → Env0 P w K mg base A outer s H → BindsTo s fd args (ps.zip us) → Vals vs us →
    sp vs H Q E → codeAny (model P w) A (.call (.ref f) args) (CR CX outer P w H s Q E) s
section
variable {P : Program} {w : World} {K : PySem.W.Frag} {mg : Str → Option Value} {base : Heap} {CX : CXT} {k : Nat} {f : Addr} {fd : FuncData} {ps : List Str} {sp : Sp}
theorem FnG.more {j : Nat} (F : FnG P w K mg base CX j f fd ps sp) (h : j ≤ k) : FnG P w K mg base CX k f fd ps sp := ⟨F.arity, fun A outer s H args us vs Q E hg hr => F.go A outer s H args us vs Q E hg (hr.mono h)⟩
end
section
variable {X : Cx} {CX : CXT} {k : Nat} {f : Addr} {fd : FuncData} {ps : List Str} {sp : Sp} {E : XK} {x : Str} {p pos : Pos} {e : Expr} {es : List Expr} {t : TA}
theorem go_fn {pins : List (Addr × Obj)} {σ : L2.St} {H : Hp} {s : Shared} {Q : VK} {us : List Value} {vs : List V} (F : FnG X.prog X.w X.K X.mg X.base CX k f fd ps sp) (hgu : X.A.guards = some []) (hr : Room k X.A) (hb : Binds X.K fd ps [])
    (hx : Passes CX X E) (I : Inv X pins σ H s) (r : Vals vs us) (h : sp (vs ++ []) H Q E) : wpAny (model X.prog X.w) X.A (call (.ref f) us) (EP X pins σ Q) X.xe s := by
  rw [List.append_nil] at h
  have hl : (us ++ ([] : List Value)).length = ps.length := by
    rw [List.append_nil, ← r.length]
    exact F.arity _ _ _ _ h
  have bt := hb s us I.kIn hl
  rw [List.append_nil] at bt
  refine wpAny_call (codeAny_mono (F.go X.A X.stack s H ⟨us, []⟩ us vs Q E hgu hr I.env0 bt r h) fun z s2 hq => ?_)
  cases z with
  | error er => exact hx pins σ H s er s2 I hq
  | ok fl =>
    cases fl with
    | ret u => exact I.after hq
    | next => exact hq.elim
    | brk => exact hq.elim
    | cont => exact hq.elim
theorem pe_callG (F : FnG X.prog X.w X.K X.mg X.base CX k f fd ps sp) (hgu : X.A.guards = some []) (hr : Room k X.A) (hg : Gl X x) (hm : X.mg x = some (.ref f)) (hk : PySem.W.keepIn X.K (.ref f) = true) (hb : Binds X.K fd ps []) (hx : Passes CX X E) (ha : PA X (e :: es) t)
    (hdb : (x == ("__debug__" : Str)) = false := by decide) (he : starEach (e :: es) X.env = (false, eval e X.env) :: starEach es X.env := by rfl) (hpl : (backTo pos (starEach es X.env)).any (·.1) = false := by rfl) :
    PE X (.Call (.Name x p) (e :: es) [] pos) (tCall sp [] E t) := by
  constructor
  intro pins s σ H Q I h
  refine wpAny_Call_Name_kw (ld_glob I hg hm ?_ hdb)
  exact PySem.W.callWith_K (h₀ := X.base) I.ok.mod.kin hk (thn (ha.run pos pins s σ H _ I h) fun us s1 ⟨vs, H1, I1, r, q⟩ => ⟨I1.kIn, go_fn F hgu hr hb hx I1 r q⟩) he hpl
end
section
variable {P : Program} {w : World} {K : PySem.W.Frag} {mg : Str → Option Value} {base : Heap}
/-- a def of the text by its body -/
theorem fun_okG {CX : CXT} {x qual : Str} {st : Stmt} {f : Addr} {fd : FuncData} {N ps : List Str} {k : Nat} {sp : Sp} (F : Fun K x qual st f fd) (S : FnScope N ps (defScope st)) (len : ∀ vs H Q E, sp vs H Q E → vs.length = ps.length)
    (hbody : ∀ (cdv : Value) (A : Around) (outer : List Env) (s : Shared) (H : Hp) (vs : List V) (Q : VK) (E : XK), (A.deeper (envOfC qual (defScope st) s.heap.objs.size f cdv)).guards = some [] → Room k (A.deeper (envOfC qual (defScope st) s.heap.objs.size f cdv)) → sp vs H Q E →
      ∃ t, PSs (cxOf CX P w K mg base N qual (defScope st) f cdv A outer s H E).nox (defBody st) t ∧ t { nx := fun _ H' => Q .non H', rt := Q } (L2.start N vs) H) : FnG P w K mg base CX (k + 1) f fd ps sp := by
  obtain ⟨oc, od, kV, doc, pm, an, cdv, ct, osl, rfl, lk, hcd⟩ := F.ex
  refine ⟨len, fun A outer s H args us vs Q E hgu hr e0 hb r hsp => ?_⟩
  have hl := len _ _ _ _ hsp
  have KX : K.In s.heap := e0.mod.kin.keeps fun b o e => (e0.bs b o e).1
  have lim : s.heap.NoLimit := e0.mod.nolimit.keeps fun b o e => (e0.bs b o e).1
  have kinds : ∀ y ∈ ps.zip us, (defScope st).names.lookup y.1 = some .local ∨ ((defScope st).names.lookup y.1 = some .cell ∧ ((cellsFrom (s.heap.objs.size + 1) (defScope st).names []).lookup y.1).isSome = true) := by
    rintro ⟨n, v⟩ hy
    rcases S.par n (List.of_mem_zip hy).1 with q | q
    · exact .inl q
    · exact .inr ⟨q, PySem.W.cellsFrom_some _ _ _ (.inl q)⟩
  refine codeAny_call_function hr.depth (KX _ _ lk) rfl S.co S.gen rfl (PySem.W.codeRec_of KX hcd) (hb _ _ _ _ ?_)
  refine wpAny_newFunctionEnv_cells S.kind kinds fun env hEnv s1 inC => ?_
  subst hEnv
  refine ⟨lim.keeps inC.toInCall.keep, codeAny_func ?_⟩
  obtain ⟨t, ht, hq⟩ := hbody _ A outer s H vs Q E hgu (hr.deeper _) hsp
  have I : Inv (cxOf CX P w K mg base N qual (defScope st) f cdv A outer s H E) [] (L2.start N vs) H s1 := inv_start S hr.hd e0 hl r inC
  refine wpAny_mono (ht.nox.run [] s1 (L2.start N vs) H _ I hq) (fun fl s2 hs => ?_) fun _ _ hs => hs
  have done : ∀ {σ2 : L2.St} {H2 : Hp} {v : V} {u : Value}, Inv (cxOf CX P w K mg base N qual (defScope st) f cdv A outer s H E) [] σ2 H2 s2 → RelV v u → Q v H2 → CE outer P w H s Q u s2 :=
    fun {σ2 H2 v u} J rv q => ⟨v, H2, J.os, J.bare, J.base, J.hok, rv, q⟩
  cases fl with
  | ret u =>
    obtain ⟨v, σ2, H2, J, rv, q⟩ := hs
    exact done J rv q
  | next =>
    obtain ⟨σ2, H2, J, q⟩ := hs
    exact done (v := V.non) (u := Value.none) J rfl q
  | brk =>
    obtain ⟨_, _, _, q⟩ := hs
    exact q.elim
  | cont =>
    obtain ⟨_, _, _, q⟩ := hs
    exact q.elim
end
/-! ### the end of a law -/
/-- the law's promise: True, whatever the script -/
def spLaw (K : PySem.W.Frag) : Sp := fun vs H Q _ => ∃ (a : Addr) (ns : List Int), vs = [.ref a] ∧ SqL K H a (ns.map V.int) ∧ ns.length ≤ 63 ∧ (∀ b, H b = none ∨ ∃ o xs, H b = some (.frz o (.lst xs))) ∧ ∀ H', Q (.bl true) H'
theorem law_goes {P : Program} {w : World} {K : PySem.W.Frag} {mg mb : Str → Option Value} {CX : CXT} {k : Nat} {fa a : Addr} {fd : FuncData} {x : Str} {sp : Sp} {s₁ : Shared} {vs : List Value} {ns : List Int}
    (KX : K.In s₁.heap) (hns : s₁.heap.Ns mainGlobals mg) (hb : s₁.heap.Ns builtinsNs mb) (hbb : ∀ x : Str, x ≠ "__name__" → mb x = bootBuiltins x) (hlim : s₁.heap.NoLimit) (hg : s₁.gens = #[])
    (ha : s₁.heap.get? a = some { cls := .type "list", data := .seq vs.toArray }) (hi : IntsAre vs ns) (hl : ns.length ≤ sizeLine) (hr : Room k callerA)
    (F : ∀ base : Heap, K.In base → base.Ns mainGlobals mg → FnG P w K mg base CX k fa fd [x] sp) (hbind : ∀ (s : Shared) (u : Value), BindsTo s fd ⟨[u], []⟩ [(x, u)])
    (hsp : ∀ H : Hp, Only H → SqL K H a (ns.map V.int) → sp [.ref a] H (fun v _ => v = .bl true) fun _ _ _ => False)
    (hCX : ∀ H e s2, CX [] H s₁ (fun _ _ _ => False) e s2 → False) :
    codeAny (model P w) callerA (.call (.ref fa) ⟨[.ref a], []⟩) (fun r s2 => r = .ok (.ret (.bool true)) ∧ OldK s₁.heap s2.heap ∧ s2.os = s₁.os ∧ AllBare s2.gens) s₁ := by
  have rv := vals_ints hi
  have lenV := hi.length
  -- over any abstract heap that tracks the script at most
  have core : ∀ H : Hp, Only H → SqL K H a (ns.map V.int) → HOk P w H s₁.heap → (∀ b, H b ≠ none → b = a) → (H a ≠ none → K.lookup a = none) →
      codeAny (model P w) callerA (.call (.ref fa) ⟨[.ref a], []⟩) (fun r s2 => r = .ok (.ret (.bool true)) ∧ OldK s₁.heap s2.heap ∧ s2.os = s₁.os ∧ AllBare s2.gens) s₁ := by
    intro H only isL hok at1 kNo
    have free : ∀ b : Addr, b ≠ a → H b = none := fun b hb => by
      cases q : H b with
      | none => rfl
      | some u => exact absurd (at1 b (by rw [q]; simp)) hb
    have down : ∀ {b : Addr} {o : Obj}, s₁.heap.get? b = some o → H b = none → (hidT s₁.heap H).get? b = some o := fun e n => hidT_get e n
    have notD : ∀ {b : Addr} {o : Obj} {es : Array DictEntry} {ep : Nat}, s₁.heap.get? b = some o → o.data = .dict es ep → H b = none := fun {b o es ep} e d => free b fun z => by
      subst z
      rw [ha] at e
      cases e
      cases (show Data.seq vs.toArray _ = Data.dict es ep from d)
    have nsD : ∀ {b : Addr} {m : Str → Option Value}, s₁.heap.Ns b m → (hidT s₁.heap H).Ns b m := fun {b m} ⟨o, es, ep, e, d, r⟩ => ⟨o, es, ep, down e (notD e d), d, r⟩
    have kD : K.In (hidT s₁.heap H) := fun b o e => down (KX b o e) (by
      cases q : H b with
      | none => rfl
      | some u =>
        have z := at1 b (by rw [q]; simp)
        subst z
        rw [kNo (by rw [q]; simp)] at e
        cases e)
    have md : Mod K mg (hidT s₁.heap H) := ⟨kD, nsD hns, ⟨mb, nsD hb, hbb⟩, let ⟨mc, h1, h2⟩ := hlim; ⟨mc, nsD h1, h2⟩⟩
    have e0 : Env0 P w K mg (hidT s₁.heap H) callerA [] s₁ H :=
      ⟨rfl, md, fun b o e => of_hidT e, Nat.le_of_eq (hidT_size _ _), trivial, fun b z => absurd (show b ∈ ([] : List Addr) from z) (by simp), hok, .of_eq hg⟩
    refine codeAny_mono ((F _ kD (nsD hns)).go callerA [] s₁ H ⟨[.ref a], []⟩ [.ref a] [.ref a] _ _ rfl hr e0 (hbind s₁ (.ref a)) (.cons rfl .nil) (hsp H only isL)) fun r s2 h => ?_
    cases r with
    | error e => exact (hCX H e s2 h).elim
    | ok fl =>
      cases fl with
      | next => exact h.elim
      | brk => exact h.elim
      | cont => exact h.elim
      | ret u =>
        obtain ⟨v, H2, os, bare, un, hok2, r2, q⟩ := h
        obtain rfl : v = .bl true := q
        obtain rfl : u = Value.bool true := r2
        refine ⟨rfl, OldK.of_keep fun b o e => ?_, os, bare⟩
        cases q : H b with
        | none => exact un.keep b o e q (fun z => absurd (show b ∈ ([] : List Addr) from z) (by simp)) (by simp)
        | some u =>
          rcases only b with z | ⟨ob, xs, z⟩
          · rw [q] at z
            cases z
          · obtain ⟨e1, _⟩ := hok b _ z
            obtain ⟨e2, _⟩ := hok2 b _ (un.frzs b ob _ z)
            rw [e] at e1
            cases e1
            exact e2
  cases hk : K.lookup a with
  | some o =>
    have e := KX a o hk
    rw [ha] at e
    cases e
    refine core (fun _ => none) (fun _ => .inl rfl) (.inr ⟨_, vs.toArray, _, hk, rfl, rfl, rfl, by rw [List.size_toArray, lenV]; exact hl, by simpa using rv⟩) (fun b u z => ?_) (fun b z => absurd rfl z) fun z => absurd rfl z
    cases (show (none : Option HO) = some u from z)
  | none =>
    refine core (fun b => if b = a then some (.frz { cls := .type "list", data := .seq vs.toArray } (.lst (ns.map V.int))) else none) (fun b => ?_) (.inl (.inr ⟨{ cls := .type "list", data := .seq vs.toArray }, if_pos rfl⟩)) (fun b u z => ?_) (fun b z => ?_) fun _ => hk
    · by_cases hb : b = a
      · exact .inr ⟨_, _, if_pos hb⟩
      · exact .inl (if_neg hb)
    · by_cases hb : b = a
      · have z2 := (if_pos hb).symm.trans z
        cases z2
        subst hb
        exact ⟨ha, by rw [List.length_map]; exact hl, vs, _, rv, ha⟩
      · have z2 := (if_neg hb).symm.trans z
        cases z2
    · by_cases hb : b = a
      · exact hb
      · exact absurd (if_neg hb) z
/-- the goal behind k_head, by the law's promise -/
theorem walk_G {l : PySem.W.OpenLaw} {k : Nat} {q : Program} {loose : List Str} {XP : (Str → Option Value) → Heap → Prop} {YP : World → Heap → Prop} {d : DefRec} {K : Params → PySem.W.Frag} {x : Str}
    (hn : l.most = some 63) (hdf : d.params.defaults = []) (hr : Room k callerA) (hY : ∀ (w : World) (h : Heap), YP w h → (K w.params).In h)
    (F : ∀ (w : World) (mg : Str → Option Value) (fa : Addr) (h : Heap), (K w.params).In h → h.Ns mainGlobals mg → mg d.name = some (.ref fa) →
      ∃ fd : FuncData, (∀ (s : Shared) (u : Value), BindsTo s fd ⟨[u], []⟩ [(x, u)]) ∧
        ∀ base : Heap, (K w.params).In base → base.Ns mainGlobals mg → FnG l.prog w (K w.params) mg base CX0 k fa fd [x] (spLaw (K w.params))) :
    PySem.W.WalkO q loose XP YP l.row.toRowW d [] (fun f vs => PySem.call f vs) := by
  refine Att.attach_call hn hdf fun w s₀ s₁ mg mb fa o pm cd doc a vs ns G Y ho hd hcd hmg hobj hints hlen hg => ?_
  have KX := hY w _ Y
  obtain ⟨fd, hb, hF⟩ := F w mg fa _ KX G.T.g hmg
  exact law_goes KX G.T.g G.T.b G.T.builtins G.T.nolimit hg hobj hints (Nat.le_trans hlen (by decide)) hr hF hb (fun H hO hS => ⟨a, ns, rfl, hS, hlen, hO, fun _ => rfl⟩) fun _ _ _ h => h
end Cf
namespace Cf
open PySem PySem.Spec PyProof.Rows L2
open Evl (Ex)
/-! ### ranges of any size -/
theorem turn_long {P : Program} {w : World} {K : PySem.W.Frag} {tg : Expr} (it : Addr) (lo : Int) (n : Nat) : Turn P w K tg (Itr lo n) [it] it (fun i h => IsLongIter h it (lo + (i : Nat) * 1) ((n : Int) - (i : Nat)) 1) where
  mem := by simp
  obj := fun i h st b hb => by
    obtain rfl : b = it := by simpa using hb
    exact ⟨_, st, fun v z => by cases (show Data.fields _ = Data.cell v from z)⟩
  keep := fun i h h2 st k => k it (by simp) _ st
  item := by
    intro X hP hw hK hc i pins s σ H E I hf st hg
    subst hP hw hK
    obtain ⟨f0, f1, f2, f3, f4, f5⟩ := hf it (by simp)
    refine (Walks.longrange (prog := X.prog) (w := X.w) (I.ok.hd hc) it lo 1 n).item i s _ _ hg st fun v h2 tk hv st2 kk => ?_
    obtain ⟨t, rfl⟩ := hv
    have I1 : Inv X pins σ H { s with heap := h2, toks := tk } := I.turned (fun b o hb e => kk b o (by simpa using hb) e) f0 f1 f3 f4 f5
    refine ⟨_, rfl, go_of (s := { s with heap := h2, toks := tk }) (n := "longrange_iterator") st2 rfl rfl (by decide) ⟨.int (lo + i), H, I1, ⟨t, ?_⟩, ⟨rfl, rfl⟩, st2, fun b hb => (hf b hb).1⟩⟩
    rw [Int.mul_one]
  done := by
    intro X hP hw hK hc i pins s σ H E I hf st hg
    subst hP hw hK
    obtain ⟨f0, f1, f2, f3, f4, f5⟩ := hf it (by simp)
    exact wpAny_pyNext_long_end (I.ok.hd hc) st (by have : n ≤ i := hg; omega) fun h2 eb => ⟨rfl, I.turned (t' := s.toks) (fun b o hb e => eb b o hb e) f0 f1 f3 f4 f5⟩
  self := fun _ _ _ _ _ st h => wpAny_pyIter_longiter st h
section
variable {X : Cx} {tg : Expr}
theorem rg_it {pins : List (Addr × Obj)} {σ : L2.St} {H : Hp} {s : Shared} {R : It → Hp → Prop} {E : Value → Shared → Prop} {lo hi : Int} {t u v : Tok} {tk : Nat} (I : Inv X pins σ H s)
    (q : R (Itr lo (hi - lo).toNat) H) : wpAny (model X.prog X.w) X.A (pyIter (.ref s.heap.objs.size)) (PIE X pins σ tg R) E { s with heap := s.heap.push { cls := .type "range", data := .fields #[.int lo t, .int hi u, .int 1 v] }, toks := tk } := by
  have hR : IsRange (s.heap.push { cls := .type "range", data := .fields #[.int lo t, .int hi u, .int 1 v] }) s.heap.objs.size lo hi 1 t u v := IsRange.new ..
  have I1 : Inv X pins σ H { s with heap := s.heap.push { cls := .type "range", data := .fields #[.int lo t, .int hi u, .int 1 v] }, toks := tk } := I.kept fun b o e => Heap.get?_push_of_some _ e
  have e1 : lo + ((0 : Nat) : Int) * 1 = lo := by simp
  have e2 : (((hi - lo).toNat : Nat) : Int) - ((0 : Nat) : Int) = Builtin.Range.rangeSize lo hi 1 := by
    rw [rangeSize_one]
    split <;> omega
  cases hs : Builtin.Range.small lo hi 1 with
  | true =>
    refine wpAny_pyIter_range hR hs ?_
    refine ⟨(s.heap.push { cls := .type "range", data := .fields #[.int lo t, .int hi u, .int 1 v] }).objs.size, [(s.heap.push { cls := .type "range", data := .fields #[.int lo t, .int hi u, .int 1 v] }).objs.size], _, _, H, rfl,
      I1.kept (t' := tk) fun b o e => Heap.get?_push_of_some _ e, turn_range _ lo (hi - lo).toNat, ?_, fun b hb => ?_, q⟩
    · show IsRangeIter _ _ (lo + ((0 : Nat) : Int) * 1) ((((hi - lo).toNat : Nat) : Int) - ((0 : Nat) : Int)) 1
      rw [e1, e2]
      exact Heap.get?_push_size _ rfl
    · obtain rfl : b = (s.heap.push { cls := .type "range", data := .fields #[.int lo t, .int hi u, .int 1 v] }).objs.size := by simpa using hb
      exact I1.fpOk (Nat.le_refl _) (I1.hok.fresh (Nat.le_refl _))
  | false =>
    refine wpAny_pyIter_longrange hR hs ?_
    refine ⟨(s.heap.push { cls := .type "range", data := .fields #[.int lo t, .int hi u, .int 1 v] }).objs.size, [(s.heap.push { cls := .type "range", data := .fields #[.int lo t, .int hi u, .int 1 v] }).objs.size], _, _, H, rfl,
      I1.kept (t' := tk) fun b o e => Heap.get?_push_of_some _ e, turn_long _ lo (hi - lo).toNat, ?_, fun b hb => ?_, q⟩
    · show IsLongIter _ _ (lo + ((0 : Nat) : Int) * 1) ((((hi - lo).toNat : Nat) : Int) - ((0 : Nat) : Int)) 1
      rw [e1, e2]
      exact Heap.get?_push_size _ rfl
    · obtain rfl : b = (s.heap.push { cls := .type "range", data := .fields #[.int lo t, .int hi u, .int 1 v] }).objs.size := by simpa using hb
      exact I1.fpOk (Nat.le_refl _) (I1.hok.fresh (Nat.le_refl _))
theorem pi_rg1 {a : Expr} {ta : TA} {p pos : Pos} (hg : Gl X "range") (hm : X.mg "range" = none) (ha : PA X [a] ta) (hs : starEach [a] X.env = [(false, eval a X.env)] := by rfl) : PI X tg (.Call (.Name "range" p) [a] [] pos) (iRg1 ta) := by
  constructor
  intro pins s σ H R I h
  refine Call_ (ld_blt I hg hm boot_range (PyProof.Rows.callWith_type1 (thn (ha.run pos pins s σ H _ I h) fun us s1 ⟨vs, H1, I1, r1, q1⟩ => ?_) hs rfl))
  obtain ⟨j, rfl, q⟩ := q1
  obtain ⟨u, rfl, t, rfl⟩ := vals1 r1
  exact call_range_1 (rg_it I1 (by rw [Int.sub_zero]; exact q))
theorem pi_rg2 {a b : Expr} {ta : TA} {p pos : Pos} (hg : Gl X "range") (hm : X.mg "range" = none) (ha : PA X [a, b] ta) (hs : starEach [a, b] X.env = [(false, eval a X.env), (false, eval b X.env)] := by rfl) (hs2 : starEach [b] X.env = [(false, eval b X.env)] := by rfl) :
    PI X tg (.Call (.Name "range" p) [a, b] [] pos) (iRg2 ta) := by
  constructor
  intro pins s σ H R I h
  refine Call_ (ld_blt I hg hm boot_range (PyProof.Rows.callWith_type1 (thn (ha.run pos pins s σ H _ I h) fun us s1 ⟨vs, H1, I1, r1, q1⟩ => ?_) (by rw [hs, hs2]) (by rw [hs2]; rfl)))
  obtain ⟨i, j, rfl, q⟩ := q1
  obtain ⟨u, v, rfl, ⟨t, rfl⟩, t2, rfl⟩ := vals2 r1
  exact call_range_2 (rg_it I1 q)
end
end Cf
namespace Cf
open PySem PySem.Spec PyProof.Rows L2
open Evl (Ex)
/-! ### what is known of data -/
def isInt : PyData → Bool | .int _ => true | _ => false
def isSign : PyData → Bool | .int i => decide (2 ≤ i ∧ i ≤ 4) | _ => false
def isIntL : PyData → Bool | .list ds => ds.all isInt | _ => false
def inSigns (s : Int) : PyData → Bool | .int i => decide (0 ≤ i ∧ i < s) | _ => false
def isWord (s : Int) : PyData → Bool | .list ds => ds.all (inSigns s) | _ => false
def shortD : PyData → Bool | .list ds => decide (ds.length < 100000) | .tuple ds => decide (ds.length < 100000) | .str z => decide (z.length < 100000) | _ => true
theorem kb_int (x : PyData) : kitB (tyD x) "int" = some (match x with | .int _ => true | .bool _ => true | _ => false) := by
  cases x with
  | none => exact (by decide +kernel : kitB "NoneType" "int" = some false)
  | bool b => exact (by decide +kernel : kitB "bool" "int" = some true)
  | int b => exact (by decide +kernel : kitB "int" "int" = some true)
  | str b => exact (by decide +kernel : kitB "str" "int" = some false)
  | list b => exact (by decide +kernel : kitB "list" "int" = some false)
  | tuple b => exact (by decide +kernel : kitB "tuple" "int" = some false)
  | dict b => exact (by decide +kernel : kitB "dict" "int" = some false)
theorem kb_bool (x : PyData) : kitB (tyD x) "bool" = some (match x with | .bool _ => true | _ => false) := by
  cases x with
  | none => exact (by decide +kernel : kitB "NoneType" "bool" = some false)
  | bool b => exact (by decide +kernel : kitB "bool" "bool" = some true)
  | int b => exact (by decide +kernel : kitB "int" "bool" = some false)
  | str b => exact (by decide +kernel : kitB "str" "bool" = some false)
  | list b => exact (by decide +kernel : kitB "list" "bool" = some false)
  | tuple b => exact (by decide +kernel : kitB "tuple" "bool" = some false)
  | dict b => exact (by decide +kernel : kitB "dict" "bool" = some false)
theorem kb_list (x : PyData) : kitB (tyD x) "list" = some (match x with | .list _ => true | _ => false) := by
  cases x with
  | none => exact (by decide +kernel : kitB "NoneType" "list" = some false)
  | bool b => exact (by decide +kernel : kitB "bool" "list" = some false)
  | int b => exact (by decide +kernel : kitB "int" "list" = some false)
  | str b => exact (by decide +kernel : kitB "str" "list" = some false)
  | list b => exact (by decide +kernel : kitB "list" "list" = some true)
  | tuple b => exact (by decide +kernel : kitB "tuple" "list" = some false)
  | dict b => exact (by decide +kernel : kitB "dict" "list" = some false)
theorem kb_tuple (x : PyData) : kitB (tyD x) "tuple" = some (match x with | .tuple _ => true | _ => false) := by
  cases x with
  | none => exact (by decide +kernel : kitB "NoneType" "tuple" = some false)
  | bool b => exact (by decide +kernel : kitB "bool" "tuple" = some false)
  | int b => exact (by decide +kernel : kitB "int" "tuple" = some false)
  | str b => exact (by decide +kernel : kitB "str" "tuple" = some false)
  | list b => exact (by decide +kernel : kitB "list" "tuple" = some false)
  | tuple b => exact (by decide +kernel : kitB "tuple" "tuple" = some true)
  | dict b => exact (by decide +kernel : kitB "dict" "tuple" = some false)

/-! ### the word that goes on by the shape of what is read -/
end Cf
/-! comprehensions whose items are told one by one -/
namespace Cf
open PySem PySem.Spec PyProof.Rows L2
open Evl (Ex)
section
variable {K : PySem.W.Frag} {t : Option Addr} {ρ : Rho} {i : Nat} {te tl : TE} {tr : TA} {Q : List PyData → Prop}
theorem take_snoc {α : Type} {l : List α} {k : Nat} {x : α} (h : l[k]? = some x) : l.take (k + 1) = l.take k ++ [x] := by
  rw [List.take_add_one, h]
  rfl
theorem DL_mapL {f : PyData → PyData} (h : DE K t tl ρ fun x => ∃ ds, x = .list ds ∧ ds.length < 100000 ∧ (∀ d ∈ ds, DE K t te (ρ.set i (.sh d)) fun y => y = f d) ∧ Q (ds.map f)) : DL K t (tLc (iList K tl) (gName i) tYes te [i]) ρ Q := by
  refine DL_lcL (h.mono fun x hx => ?_)
  obtain ⟨ds, rfl, hl, hs, q⟩ := hx
  refine ⟨ds, rfl, fun k acc => acc = (ds.take k).map f, rfl, fun k d acc hd e => ?_, fun acc e => ?_⟩
  · subst e
    have hk : k < ds.length := (List.getElem?_eq_some_iff.mp hd).1
    refine ⟨by rw [List.length_map, List.length_take]; omega, DT_yes (iteT ?_)⟩
    refine (hs d (List.mem_of_getElem? hd)).mono fun y e => ?_
    subst e
    try dsimp only
    rw [take_snoc hd, List.map_append]
    rfl
  · subst e
    rw [List.take_length]
    exact q
theorem DL_mapR1 {f : Nat → PyData} (h : DA K t tr ρ fun xs => ∃ n : Nat, xs = [.int n] ∧ n < 100000 ∧ (∀ k, k < n → DE K t te (ρ.set i (.sh (.int (k : Int)))) fun y => y = f k) ∧ Q ((List.range n).map f)) : DL K t (tLc (iRg1 tr) (gName i) tYes te [i]) ρ Q := by
  refine DL_lcR1 fun F0 H0 F H σ A QK k => h F0 H0 F H σ A QK fun xs vs F' H' hx e z => k xs vs F' H' ?_ e z
  obtain ⟨n, rfl, hn, hs, q⟩ := hx
  refine ⟨n, rfl, fun k acc => acc = (List.range k).map f, rfl, fun k acc hk e => ?_, fun acc e => ?_⟩
  · subst e
    have hk : k < n := by simpa using hk
    refine ⟨by rw [List.length_map, List.length_range]; omega, DT_yes (iteT ?_)⟩
    rw [Int.zero_add]
    refine (hs k hk).mono fun y e => ?_
    subst e
    try dsimp only
    rw [List.range_succ, List.map_append]
    rfl
  · have e : acc = (List.range n).map f := by simpa using e
    rw [e]
    exact q
/-- items that are drawn: ints of which P holds -/
theorem DL_intsR1 {P : Int → Prop} (h : DA K t tr ρ fun xs => ∃ n : Nat, xs = [.int n] ∧ n < 100000 ∧ (∀ k, k < n → DE K t te (ρ.set i (.sh (.int (k : Int)))) fun y => ∃ m, y = .int m ∧ P m) ∧ ∀ ns : List Int, ns.length = n → (∀ m ∈ ns, P m) → Q (ns.map .int)) :
    DL K t (tLc (iRg1 tr) (gName i) tYes te [i]) ρ Q := by
  refine DL_lcR1 fun F0 H0 F H σ A QK k => h F0 H0 F H σ A QK fun xs vs F' H' hx e z => k xs vs F' H' ?_ e z
  obtain ⟨n, rfl, hn, hs, q⟩ := hx
  refine ⟨n, rfl, fun k acc => ∃ ns : List Int, acc = ns.map .int ∧ ns.length = k ∧ ∀ m ∈ ns, P m, ⟨[], rfl, rfl, fun _ h => nomatch h⟩, fun k acc hk e => ?_, fun acc e => ?_⟩
  · obtain ⟨ns, rfl, hl, hp⟩ := e
    have hk : k < n := by simpa using hk
    refine ⟨by rw [List.length_map]; omega, DT_yes (iteT ?_)⟩
    rw [Int.zero_add]
    refine (hs k hk).mono fun y e => ?_
    obtain ⟨m, rfl, pm⟩ := e
    refine ⟨ns ++ [m], by rw [List.map_append]; rfl, by rw [List.length_append, hl]; rfl, fun x hx => ?_⟩
    rcases List.mem_append.mp hx with hx | hx
    · exact hp x hx
    · rw [List.mem_singleton.mp hx]
      exact pm
  · obtain ⟨ns, rfl, hl, hp⟩ := e
    exact q ns (by simpa using hl) hp
theorem DL_intsL {P : Int → Prop} (h : DE K t tl ρ fun x => ∃ ds, x = .list ds ∧ ds.length < 100000 ∧ (∀ d ∈ ds, DE K t te (ρ.set i (.sh d)) fun y => ∃ m, y = .int m ∧ P m) ∧ ∀ ns : List Int, ns.length = ds.length → (∀ m ∈ ns, P m) → Q (ns.map .int)) :
    DL K t (tLc (iList K tl) (gName i) tYes te [i]) ρ Q := by
  refine DL_lcL (h.mono fun x hx => ?_)
  obtain ⟨ds, rfl, hl, hs, q⟩ := hx
  refine ⟨ds, rfl, fun k acc => ∃ ns : List Int, acc = ns.map .int ∧ ns.length = k ∧ ∀ m ∈ ns, P m, ⟨[], rfl, rfl, fun _ h => nomatch h⟩, fun k d acc hd e => ?_, fun acc e => ?_⟩
  · obtain ⟨ns, rfl, hl2, hp⟩ := e
    have hk : k < ds.length := (List.getElem?_eq_some_iff.mp hd).1
    refine ⟨by rw [List.length_map]; omega, DT_yes (iteT ?_)⟩
    refine (hs d (List.mem_of_getElem? hd)).mono fun y e => ?_
    obtain ⟨m, rfl, pm⟩ := e
    refine ⟨ns ++ [m], by rw [List.map_append]; rfl, by rw [List.length_append, hl2]; rfl, fun x hx => ?_⟩
    rcases List.mem_append.mp hx with hx | hx
    · exact hp x hx
    · rw [List.mem_singleton.mp hx]
      exact pm
  · obtain ⟨ns, rfl, hl2, hp⟩ := e
    exact q ns hl2 hp
end
end Cf
/-! the program's words: what each def makes of data -/
namespace Cf
open PySem PySem.Spec PyProof.Rows L2
open Evl (Ex)
local macro_rules | `(tactic| walk_at "d") => `(tactic| first
  | (with_reducible refine DS_seq ?_)
  | (with_reducible refine DS_if ?_)
  | (with_reducible refine DS_ret ?_)
  | (with_reducible refine DS_next ?_)
  | (with_reducible refine DS_retN ?_)
  | (with_reducible refine DS_set ?_)
  | (with_reducible refine DS_drop ?_)
  | (with_reducible refine DS_unpack ?_)
  | (with_reducible refine DS_par ?_)
  | (with_reducible refine DE_int ?_)
  | (with_reducible refine DE_bl ?_)
  | (with_reducible refine DE_non ?_)
  | (with_reducible refine DE_str ?_)
  | (with_reducible refine DE_isi ?_)
  | (with_reducible refine DE_and ?_)
  | (with_reducible refine DE_or ?_)
  | (with_reducible refine DE_not ?_)
  | (with_reducible refine DE_if ?_)
  | (with_reducible refine DE_chain ?_)
  | (with_reducible refine DE_tyIs ?_)
  | (with_reducible refine DE_tyNot ?_)
  | (with_reducible refine DE_call ?_)
  | (with_reducible refine DE_cb ?_)
  | (with_reducible refine DE_op ?_)
  | (with_reducible refine DE_un ?_)
  | (with_reducible refine DE_tup ?_)
  | (with_reducible refine DT_test ?_)
  | (with_reducible refine DT_B ?_)
  | (with_reducible refine DT_and ?_)
  | (with_reducible refine DT_or ?_)
  | (with_reducible refine DT_not ?_)
  | (with_reducible refine DT_yes ?_)
  | (with_reducible refine DA_nil ?_)
  | (with_reducible refine DA_cons ?_)
  | (with_reducible refine DO_no ?_)
  | (with_reducible refine DO_at ?_)
  | (with_reducible refine DR_minus ?_)
  | (with_reducible refine DR_mod ?_)
  | (with_reducible refine DR_div ?_)
  | (with_reducible refine DR_pow ?_)
  | (with_reducible refine DR_lt ?_)
  | (with_reducible refine DR_le ?_)
  | (with_reducible refine DR_gt ?_)
  | (with_reducible refine DR_ge ?_)
  | (with_reducible refine DR_eq ?_)
  | (with_reducible refine DR_ne ?_)
  | (with_reducible refine DR_isN ?_)
  | (with_reducible refine DR_notN ?_)
  | (with_reducible refine DU_neg ?_)
  | (with_reducible refine DC_len ?_)
  | (with_reducible refine DC_int ?_)
  | (with_reducible refine DC_abs ?_)
  | (with_reducible refine DC_max2 ?_)
  | (with_reducible refine DC_min2 ?_)
  | (with_reducible refine DC_sum ?_)
  | (with_reducible refine DC_all ?_)
  | (with_reducible refine DC_any ?_)
  | (with_reducible refine DC_repr ?_)
  | (with_reducible refine ⟨_, kb_int _, ?_⟩)
  | (with_reducible refine ⟨_, kb_bool _, ?_⟩)
  | (with_reducible refine ⟨_, kb_list _, ?_⟩)
  | (with_reducible refine ⟨_, kb_tuple _, ?_⟩)
  | (with_reducible refine ⟨_, rfl, ?_⟩)
  | (with_reducible refine ⟨_, _, rfl, rfl, ?_⟩)
  | ((with_reducible refine' DE_var ?k1 ?_); (case k1 => exact rfl)))

abbrev LI (ns : List Int) : PyData := .list (ns.map .int)
/-- a def's body keeps W -/
abbrev Keeps (W : List PyData → (PyData → Prop) → Prop) (n : Nat) (tb : PySem.W.Frag → TS) : Prop :=
  ∀ (K : PySem.W.Frag) (ds : List PyData) (R : PyData → Prop), W ds R → ds.length ≤ n ∧ DS K none (tb K) (ds.map Sl.sh ++ List.replicate (n - ds.length) Sl.no) (fun _ => R .none) R NoR NoR

def W_is_integer (ds : List PyData) (R : PyData → Prop) : Prop := ∃ x, ds = [x] ∧ R (.bool (isInt x))
def t_is_integer (K : PySem.W.Frag) : TS :=
  (tRet (tAndV (tCB (rIsi K) (tCons (tVar 0) (tCons (tC (.ty "int")) tNil))) (tNotV (tCB (rIsi K) (tCons (tVar 0) (tCons (tC (.ty "bool")) tNil))))))
theorem ds_is_integer : Keeps W_is_integer 1 t_is_integer := by
  intro K ds R h
  obtain ⟨x, rfl, q⟩ := h
  refine ⟨by simp, ?_⟩
  show DS K _ (t_is_integer K) [.sh x] _ _ _ _
  unfold t_is_integer
  repeat walk_at "d"
  cases x with
  | int i =>
    refine iteT ?_
    repeat walk_at "d"
    exact q
  | bool i =>
    refine iteT ?_
    repeat walk_at "d"
    exact q
  | _ => exact iteF q

def W_is_sign_count (ds : List PyData) (R : PyData → Prop) : Prop := ∃ x, ds = [x] ∧ R (.bool (isSign x))
def t_is_sign_count (K : PySem.W.Frag) : TS :=
  (tRet (tAndV (tCall (spP K W_is_integer) [] E0 (tCons (tVar 0) tNil)) (tChain rLeI rLeI (tC (.int 2)) (tVar 0) (tC (.int 4)))))
theorem ds_is_sign_count : Keeps W_is_sign_count 1 t_is_sign_count := by
  intro K ds R h
  obtain ⟨x, rfl, q⟩ := h
  refine ⟨by simp, ?_⟩
  show DS K _ (t_is_sign_count K) [.sh x] _ _ _ _
  unfold t_is_sign_count
  repeat walk_at "d"
  refine ⟨x, rfl, _, rfl, ?_⟩
  cases x with
  | int i =>
    refine iteT ?_
    repeat walk_at "d"
    refine ite2 (fun h => ?_) fun h => ?_
    · repeat walk_at "d"
      have e : decide (i ≤ 4) = isSign (.int i) := by
        have h := of_decide_eq_true h
        show _ = decide _
        simp [h]
      rw [e]
      exact q
    · have e : isSign (.int i) = false := by
        show decide _ = false
        have h : ¬ 2 ≤ i := fun z => h (decide_eq_true z)
        exact decide_eq_false fun z => h z.1
      rw [e] at q
      exact q
  | _ => exact iteF q

def W_is_integer_list (ds : List PyData) (R : PyData → Prop) : Prop := ∃ x, ds = [x] ∧ shortD x = true ∧ R (.bool (isIntL x))
def t_is_integer_list (K : PySem.W.Frag) : TS :=
  (tRet (tAndV (tOp rIsTyB (tCB (rTyp K) (tCons (tVar 0) tNil)) (tC (.ty "list"))) (tCB (rAll K) (tCons (tLc (iList K (tVar 0)) (gName 1) tYes (tCall (spP K W_is_integer) [] E0 (tCons (tVar 1) tNil)) [1]) tNil))))
theorem ds_is_integer_list : Keeps W_is_integer_list 2 t_is_integer_list := by
  intro K ds R h
  obtain ⟨x, rfl, hs, q⟩ := h
  refine ⟨by simp, ?_⟩
  show DS K _ (t_is_integer_list K) [.sh x, .no] _ _ _ _
  unfold t_is_integer_list
  repeat walk_at "d"
  cases x with
  | list ds =>
    refine iteT ?_
    repeat walk_at "d"
    refine DE_new (DL_mapL (f := fun d => .bool (isInt d)) ?_)
    repeat walk_at "d"
    refine ⟨of_decide_eq_true hs, fun d _ => ?_, ?_⟩
    · repeat walk_at "d"
      exact ⟨d, rfl, rfl⟩
    · repeat walk_at "d"
      refine ⟨ds.map isInt, by simp, ?_⟩
      rw [List.all_map]
      exact q
  | _ => exact iteF q

def W_is_word (ds : List PyData) (R : PyData → Prop) : Prop := ∃ (s : Int) (x : PyData), ds = [.int s, x] ∧ shortD x = true ∧ R (.bool (isWord s x))
def t_is_word (K : PySem.W.Frag) : TS :=
  (tRet (tAndV (tCall (spP K W_is_integer_list) [] E0 (tCons (tVar 1) tNil)) (tCB (rAll K) (tCons (tLc (iList K (tVar 1)) (gName 2) tYes (tChain rLeI rLtI (tC (.int 0)) (tVar 2) (tVar 0)) [2]) tNil))))
def W_check_signs (ds : List PyData) (R : PyData → Prop) : Prop := ∃ x, ds = [x] ∧ isSign x = true ∧ R .none
def t_check_signs (K : PySem.W.Frag) : TS :=
  (tIfS (tNot (tB (tCall (spP K W_is_sign_count) [] E0 (tCons (tVar 0) tNil))))
    tNever
    tNext)
end Cf
/-! words of signs, their numbers; rings -/
namespace Cf
/-- the number of a word -/
def num (s : Int) (w : List Int) : Int := w.foldl (fun a d => a * s + d) 0
theorem num_snoc (s : Int) (w : List Int) (d : Int) : num s (w ++ [d]) = num s w * s + d := by
  unfold num
  rw [List.foldl_append]
  rfl
theorem foldl_num (s : Int) : ∀ (w : List Int) (a : Int), w.foldl (fun a d => a * s + d) a = a * s ^ w.length + num s w
  | [], a => by simp [num]
  | d :: w, a => by
    show w.foldl _ (a * s + d) = _
    rw [foldl_num s w (a * s + d)]
    show _ = a * s ^ (w.length + 1) + w.foldl (fun a d => a * s + d) (0 * s + d)
    rw [foldl_num s w (0 * s + d), Int.zero_mul, Int.zero_add, Int.add_mul, Int.pow_succ, Int.mul_assoc a s, Int.mul_comm s (s ^ w.length), Int.add_assoc]
theorem num_cons (s d : Int) (w : List Int) : num s (d :: w) = d * s ^ w.length + num s w := by
  show w.foldl _ (0 * s + d) = _
  rw [foldl_num, Int.zero_mul, Int.zero_add]
theorem pow_pos' {s : Int} (h : 0 < s) : ∀ n : Nat, 0 < s ^ n
  | 0 => by simp
  | n + 1 => by
    rw [Int.pow_succ]
    exact Int.mul_pos (pow_pos' h n) h
theorem num_bound {s : Int} (hs : 0 < s) : ∀ w : List Int, (∀ d ∈ w, 0 ≤ d ∧ d < s) → 0 ≤ num s w ∧ num s w < s ^ w.length
  | [], _ => by simp [num]
  | d :: w, h => by
    have ih := num_bound hs w fun x hx => h x (List.mem_cons_of_mem _ hx)
    obtain ⟨h1, h2⟩ := h d List.mem_cons_self
    have hp := pow_pos' hs w.length
    rw [num_cons, List.length_cons, Int.pow_succ]
    have e1 : 0 ≤ d * s ^ w.length := Int.mul_nonneg h1 (Int.le_of_lt hp)
    have e2 : (d + 1) * s ^ w.length ≤ s * s ^ w.length := Int.mul_le_mul_of_nonneg_right (by omega) (Int.le_of_lt hp)
    rw [Int.add_mul, Int.one_mul] at e2
    rw [Int.mul_comm (s ^ w.length) s]
    omega
/-- the sign at a place of a ring, round it -/
def at_ (r : List Int) (z : Int) : Int := r.getD (z % r.length).toNat 0
/-- the word of l cells from a place on -/
def win (r : List Int) (z : Int) (l : Nat) : List Int := (List.range l).map fun (k : Nat) => at_ r (z + k)
theorem win_length (r : List Int) (z : Int) (l : Nat) : (win r z l).length = l := by simp [win]
theorem win_succ (r : List Int) (z : Int) (l : Nat) : win r z (l + 1) = win r z l ++ [at_ r (z + l)] := by
  simp [win, List.range_succ]
theorem win_cons (r : List Int) (z : Int) (l : Nat) : win r z (l + 1) = at_ r z :: win r (z + 1) l := by
  unfold win
  rw [List.range_succ_eq_map, List.map_cons, List.map_map]
  congr 1
  · simp
  · apply List.map_congr_left
    intro k _
    show at_ r (z + ((k + 1 : Nat) : Int)) = at_ r (z + 1 + k)
    congr 1
    push_cast
    omega
theorem mod_lt {z : Int} {n : Nat} (h : 0 < n) : (z % (n : Int)).toNat < n ∧ (((z % (n : Int)).toNat : Nat) : Int) = z % n := by
  have h1 := Int.emod_nonneg z (show (n : Int) ≠ 0 by omega)
  have h2 := Int.emod_lt_of_pos z (show (0 : Int) < n by omega)
  omega
theorem at_get {r : List Int} (h : r ≠ []) (z : Int) : r[(z % r.length).toNat]? = some (at_ r z) := by
  have hp := (mod_lt (z := z) (List.length_pos_iff.mpr h)).1
  unfold at_
  rw [List.getD_eq_getElem?_getD, List.getElem?_eq_getElem hp]
  rfl
theorem at_mem {r : List Int} (h : r ≠ []) (z : Int) : at_ r z ∈ r := List.mem_of_getElem? (at_get h z)
theorem win_mem {r : List Int} (h : r ≠ []) {z : Int} {l : Nat} : ∀ d ∈ win r z l, d ∈ r := by
  intro d hd
  obtain ⟨k, _, rfl⟩ := List.mem_map.mp hd
  exact at_mem h _
def Signs (s : Int) (r : List Int) : Prop := ∀ d ∈ r, 0 ≤ d ∧ d < s
theorem win_signs {s : Int} {r : List Int} (h : r ≠ []) (hs : Signs s r) {z : Int} {l : Nat} : Signs s (win r z l) := fun d hd => hs d (win_mem h d hd)
/-- the numbers of the words of l cells, for each cell -/
def nums (s : Int) (l : Nat) (r : List Int) (st : Int) : List Int := (List.range r.length).map fun (c : Nat) => num s (win r (st + c) l)
/-- how many words, if they are not too many -/
def cw (s l m : Int) : Option Int := if s ^ l.toNat ≤ m then some (s ^ l.toNat) else none
theorem pow_mono {s : Int} (h : 1 ≤ s) {a b : Nat} (hab : a ≤ b) : s ^ a ≤ s ^ b := by
  obtain ⟨c, rfl⟩ := Nat.exists_eq_add_of_le hab
  clear hab
  induction c with
  | zero => simp
  | succ c ih =>
    rw [← Nat.add_assoc, Int.pow_succ]
    have hp : 0 < s ^ (a + c) := pow_pos' (by omega) _
    have e : s ^ (a + c) * 1 ≤ s ^ (a + c) * s := Int.mul_le_mul_of_nonneg_left h (Int.le_of_lt hp)
    rw [Int.mul_one] at e
    omega
/-- the sum of a ring -/
def ringSum (s : Int) (l : Nat) (vs : List Int) (r : List Int) : Int := ((nums s l r 0).map fun n => vs.getD n.toNat 0).sum
end Cf
namespace Cf
open PySem PySem.Spec PyProof.Rows L2
open Evl (Ex)
local macro_rules | `(tactic| walk_at "d") => `(tactic| first
  | (with_reducible refine DS_seq ?_)
  | (with_reducible refine DS_if ?_)
  | (with_reducible refine DS_ret ?_)
  | (with_reducible refine DS_next ?_)
  | (with_reducible refine DS_retN ?_)
  | (with_reducible refine DS_set ?_)
  | (with_reducible refine DS_drop ?_)
  | (with_reducible refine DS_unpack ?_)
  | (with_reducible refine DS_par ?_)
  | (with_reducible refine DE_int ?_)
  | (with_reducible refine DE_bl ?_)
  | (with_reducible refine DE_non ?_)
  | (with_reducible refine DE_str ?_)
  | (with_reducible refine DE_isi ?_)
  | (with_reducible refine DE_and ?_)
  | (with_reducible refine DE_or ?_)
  | (with_reducible refine DE_not ?_)
  | (with_reducible refine DE_if ?_)
  | (with_reducible refine DE_chain ?_)
  | (with_reducible refine DE_tyIs ?_)
  | (with_reducible refine DE_tyNot ?_)
  | (with_reducible refine DE_call ?_)
  | (with_reducible refine DE_cb ?_)
  | (with_reducible refine DE_op ?_)
  | (with_reducible refine DE_un ?_)
  | (with_reducible refine DE_tup ?_)
  | (with_reducible refine DT_test ?_)
  | (with_reducible refine DT_B ?_)
  | (with_reducible refine DT_and ?_)
  | (with_reducible refine DT_or ?_)
  | (with_reducible refine DT_not ?_)
  | (with_reducible refine DT_yes ?_)
  | (with_reducible refine DA_nil ?_)
  | (with_reducible refine DA_cons ?_)
  | (with_reducible refine DO_no ?_)
  | (with_reducible refine DO_at ?_)
  | (with_reducible refine DR_minus ?_)
  | (with_reducible refine DR_mod ?_)
  | (with_reducible refine DR_div ?_)
  | (with_reducible refine DR_pow ?_)
  | (with_reducible refine DR_lt ?_)
  | (with_reducible refine DR_le ?_)
  | (with_reducible refine DR_gt ?_)
  | (with_reducible refine DR_ge ?_)
  | (with_reducible refine DR_eq ?_)
  | (with_reducible refine DR_ne ?_)
  | (with_reducible refine DR_isN ?_)
  | (with_reducible refine DR_notN ?_)
  | (with_reducible refine DU_neg ?_)
  | (with_reducible refine DC_len ?_)
  | (with_reducible refine DC_int ?_)
  | (with_reducible refine DC_abs ?_)
  | (with_reducible refine DC_max2 ?_)
  | (with_reducible refine DC_min2 ?_)
  | (with_reducible refine DC_sum ?_)
  | (with_reducible refine DC_all ?_)
  | (with_reducible refine DC_any ?_)
  | (with_reducible refine DC_repr ?_)
  | (with_reducible refine ⟨_, kb_int _, ?_⟩)
  | (with_reducible refine ⟨_, kb_bool _, ?_⟩)
  | (with_reducible refine ⟨_, kb_list _, ?_⟩)
  | (with_reducible refine ⟨_, kb_tuple _, ?_⟩)
  | (with_reducible refine ⟨_, rfl, ?_⟩)
  | (with_reducible refine ⟨_, _, rfl, rfl, ?_⟩)
  | ((with_reducible refine' DE_var ?k1 ?_); (case k1 => exact rfl)))

theorem shp_int (i : Int) : SeqAt.shaped (.int i) = true := rfl
def optD : Option Int → PyData | none => .none | some v => .int v
def W_count_words (ds : List PyData) (R : PyData → Prop) : Prop := ∃ s l m : Int, ds = [.int s, .int l, .int m] ∧ 2 ≤ s ∧ s ≤ 4 ∧ 1 ≤ m ∧ R (optD (cw s l m))
def t_count_words (K : PySem.W.Frag) : TS :=
  (tSeq (tAsg (tC (.int 1)) (gName 3))
    (tSeq (tFor (iRg1 (tCons (tVar 1) tNil)) (gName 4)
    (tSeq (tAsg (tOp rTimes (tVar 3) (tVar 0)) (gName 3))
    (tIfS (tTest (tOp rGtI (tVar 3) (tVar 2)))
    (tRet (tC .non))
    tNext)))
    (tRet (tVar 3))))
theorem ds_count_words : Keeps W_count_words 5 t_count_words := by
  intro K ds R h
  obtain ⟨s, l, m, rfl, s2, s4, m1, q⟩ := h
  refine ⟨by simp, ?_⟩
  show DS K _ (t_count_words K) [.sh (.int s), .sh (.int l), .sh (.int m), .no, .no] _ _ _ _
  unfold t_count_words
  repeat walk_at "d"
  refine DS_forR1 ?_
  repeat walk_at "d"
  refine ⟨fun k ρ => s ^ k ≤ m ∧ ∃ z, ρ = [.sh (.int s), .sh (.int l), .sh (.int m), .sh (.int (s ^ k)), z], ⟨by simpa using m1, .no, by simp⟩, fun k ρ hk hI => ?_, fun ρ hI => ?_⟩
  · obtain ⟨hm, z, rfl⟩ := hI
    repeat walk_at "d"
    refine DR_timesI ⟨_, _, rfl, rfl, .inr ⟨by omega, by omega⟩, ?_⟩
    repeat walk_at "d"
    refine ite2 (fun h => ?_) fun h => ?_
    · repeat walk_at "d"
      have h : m < s ^ k * s := of_decide_eq_true h
      have e : cw s l m = none := by
        unfold cw
        rw [if_neg]
        intro z
        have := pow_mono (s := s) (by omega) (show k + 1 ≤ l.toNat by omega)
        rw [Int.pow_succ] at this
        omega
      rw [e] at q
      exact q
    · repeat walk_at "d"
      have h : ¬ m < s ^ k * s := fun z => h (decide_eq_true z)
      refine ⟨by rw [Int.pow_succ]; omega, .sh (.int (0 + (k : Int))), ?_⟩
      rw [Int.pow_succ]
      rfl
  · obtain ⟨hm, z, rfl⟩ := hI
    repeat walk_at "d"
    have e : cw s l m = some (s ^ l.toNat) := if_pos hm
    rw [e] at q
    exact q

def W_number_of (ds : List PyData) (R : PyData → Prop) : Prop := ∃ (s : Int) (ns : List Int), ds = [.int s, LI ns] ∧ 2 ≤ s ∧ s ≤ 4 ∧ R (.int (num s ns))
def t_number_of (K : PySem.W.Frag) : TS :=
  (tSeq (tAsg (tC (.int 0)) (gName 2))
    (tSeq (tFor (iList K (tVar 1)) (gName 3)
    (tAsg (tOp (rPlus K) (tOp rTimes (tVar 2) (tVar 0)) (tVar 3)) (gName 2)))
    (tRet (tVar 2))))
theorem map_at {α β : Type} {f : α → β} {l : List α} {k : Nat} {y : β} (h : (l.map f)[k]? = some y) : ∃ x, l[k]? = some x ∧ y = f x := by
  rw [List.getElem?_map] at h
  cases e : l[k]? with
  | none => rw [e] at h; cases h
  | some x =>
    rw [e] at h
    exact ⟨x, rfl, (Option.some.inj h).symm⟩
theorem ds_number_of : Keeps W_number_of 4 t_number_of := by
  intro K ds R h
  obtain ⟨s, ns, rfl, s2, s4, q⟩ := h
  refine ⟨by simp, ?_⟩
  show DS K _ (t_number_of K) [.sh (.int s), .sh (LI ns), .no, .no] _ _ _ _
  unfold t_number_of
  repeat walk_at "d"
  refine DS_forL ?_
  repeat walk_at "d"
  refine ⟨fun k ρ => ∃ z, ρ = [.sh (.int s), .sh (LI ns), .sh (.int (num s (ns.take k))), z], ⟨.no, by rfl⟩, fun k d ρ hd hI => ?_, fun ρ hI => ?_⟩
  · obtain ⟨z, rfl⟩ := hI
    obtain ⟨x, hx, rfl⟩ := map_at hd
    repeat walk_at "d"
    refine DR_timesI ⟨_, _, rfl, rfl, .inr ⟨by omega, by omega⟩, ?_⟩
    repeat walk_at "d"
    refine DR_plusI ⟨_, _, rfl, rfl, .sh (.int x), ?_⟩
    rw [take_snoc hx, num_snoc]
    rfl
  · obtain ⟨z, rfl⟩ := hI
    repeat walk_at "d"
    rw [List.length_map, List.take_length]
    exact q

def W_numbers_round1 (ds : List PyData) (R : PyData → Prop) : Prop := ∃ (s : Int) (l : Nat) (r : List Int) (st : Int), ds = [.int s, .int l, LI r, .int st] ∧ 2 ≤ s ∧ s ≤ 4 ∧ 1 ≤ l ∧ s ^ l ≤ 1024 ∧ l ≤ 1000 ∧ r ≠ [] ∧ r.length ≤ 5000 ∧ Signs s r ∧ R (LI (nums s l r st))
def t_numbers_round (K : PySem.W.Frag) : TS :=
  (tSeq (tAsg (tCB (rLenA K) (tCons (tVar 2) tNil)) (gName 4))
    (tSeq (tAsg (tCall (spP K W_count_words) [] E0 (tCons (tVar 0) (tCons (tVar 1) (tCons (tC (.int 1024)) tNil)))) (gName 5))
    (tSeq (tAsg (tOp rMinus (tOp (rPlus K) (tVar 3) (tVar 1)) (tC (.int 1))) (gName 6))
    (tSeq (tAsg (tCall (spP K W_number_of) [] E0 (tCons (tVar 0) (tCons (tLc (iRg2 (tCons (tVar 3) (tCons (tVar 6) tNil))) (gName 8) tYes (tOp (rIx K) (tVar 2) (tOp rModI (tVar 8) (tVar 4))) [8]) tNil))) (gName 7))
    (tSeq (tAsg (tLst tNil) (gName 9))
    (tSeq (tFor (iRg1 (tCons (tVar 4) tNil)) (gName 10)
    (tSeq (tAsg (tOp rModI (tOp (rPlus K) (tOp rTimes (tVar 7) (tVar 0)) (tOp (rIx K) (tVar 2) (tOp rModI (tOp (rPlus K) (tVar 6) (tVar 10)) (tVar 4)))) (tVar 5)) (gName 7))
    (tDrop (tBM K "list" rAppend (tVar 9) (tCons (tVar 7) tNil)))))
    (tRet (tVar 9))))))))
theorem atI_LI {r : List Int} (h : r ≠ []) (z : Int) : atI (r.map PyData.int) (z % r.length) = some (.int (at_ r z)) := by
  obtain ⟨h1, h2⟩ := mod_lt (z := z) (List.length_pos_iff.mpr h)
  rw [← h2]
  refine atI_nat ?_
  rw [List.getElem?_map, at_get h]
  rfl
def W_numbers_round (ds : List PyData) (R : PyData → Prop) : Prop := ∃ (s : Int) (l : Nat) (r : List Int) (st : Int), ds = [.int s, .int l, LI r, .int st] ∧ 2 ≤ s ∧ s ≤ 4 ∧ s ^ l ≤ 1024 ∧ l ≤ 1000 ∧ r ≠ [] ∧ r.length ≤ 5000 ∧ Signs s r ∧ R (LI (nums s l r st))
end Cf
namespace Cf
open PySem PySem.Spec PyProof.Rows L2
open Evl (Ex)
local macro_rules | `(tactic| walk_at "d") => `(tactic| first
  | (with_reducible refine DS_seq ?_)
  | (with_reducible refine DS_if ?_)
  | (with_reducible refine DS_ret ?_)
  | (with_reducible refine DS_next ?_)
  | (with_reducible refine DS_retN ?_)
  | (with_reducible refine DS_set ?_)
  | (with_reducible refine DS_drop ?_)
  | (with_reducible refine DS_unpack ?_)
  | (with_reducible refine DS_par ?_)
  | (with_reducible refine DE_int ?_)
  | (with_reducible refine DE_bl ?_)
  | (with_reducible refine DE_non ?_)
  | (with_reducible refine DE_str ?_)
  | (with_reducible refine DE_isi ?_)
  | (with_reducible refine DE_and ?_)
  | (with_reducible refine DE_or ?_)
  | (with_reducible refine DE_not ?_)
  | (with_reducible refine DE_if ?_)
  | (with_reducible refine DE_chain ?_)
  | (with_reducible refine DE_tyIs ?_)
  | (with_reducible refine DE_tyNot ?_)
  | (with_reducible refine DE_call ?_)
  | (with_reducible refine DE_cb ?_)
  | (with_reducible refine DE_op ?_)
  | (with_reducible refine DE_un ?_)
  | (with_reducible refine DE_tup ?_)
  | (with_reducible refine DT_test ?_)
  | (with_reducible refine DT_B ?_)
  | (with_reducible refine DT_and ?_)
  | (with_reducible refine DT_or ?_)
  | (with_reducible refine DT_not ?_)
  | (with_reducible refine DT_yes ?_)
  | (with_reducible refine DA_nil ?_)
  | (with_reducible refine DA_cons ?_)
  | (with_reducible refine DO_no ?_)
  | (with_reducible refine DO_at ?_)
  | (with_reducible refine DR_minus ?_)
  | (with_reducible refine DR_mod ?_)
  | (with_reducible refine DR_div ?_)
  | (with_reducible refine DR_pow ?_)
  | (with_reducible refine DR_lt ?_)
  | (with_reducible refine DR_le ?_)
  | (with_reducible refine DR_gt ?_)
  | (with_reducible refine DR_ge ?_)
  | (with_reducible refine DR_eq ?_)
  | (with_reducible refine DR_ne ?_)
  | (with_reducible refine DR_isN ?_)
  | (with_reducible refine DR_notN ?_)
  | (with_reducible refine DU_neg ?_)
  | (with_reducible refine DC_len ?_)
  | (with_reducible refine DC_int ?_)
  | (with_reducible refine DC_abs ?_)
  | (with_reducible refine DC_max2 ?_)
  | (with_reducible refine DC_min2 ?_)
  | (with_reducible refine DC_sum ?_)
  | (with_reducible refine DC_all ?_)
  | (with_reducible refine DC_any ?_)
  | (with_reducible refine DC_repr ?_)
  | (with_reducible refine ⟨_, kb_int _, ?_⟩)
  | (with_reducible refine ⟨_, kb_bool _, ?_⟩)
  | (with_reducible refine ⟨_, kb_list _, ?_⟩)
  | (with_reducible refine ⟨_, kb_tuple _, ?_⟩)
  | (with_reducible refine ⟨_, rfl, ?_⟩)
  | (with_reducible refine ⟨_, _, rfl, rfl, ?_⟩)
  | ((with_reducible refine' DE_var ?k1 ?_); (case k1 => exact rfl)))

def isRing (s : Int) : PyData → Bool | .list ds => isWord s (.list ds) && decide (1 ≤ ds.length ∧ ds.length ≤ 512) | _ => false
def W_is_ring (ds : List PyData) (R : PyData → Prop) : Prop := ∃ (s : Int) (x : PyData), ds = [.int s, x] ∧ 2 ≤ s ∧ s ≤ 4 ∧ shortD x = true ∧ R (.bool (isRing s x))
def t_is_ring (K : PySem.W.Frag) : TS :=
  (tSeq (tDrop (tCall (spP K W_check_signs) [] E0 (tCons (tVar 0) tNil)))
    (tRet (tAndV (tCall (spP K W_is_word) [] E0 (tCons (tVar 0) (tCons (tVar 1) tNil))) (tChain rLeI rLeI (tC (.int 1)) (tCB (rLenA K) (tCons (tVar 1) tNil)) (tC (.int 512))))))
def W_check_ring (ds : List PyData) (R : PyData → Prop) : Prop := ∃ (s : Int) (x : PyData), ds = [.int s, x] ∧ 2 ≤ s ∧ s ≤ 4 ∧ shortD x = true ∧ isRing s x = true ∧ R .none
def t_check_ring (K : PySem.W.Frag) : TS :=
  (tIfS (tNot (tB (tCall (spP K W_is_ring) [] E0 (tCons (tVar 0) (tCons (tVar 1) tNil)))))
    tNever
    tNext)
def isWeight : PyData → Bool
  | .tuple [.int s, .int l, .list vs] => decide (2 ≤ s ∧ s ≤ 4) && decide (1 ≤ l) && vs.all isInt && decide (cw s l 1024 = some (vs.length : Int))
  | _ => false
/-- short, and the third item too -/
def shortW : PyData → Bool
  | .tuple [a, b, c] => shortD c
  | .list ds => decide (ds.length < 100000)
  | .tuple ds => decide (ds.length < 100000)
  | .str z => decide (z.length < 100000)
  | _ => true
def W_is_weight (ds : List PyData) (R : PyData → Prop) : Prop := ∃ (x : PyData), ds = [x] ∧ shortW x = true ∧ R (.bool (isWeight x))
def t_is_weight (K : PySem.W.Frag) : TS :=
  (tSeq (tIfS (tOr (tTest (tOp rNT (tCB (rTyp K) (tCons (tVar 0) tNil)) (tC (.ty "tuple")))) (tTest (tOp (rNeU K) (tCB (rLenA K) (tCons (tVar 0) tNil)) (tC (.int 3)))))
    (tRet (tC (.bl false)))
    tNext)
    (tSeq (tAsg (tVar 0) (gTup K 3 (gNames [1, 2, 3])))
    (tSeq (tIfS (tOr (tNot (tB (tCall (spP K W_is_sign_count) [] E0 (tCons (tVar 1) tNil)))) (tOr (tNot (tB (tCall (spP K W_is_integer) [] E0 (tCons (tVar 2) tNil)))) (tOr (tTest (tOp rLtI (tVar 2) (tC (.int 1)))) (tNot (tB (tCall (spP K W_is_integer_list) [] E0 (tCons (tVar 3) tNil)))))))
    (tRet (tC (.bl false)))
    tNext)
    (tRet (tOp (rEqU K) (tCB (rLenA K) (tCons (tVar 3) tNil)) (tCall (spP K W_count_words) [] E0 (tCons (tVar 1) (tCons (tVar 2) (tCons (tC (.int 1024)) tNil)))))))))
theorem eqv_opt (n : Int) (o : Option Int) : PyData.eqv (.int n) (optD o) = decide (o = some n) := by
  cases o with
  | none => rfl
  | some v =>
    show (n == v) = _
    rw [Bool.eq_iff_iff]
    simp
    exact ⟨fun h => h.symm, fun h => h.symm⟩
theorem shp_opt (o : Option Int) : SeqAt.shaped (optD o) = true := by
  cases o <;> rfl
theorem isWeight_no {x : PyData} (h : ∀ s l vs, x = .tuple [.int s, .int l, .list vs] → ¬ (2 ≤ s ∧ s ≤ 4 ∧ 1 ≤ l ∧ vs.all isInt = true)) : isWeight x = false := by
  unfold isWeight
  split
  · rename_i s l vs
    cases e : (decide (2 ≤ s ∧ s ≤ 4) && decide (1 ≤ l) && vs.all isInt) with
    | false => rfl
    | true =>
      simp at e
      exact absurd ⟨e.1.1.1, e.1.1.2, e.1.2, by simpa using e.2⟩ (h s l vs rfl)
  · rfl
theorem ds_is_weight : Keeps W_is_weight 4 t_is_weight := by
  intro K ds R h
  obtain ⟨x, rfl, hs, q⟩ := h
  refine ⟨by simp, ?_⟩
  show DS K _ (t_is_weight K) [.sh x, .no, .no, .no] _ _ _ _
  unfold t_is_weight
  repeat walk_at "d"
  cases x with
  | tuple ds =>
    refine iteF ?_
    repeat walk_at "d"
    refine ⟨shp_int _, shp_int _, _, rfl, ite2 (fun h => ?_) fun h => ?_⟩
    · repeat walk_at "d"
      have e : isWeight (.tuple ds) = false := isWeight_no fun s l vs e => by
        cases e
        cases (show false = true from h)
      rw [e] at q
      exact q
    · have e : ds.length = 3 := by
        have h : ((ds.length : Int) == 3) = true := by
          cases z : ((ds.length : Int) == 3) with
          | true => rfl
          | false => exact absurd (show (!((ds.length : Int) == 3)) = true by rw [z]; rfl) h
        have := of_decide_eq_true h
        omega
      obtain ⟨a, b, c, rfl⟩ : ∃ a b c, ds = [a, b, c] := by
        match ds, e with
        | [a, b, c], _ => exact ⟨a, b, c, rfl⟩
      have hs : shortD c = true := hs
      repeat walk_at "d"
      refine ⟨rfl, rfl, ?_⟩
      repeat walk_at "d"
      refine ⟨a, rfl, _, rfl, ?_⟩
      cases ha : isSign a with
      | false =>
        refine iteT (iteT ?_)
        repeat walk_at "d"
        have e : isWeight (.tuple [a, b, c]) = false := isWeight_no fun s l vs e ⟨h1, h2, _⟩ => by
          cases e
          rw [show isSign (.int s) = true from decide_eq_true ⟨h1, h2⟩] at ha
          cases ha
        rw [e] at q
        exact q
      | true =>
        refine iteF ?_
        repeat walk_at "d"
        refine ⟨b, rfl, _, rfl, ?_⟩
        cases hb : isInt b with
        | false =>
          refine iteT (iteT ?_)
          repeat walk_at "d"
          have e : isWeight (.tuple [a, b, c]) = false := isWeight_no fun s l vs e _ => by
            cases e
            cases hb
          rw [e] at q
          exact q
        | true =>
          refine iteF ?_
          obtain ⟨l, rfl⟩ : ∃ l, b = .int l := by
            cases b with
            | int l => exact ⟨l, rfl⟩
            | _ => cases hb
          obtain ⟨s, rfl⟩ : ∃ s, a = .int s := by
            cases a with
            | int s => exact ⟨s, rfl⟩
            | _ => cases ha
          have hss : 2 ≤ s ∧ s ≤ 4 := of_decide_eq_true ha
          repeat walk_at "d"
          refine ite2 (fun h1 => iteT ?_) fun h1 => ?_
          · repeat walk_at "d"
            have h1 : l < 1 := of_decide_eq_true h1
            have e : isWeight (.tuple [.int s, .int l, c]) = false := isWeight_no fun s l vs e ⟨_, _, h, _⟩ => by
              cases e
              omega
            rw [e] at q
            exact q
          · have h1 : ¬ l < 1 := fun z => h1 (decide_eq_true z)
            repeat walk_at "d"
            refine ⟨c, rfl, hs, _, rfl, ?_⟩
            cases hc : isIntL c with
            | false =>
              refine iteT ?_
              repeat walk_at "d"
              have e : isWeight (.tuple [.int s, .int l, c]) = false := isWeight_no fun s l vs e ⟨_, _, _, hh⟩ => by
                cases e
                rw [show isIntL (.list vs) = true from hh] at hc
                cases hc
              rw [e] at q
              exact q
            | true =>
              obtain ⟨vs, rfl⟩ : ∃ vs, c = .list vs := by
                cases c with
                | list vs => exact ⟨vs, rfl⟩
                | _ => cases hc
              refine iteF ?_
              repeat walk_at "d"
              refine ⟨s, l, 1024, rfl, hss.1, hss.2, by decide, ?_⟩
              repeat walk_at "d"
              refine ⟨shp_int _, shp_opt _, ?_⟩
              rw [eqv_opt]
              have e : isWeight (.tuple [.int s, .int l, .list vs]) = decide (cw s l 1024 = some (vs.length : Int)) := by
                show (decide (2 ≤ s ∧ s ≤ 4) && decide (1 ≤ l) && vs.all isInt && _) = _
                rw [decide_eq_true hss, decide_eq_true (show 1 ≤ l by omega), show vs.all isInt = true from hc]
                rfl
              rw [e] at q
              exact q
  | _ => exact iteT (by exact (DS_ret (DE_bl q)))

def W_check_weight (ds : List PyData) (R : PyData → Prop) : Prop := ∃ (x : PyData), ds = [x] ∧ shortW x = true ∧ isWeight x = true ∧ R .none
def t_check_weight (K : PySem.W.Frag) : TS :=
  (tIfS (tNot (tB (tCall (spP K W_is_weight) [] E0 (tCons (tVar 0) tNil))))
    tNever
    tNext)
theorem ds_check_weight : Keeps W_check_weight 1 t_check_weight := by
  intro K ds R h
  obtain ⟨x, rfl, hs, hr, q⟩ := h
  refine ⟨by simp, ?_⟩
  show DS K _ (t_check_weight K) [.sh x] _ _ _ _
  unfold t_check_weight
  repeat walk_at "d"
  refine ⟨x, rfl, hs, _, rfl, ?_⟩
  rw [hr]
  refine iteF ?_
  repeat walk_at "d"
  exact q

/-- a weight: signs, span, values -/
structure Wt (s : Int) (l : Nat) (vs : List Int) : Prop where
  s2 : 2 ≤ s
  s4 : s ≤ 4
  l1 : 1 ≤ l
  le : s ^ l ≤ 1024
  ln : s ^ l = (vs.length : Int)
abbrev wtD (s : Int) (l : Nat) (vs : List Int) : PyData := .tuple [.int s, .int l, LI vs]
theorem two_pow_le {s : Int} (h : 2 ≤ s) : ∀ l : Nat, (l : Int) + 1 ≤ s ^ l
  | 0 => by simp
  | l + 1 => by
    have ih := two_pow_le h l
    rw [Int.pow_succ]
    have : s ^ l * 2 ≤ s ^ l * s := Int.mul_le_mul_of_nonneg_left h (by omega)
    push_cast
    omega
theorem Wt.small {s : Int} {l : Nat} {vs : List Int} (h : Wt s l vs) : l ≤ 10 := by
  by_cases z : l ≤ 10
  · exact z
  · have h1 : s ^ 11 ≤ s ^ l := pow_mono (by have := h.s2; omega) (by omega)
    have h2 : (2 : Int) ^ 11 ≤ s ^ 11 := by
      have : ∀ n : Nat, (2 : Int) ^ n ≤ s ^ n := fun n => by
        induction n with
        | zero => simp
        | succ n ih =>
          rw [Int.pow_succ, Int.pow_succ]
          have a : (2 : Int) ^ n * 2 ≤ s ^ n * 2 := Int.mul_le_mul_of_nonneg_right ih (by decide)
          have b : s ^ n * 2 ≤ s ^ n * s := Int.mul_le_mul_of_nonneg_left h.s2 (Int.le_of_lt (pow_pos' (by have := h.s2; omega) n))
          omega
      exact this 11
    have := h.le
    have e : (2 : Int) ^ 11 = 2048 := by decide
    omega
theorem all_int (ns : List Int) : (ns.map PyData.int).all isInt = true := by
  rw [List.all_map]
  exact List.all_eq_true.mpr fun _ _ => rfl
theorem wt_is {s : Int} {l : Nat} {vs : List Int} (h : Wt s l vs) : isWeight (wtD s l vs) = true := by
  show (decide (2 ≤ s ∧ s ≤ 4) && decide (1 ≤ (l : Int)) && (vs.map PyData.int).all isInt && decide (cw s l 1024 = some (((vs.map PyData.int).length : Nat) : Int))) = true
  rw [decide_eq_true ⟨h.s2, h.s4⟩, decide_eq_true (show 1 ≤ (l : Int) by have := h.l1; omega), all_int, List.length_map]
  have : cw s l 1024 = some (vs.length : Int) := by
    unfold cw
    rw [Int.toNat_natCast, if_pos h.le, h.ln]
  rw [this]
  simp
theorem Wt.len {s : Int} {l : Nat} {vs : List Int} (h : Wt s l vs) : vs.length ≤ 1024 := by
  have := h.ln
  have := h.le
  omega
theorem wt_short {s : Int} {l : Nat} {vs : List Int} (h : Wt s l vs) : shortW (wtD s l vs) = true := by
  show decide ((vs.map PyData.int).length < 100000) = true
  have := h.len
  exact decide_eq_true (by rw [List.length_map]; omega)
/-- a ring with s signs -/
structure Rg (s : Int) (r : List Int) : Prop where
  ne : r ≠ []
  le : r.length ≤ 512
  ok : Signs s r
def W_ring_sum (ds : List PyData) (R : PyData → Prop) : Prop := ∃ (s : Int) (l : Nat) (vs r : List Int), ds = [wtD s l vs, LI r] ∧ Wt s l vs ∧ r ≠ [] ∧ r.length ≤ 5000 ∧ Signs s r ∧ R (.int (ringSum s l vs r))
def t_ring_sum (K : PySem.W.Frag) : TS :=
  (tSeq (tAsg (tVar 0) (gTup K 3 (gNames [2, 3, 4])))
    (tRet (tCB (rSum K) (tCons (tLc (iList K (tCall (spP K W_numbers_round) [] E0 (tCons (tVar 2) (tCons (tVar 3) (tCons (tVar 1) (tCons (tC (.int 0)) tNil)))))) (gName 5) tYes (tOp (rIx K) (tVar 4) (tVar 5)) [5]) tNil))))
theorem atI_ok {vs : List Int} {z : Int} (h0 : 0 ≤ z) (h1 : z < vs.length) : atI (vs.map PyData.int) z = some (.int (vs.getD z.toNat 0)) := by
  obtain ⟨n, rfl⟩ := Int.eq_ofNat_of_zero_le h0
  refine atI_nat ?_
  have hn : n < vs.length := by omega
  rw [List.getElem?_map, List.getElem?_eq_getElem hn]
  simp [List.getD_eq_getElem?_getD, List.getElem?_eq_getElem hn]
def W_sum_of (ds : List PyData) (R : PyData → Prop) : Prop := ∃ (s : Int) (l : Nat) (vs r : List Int), ds = [wtD s l vs, LI r] ∧ Wt s l vs ∧ Rg s r ∧ R (.int (ringSum s l vs r))
def t_sum_of (K : PySem.W.Frag) : TS :=
  (tSeq (tDrop (tCall (spP K W_check_weight) [] E0 (tCons (tVar 0) tNil)))
    (tSeq (tDrop (tCall (spP K W_check_ring) [] E0 (tCons (tOp (rIx K) (tVar 0) (tC (.int 0))) (tCons (tVar 1) tNil))))
    (tRet (tCall (spP K W_ring_sum) [] E0 (tCons (tVar 0) (tCons (tVar 1) tNil))))))
end Cf
namespace Cf
open PySem PySem.Spec PyProof.Rows L2
open Evl (Ex)
abbrev KeepsT (W : List PyData → (PyData → Prop) → Prop) (n : Nat) (tb : PySem.W.Frag → TS) : Prop :=
  ∀ (K : PySem.W.Frag) (a : Addr) (ds : List PyData) (R : PyData → Prop), W ds R → ds.length + 1 ≤ n ∧ DS K (some a) (tb K) (Sl.tp :: ds.map Sl.sh ++ List.replicate (n - (ds.length + 1)) Sl.no) (fun _ => R .none) R NoR NoR
/-- a number below the bound -/
def W__law_draw (ds : List PyData) (R : PyData → Prop) : Prop := ∃ b : Int, ds = [.int b] ∧ 0 < b ∧ b < 2 ^ 8000 ∧ ∀ r : Int, 0 ≤ r → r < b → R (.int r)
def t__law_draw (K : PySem.W.Frag) : TS :=
  (tSeq (tIfS (tTest (tOp rGeI (tOp (rIx K) (tVar 0) (tC (.int 0))) (tOp rPowI (tC (.int 10)) (tC (.int 18)))))
    (tSeq (tAsg (tOp rModI (tCB rIntA (tCons (tOp (rIx K) (tVar 0) (tC (.int 0))) tNil)) (tVar 1)) (gName 2))
    (tSeq (tAsg (tOp rDivI (tOp (rIx K) (tVar 0) (tC (.int 0))) (tVar 1)) (gSub (tVar 0) (tC (.int 0)) rSetL))
    (tRet (tVar 2))))
    tNext)
    (tSeq (tAsg (tOp rModI (tCB rIntA (tCons (tOp (rPlus K) (tOp rTimes (tOp (rIx K) (tVar 0) (tC (.int 1))) (tC (.int 69069))) (tC (.int 40503))) tNil)) (tC (.int 4294967291))) (gSub (tVar 0) (tC (.int 1)) rSetL))
    (tSeq (tAsg (tOp rModI (tCB rIntA (tCons (tOp (rPlus K) (tOp rTimes (tOp (rIx K) (tVar 0) (tC (.int 2))) (tOp (rIx K) (tVar 0) (tC (.int 2)))) (tOp (rIx K) (tVar 0) (tC (.int 1)))) tNil)) (tC (.int 2147483587))) (gSub (tVar 0) (tC (.int 2)) rSetL))
    (tRet (tOp rModI (tCB rIntA (tCons (tOp (rPlus K) (tOp rDivI (tOp (rIx K) (tVar 0) (tC (.int 1))) (tC (.int 32))) (tOp rDivI (tOp (rIx K) (tVar 0) (tC (.int 2))) (tC (.int 16)))) tNil)) (tVar 1))))))
theorem tp_write {a : Addr} {F H : Hp} {x y z x' y' z' : Int} (e : Ex F H) (tp : TpOk (some a) F H) (h : H a = some (.lst [.int x, .int y, .int z])) (t2 : Tap x' y' z') :
    Gr (some a) F H F (upd H a (.lst [.int x', .int y', .int z'])) ∧ TpOk (some a) F (upd H a (.lst [.int x', .int y', .int z'])) := by
  obtain ⟨n, _⟩ := tp a rfl
  refine ⟨⟨Ex.refl F, fun b o nb q => ?_, fun b o q => ?_, fun b o q w => by rw [w] at q; cases q⟩, fun b hb => ?_⟩
  · rw [upd_ne (fun z => nb (by rw [z]))]
    exact q
  · rw [upd_ne (fun z => by rw [z, n] at q; cases q)]
    exact e b o q
  · cases hb
    exact ⟨n, x', y', z', upd_same, t2⟩
theorem div_nn {x b : Int} (hx : 0 ≤ x) (hb : 0 < b) : 0 ≤ x / b := Int.ediv_nonneg hx (by omega)
theorem wide_any {i j : Int} (h : 0 < j) (hb : j < 2 ^ 8000) : CDivW i j := wide_div h (b := 8000) (by
  have e : ((j.natAbs : Nat) : Int) = j := Int.natAbs_of_nonneg (by omega)
  have e2 : ((2 ^ 8000 : Nat) : Int) = (2 : Int) ^ 8000 := by rw [Int.natCast_pow]; rfl
  have : ((j.natAbs : Nat) : Int) < ((2 ^ 8000 : Nat) : Int) := by rw [e, e2]; exact hb
  exact Int.ofNat_lt.mp this) (by decide) (by decide)
theorem run_draw {K : PySem.W.Frag} {vs : List V} {H : Hp} {Q : VK} {E : XK} (h : spT K W__law_draw vs H Q E) : t__law_draw K { nx := fun _ H' => Q .non H', rt := Q } (L2.start ["tap", "bound", "found"] vs) H := by
  obtain ⟨a, ws, F, ds, R, rfl, e, tp, z, ⟨b, rfl, b0, b1, q⟩, k⟩ := h
  obtain ⟨v, rfl, zv⟩ := dqs1 z
  cases zv
  obtain ⟨n, x, y, w, hH, ht⟩ := tp a rfl
  have g : ∀ (i : Int) (u : V), atI [V.int x, .int y, .int w] i = some u → ∀ (Q : VK), Q u H → rIx K (.ref a) (.int i) H Q := fun i u hu Q q => .inl ⟨a, _, i, u, rfl, rfl, .inl (.inl hH), hu, q⟩
  unfold t__law_draw
  refine ⟨_, rfl, g 0 _ rfl _ ⟨10, 18, rfl, rfl, ⟨by decide, by decide, by decide⟩, x, _, rfl, rfl, _, rfl, ite2 (fun hx => ?_) fun hx => ?_⟩⟩
  · have hx : (10 : Int) ^ (18 : Int).toNat ≤ x := of_decide_eq_true hx
    refine ⟨_, rfl, g 0 _ rfl _ (.inl ⟨x, rfl, _, rfl, x, b, rfl, rfl, b0, ?_⟩)⟩
    refine ⟨_, rfl, g 0 _ rfl _ ⟨_, rfl, x, b, rfl, rfl, wide_any b0 b1, ?_⟩⟩
    refine ⟨_, rfl, a, _, 0, 0, rfl, rfl, hH, rfl, ?_⟩
    have t2 : Tap (x / b) y w := ⟨div_nn ht.x0 b0, ht.y0, ht.y1, ht.z0, ht.z1⟩
    obtain ⟨g2, tp2⟩ := tp_write e tp hH t2
    refine ⟨_, rfl, k _ _ F _ (q (x % b) (Int.emod_nonneg _ (by omega)) (Int.emod_lt_of_pos _ b0)) g2 tp2 (.int _)⟩
  · refine ⟨_, rfl, g 1 _ rfl _ (.inl ⟨y, 69069, rfl, rfl, .inr ⟨by decide, by decide⟩, .inl ⟨_, _, rfl, rfl, .inl ⟨_, rfl, _, _, rfl, rfl, (by show (0 : Int) < 4294967291; decide), ?_⟩⟩⟩)⟩
    dsimp only
    generalize hy : (y * 69069 + 40503) % 4294967291 = y'
    have y0 : 0 ≤ y' := by omega
    have y1 : y' < 2 ^ 40 := by omega
    refine ⟨_, rfl, a, _, 1, 1, rfl, rfl, hH, rfl, ?_⟩
    have hH2 : (upd H a (.lst ([V.int x, .int y, .int w].set 1 (.int y')))) a = some (.lst [.int x, .int y', .int w]) := upd_same
    have g' : ∀ (i : Int) (u : V), atI [V.int x, .int y', .int w] i = some u → ∀ (Q : VK), Q u (upd H a (.lst ([V.int x, .int y, .int w].set 1 (.int y')))) → rIx K (.ref a) (.int i) (upd H a (.lst ([V.int x, .int y, .int w].set 1 (.int y')))) Q := fun i u hu Q q => .inl ⟨a, _, i, u, rfl, rfl, .inl (.inl hH2), hu, q⟩
    have w1 := ht.z1
    have w0 := ht.z0
    refine ⟨_, rfl, g' 2 _ rfl _ ⟨_, rfl, g' 2 _ rfl _ (.inl ⟨w, w, rfl, rfl, .inl ⟨by omega, by omega⟩, ?_⟩)⟩⟩
    refine ⟨_, rfl, g' 1 _ rfl _ (.inl ⟨_, _, rfl, rfl, .inl ⟨_, rfl, _, _, rfl, rfl, (by show (0 : Int) < 2147483587; decide), ?_⟩⟩)⟩
    dsimp only
    generalize hz : (w * w + y') % 2147483587 = w'
    have z0 : 0 ≤ w' := by omega
    have z1 : w' < 2 ^ 40 := by omega
    refine ⟨_, rfl, a, _, 2, 2, rfl, rfl, hH2, rfl, ?_⟩
    rw [upd_upd]
    have hH3 : (upd H a (.lst ([V.int x, .int y', .int w].set 2 (.int w')))) a = some (.lst [.int x, .int y', .int w']) := upd_same
    have g3 : ∀ (i : Int) (u : V), atI [V.int x, .int y', .int w'] i = some u → ∀ (Q : VK), Q u (upd H a (.lst ([V.int x, .int y', .int w].set 2 (.int w')))) → rIx K (.ref a) (.int i) (upd H a (.lst ([V.int x, .int y', .int w].set 2 (.int w')))) Q := fun i u hu Q q => .inl ⟨a, _, i, u, rfl, rfl, .inl (.inl hH3), hu, q⟩
    refine ⟨_, rfl, g3 1 _ rfl _ ⟨_, _, rfl, rfl, wide_div (b := 8) (by decide) (by decide) (by decide) (by decide), ?_⟩⟩
    refine ⟨_, rfl, g3 2 _ rfl _ ⟨_, _, rfl, rfl, wide_div (b := 8) (by decide) (by decide) (by decide) (by decide), ?_⟩⟩
    refine .inl ⟨_, _, rfl, rfl, .inl ⟨_, rfl, _, rfl, _, b, rfl, rfl, b0, ?_⟩⟩
    have t2 : Tap x y' w' := ⟨ht.x0, y0, y1, z0, z1⟩
    obtain ⟨g2, tp2⟩ := tp_write e tp hH t2
    exact k _ _ F _ (q _ (Int.emod_nonneg _ (by omega)) (Int.emod_lt_of_pos _ b0)) g2 tp2 (.int _)
end Cf
namespace Cf
open PySem PySem.Spec PyProof.Rows L2
open Evl (Ex)
section
variable {K : PySem.W.Frag} {t : Option Addr} {ρ : Rho} {i : Nat} {te : TE}
/-- the promise of a def that makes a new list of its own -/
def spF (K : PySem.W.Frag) (W : List PyData → (List PyData → Prop) → Prop) : Sp := fun vs H Q _ => ∃ F ds R, Ex F H ∧ Dqs K F ds vs ∧ W ds R ∧
  ∀ es p xs F' H', R es → Gr none F H F' H' → H p = none → F' p = none → H' p = some (.lst xs) → Dqs K F' es xs → Q (.ref p) H'
theorem DL_callF {W : List PyData → (List PyData → Prop) → Prop} {E : XK} {tr : TA} {Q : List PyData → Prop} (h : DA K t tr ρ fun ds => W ds Q) : DL K t (tCall (spF K W) [] E tr) ρ Q := fun F0 H0 F H σ A QK k =>
  h F0 H0 F H σ A _ fun ds vs F1 H1 hq e1 z => ⟨F1, ds, Q, e1.g.fh, by rw [List.append_nil]; exact z, hq, fun es p xs F' H' q g n1 n2 n3 zd => k es p xs F' H' q (e1.trans ((A.step e1).stp g)) (e1.back n1) n2 n3 zd⟩
def DSF (K : PySem.W.Frag) (ts : TS) (ρ : Rho) (R : List PyData → Prop) : Prop := ∀ (F0 H0 F H : Hp) (σ : L2.St) (D : Ends), At K none F0 H0 F H σ ρ →
  (∀ es p xs F' H', R es → Gr none F H F' H' → H p = none → F' p = none → H' p = some (.lst xs) → Dqs K F' es xs → D.rt (.ref p) H') → ts D σ H
theorem DSF_ret {R : List PyData → Prop} (h : DL K none te ρ R) : DSF K (tRet te) ρ R := fun F0 H0 F H σ D A k => h F0 H0 F H σ A _ fun es p xs F' H' q e n n1 n2 z => k es p xs F' H' q e.g n n1 n2 z
theorem DSF_set {t2 : TS} {R : List PyData → Prop} (h : DE K none te ρ fun d => DSF K t2 (ρ.set i (.sh d)) R) : DSF K (tSeq (tAsg te (gName i)) t2) ρ R := fun F0 H0 F H σ D A k =>
  h F0 H0 F H σ A _ fun d v F1 H1 q e z => q F0 H0 F1 H1 _ D ((A.step e).set (s := .sh d) ⟨v, rfl, z⟩ fun _ e => by cases e) fun es p xs F' H' q g n n1 n2 z =>
    k es p xs F' H' q (e.g.trans g fun a z => by cases z) (e.back n) n1 n2 z
theorem run_F {W : List PyData → (List PyData → Prop) → Prop} {N : List Str} {vs : List V} {H : Hp} {Q : VK} {E : XK} {ts : TS} (h : spF K W vs H Q E)
    (b : ∀ ds R, W ds R → ds.length ≤ N.length ∧ DSF K ts (ds.map Sl.sh ++ List.replicate (N.length - ds.length) Sl.no) R) : ts { nx := fun _ H' => Q .non H', rt := Q } (L2.start N vs) H := by
  obtain ⟨F, ds, R, e, z, hW, k⟩ := h
  obtain ⟨hl, b⟩ := b ds R hW
  have A : At K none F H F H (L2.start N vs) (ds.map Sl.sh ++ List.replicate (N.length - ds.length) Sl.no) := by
    refine ⟨Gr.refl e, ?_, fun i o s h1 h2 => ?_, fun i j p es fs n h1 => ?_, fun a q => by cases q⟩
    · unfold L2.start
      simp [z.len]
    · unfold L2.start at h1
      by_cases hi : i < ds.length
      · rw [List.getElem?_append_left (by simpa [z.len] using hi), List.getElem?_map] at h1
        rw [List.getElem?_append_left (by simpa using hi), List.getElem?_map] at h2
        rw [List.getElem?_eq_getElem hi] at h2
        cases h2
        obtain ⟨v, hv, zd⟩ := z.at (i := i) (List.getElem?_eq_getElem hi)
        rw [hv] at h1
        cases h1
        exact ⟨v, rfl, zd⟩
      · rw [List.getElem?_append_right (by simpa using hi)] at h2
        have := List.mem_of_getElem? h2
        have := (List.mem_replicate.mp this).2
        subst this
        trivial
    · have := List.mem_of_getElem? h1
      rcases List.mem_append.mp this with m | m
      · obtain ⟨d, _, m⟩ := List.mem_map.mp m
        cases m
      · have := (List.mem_replicate.mp m).2
        cases this
  exact b F H F H _ _ A fun es p xs F' H' q g n n1 n2 z => k es p xs F' H' q g n n1 n2 z
theorem DC_list {xs : List PyData} {Q : PyData → Prop} (h : ∃ ds, (xs = [.list ds] ∨ xs = [.tuple ds]) ∧ Q (.list ds)) : DC K (rListA K) xs Q := fun vs F H e z QK k => by
  obtain ⟨ds, h, q⟩ := h
  refine DCL_list (Q := fun ds => Q (.list ds)) ⟨ds, h, q⟩ vs F H e z QK fun es p ys F' H' q g n n1 n2 z => ?_
  have e1 : Ex F' (upd F' p (.lst ys)) := Ex.new n1
  refine k _ _ (upd F' p (.lst ys)) H' q ⟨g.ff.trans e1, g.hh, fun a o w => ?_, fun a o w u => ?_⟩ (.lst (.inl (.inl upd_same)) (z.up e1))
  · by_cases y : a = p
    · subst y
      rw [upd_same] at w
      cases w
      exact n2
    · rw [upd_ne y] at w
      exact g.fh a o w
  · by_cases y : a = p
    · rw [y]
      exact n
    · rw [upd_ne y] at w
      exact g.nw a o w u
theorem DR_catL {x y : PyData} {Q : PyData → Prop} (h : ∃ ds es, x = .list ds ∧ y = .list es ∧ ds.length + es.length ≤ 100000 ∧ Q (.list (ds ++ es))) : DR K (rPlus K) x y Q := fun v w F H e q1 q2 QK k => by
  refine DRL_cat (Q := fun ds => Q (.list ds)) h v w F H e q1 q2 QK fun es p ys F' H' q g n n1 n2 z => ?_
  have e1 : Ex F' (upd F' p (.lst ys)) := Ex.new n1
  refine k _ _ (upd F' p (.lst ys)) H' q ⟨g.ff.trans e1, g.hh, fun a o w => ?_, fun a o w u => ?_⟩ (.lst (.inl (.inl upd_same)) (z.up e1))
  · by_cases y : a = p
    · subst y
      rw [upd_same] at w
      cases w
      exact n2
    · rw [upd_ne y] at w
      exact g.fh a o w
  · by_cases y : a = p
    · rw [y]
      exact n
    · rw [upd_ne y] at w
      exact g.nw a o w u
/-- xs[::-1] -/
theorem DL_rev {Q : List PyData → Prop} (h : DE K t te ρ fun x => ∃ ds, x = .list ds ∧ Q ds.reverse) : DL K t (tRevL K te) ρ Q := fun F0 H0 F H σ A QK k =>
  h F0 H0 F H σ A _ fun x v F1 H1 hq e1 z => by
    obtain ⟨ds, rfl, q⟩ := hq
    have A1 := A.step e1
    cases z with
    | @lst a xs _ s1 s2 => exact ⟨a, xs, rfl, Evl.ex_l A1.fh s1, fun p n => k _ p _ _ _ q (e1.trans (A1.stp (Gr.free A1.fh n))) (e1.back n) (ex_none A1.fh n) upd_same s2.rev⟩
theorem DL_revOw {ds : List PyData} {Q : List PyData → Prop} (h : ρ[i]? = some (.ow ds)) (q : Q ds.reverse) : DL K t (tRevL K (tVar i)) ρ Q := fun F0 H0 F H σ A QK k => by
  obtain ⟨p, xs, e, h1, h2, h3, h4, h5⟩ := A.own h
  exact ⟨.ref p, e, p, xs, rfl, .inl (.inl h1), fun r n => k _ r _ _ _ q (A.stp (Gr.free A.fh n)) n (ex_none A.fh n) upd_same h5.rev⟩
end
end Cf
/-! a result whose last item is a list of its own, changed later; what was there before stays -/
namespace Cf
open PySem PySem.Spec PyProof.Rows L2
open Evl (Ex)
section
variable {K : PySem.W.Frag} {t : Option Addr} {ρ : Rho} {i : Nat} {d : PyData} {te : TE} {tr : TA} {t1 t2 : TS} {N B C : Rho → Prop} {R Q : PyData → Prop}
theorem DR_notB {x y : PyData} (h : ∃ a b, x = .bool a ∧ y = .bool b ∧ Q (.bool (!decide (a = b)))) : DR K rNotB x y Q := fun v w F H e q1 q2 QK k => by
  obtain ⟨a, b, rfl, rfl, q⟩ := h
  cases q1
  cases q2
  exact ⟨a, b, rfl, rfl, k _ _ F H q (Gr.refl e) (.bl _)⟩
theorem DE_varO (h : ρ[i]? = some (.od d)) (q : Q d) : DE K t (tVar i) ρ Q := fun F0 H0 F H σ A QK k => by
  obtain ⟨o, e, v, rfl, z⟩ := A.slot h
  exact ⟨v, e, k d v F H q A.rfl (z.up A.gr.ff)⟩
theorem DE_varN (h : ρ[i]? = some (.nw d)) (q : Q d) : DE K t (tVar i) ρ Q := fun F0 H0 F H σ A QK k => by
  obtain ⟨o, e, v, rfl, z, _⟩ := A.slot h
  exact ⟨v, e, k d v F H q A.rfl z⟩
def Sl.old : Sl → Sl
  | .sh d => .od d
  | .nw d => .od d
  | .ow _ => .no
  | .dk _ _ => .no
  | .dt _ _ => .no
  | s => s
def Sl.keep : Sl → Sl
  | .od d => .od d
  | .tp => .tp
  | .vl v => .vl v
  | _ => .no
theorem map_slot {f : Sl → Sl} {s : Sl} (h : (ρ.map f)[i]? = some s) : ∃ s', ρ[i]? = some s' ∧ s = f s' := by
  rw [List.getElem?_map] at h
  cases e : ρ[i]? with
  | none => rw [e] at h; cases h
  | some s' =>
    rw [e] at h
    exact ⟨s', rfl, (Option.some.inj h).symm⟩
theorem At.rebase {F0 H0 F H : Hp} {σ : L2.St} (A : At K t F0 H0 F H σ ρ) : At K t F H F H σ (ρ.map Sl.old) where
  gr := Gr.refl A.fh
  len := by rw [List.length_map, A.len]
  sl := fun j o s h1 h2 => by
    obtain ⟨s', h3, rfl⟩ := map_slot h2
    have q := A.sl j o s' h1 h3
    cases s' with
    | no => trivial
    | sh d => exact q
    | ow ds => trivial
    | tp => exact q
    | vl v => exact q
    | od d =>
      obtain ⟨v, e, z⟩ := q
      exact ⟨v, e, z.up A.gr.ff⟩
    | nw d =>
      obtain ⟨v, e, z, _⟩ := q
      exact ⟨v, e, z⟩
    | dk p kvs => trivial
    | dt p kvs => trivial
  ap := fun a b p ds es n h1 h2 => by
    obtain ⟨s', h3, e⟩ := map_slot h1
    cases s' <;> cases e
  tp := A.tp
/-- from here on what is there is old -/
theorem DS_rebase (h : DS K t t1 (ρ.map Sl.old) NoR R NoR NoR) : DS K t t1 ρ N R B C := fun F0 H0 F H σ D A kn kr kb kc =>
  h F H F H σ D A.rebase (fun _ _ _ _ q => q.elim) (fun d v F' H' q g tp z => kr d v F' H' q (A.gr.trans g fun a e => (tp a e).1) tp z) (fun _ _ _ _ q => q.elim) fun _ _ _ _ q => q.elim
theorem base_none {F0 H0 F H : Hp} {σ : L2.St} (A : At K t F0 H0 F H σ ρ) {p : Addr} (n : F p = none) : F0 p = none := none_back (fun o q => A.gr.ff p o q) n
theorem DS_setNw (h : DL K t te ρ fun ds => ds.length < 100000 ∧ N (ρ.set i (.nw (.list ds)))) : DS K t (tAsg te (gName i)) ρ N R B C := fun F0 H0 F H σ D A kn kr kb kc =>
  h F0 H0 F H σ A _ fun ds p xs F1 H1 q e1 n n1 n2 z => by
    obtain ⟨e2, z2⟩ := e1.ice A n n1 n2 z
    refine kn _ _ H1 _ q.2 ((A.step e2).set (s := .nw (.list ds)) ⟨.ref p, rfl, z2, p, xs, upd_same, (A.fs n).old, base_none A (ex_none A.fh n), by rw [z.len]; exact q.1, fun _ _ => rfl, fun _ e => by cases e⟩ fun _ e => by cases e) e2.ff
/-- the promise of a def that makes data with a list of its own -/
def spN (K : PySem.W.Frag) (W : List PyData → (PyData → Prop) → Prop) : Sp := fun vs H Q _ => ∃ F ds R, Ex F H ∧ Dqs K F ds vs ∧ W ds R ∧ ∀ d v F' H', R d → Gr none F H F' H' → Dq K F' d v → Nw F H F' d v → Q v H'
theorem DE_callN {W : List PyData → (PyData → Prop) → Prop} {E : XK} (h : DA K t tr ρ fun ds => W ds Q) : DE K t (tCall (spN K W) [] E tr) ρ Q := fun F0 H0 F H σ A QK k =>
  h F0 H0 F H σ A _ fun ds vs F1 H1 hq e1 z => ⟨F1, ds, Q, e1.g.fh, by rw [List.append_nil]; exact z, hq, fun d v F' H' q g zd _ => k d v F' H' q (e1.trans ((A.step e1).stp g)) zd⟩
theorem DS_callNw {W : List PyData → (PyData → Prop) → Prop} {E : XK} (h : DA K t tr ρ fun ds => W ds fun d => N (ρ.set i (.nw d))) : DS K t (tAsg (tCall (spN K W) [] E tr) (gName i)) ρ N R B C := fun F0 H0 F H σ D A kn kr kb kc =>
  h F0 H0 F H σ A _ fun ds vs F1 H1 hq e1 z => by
    have A1 := A.step e1
    refine ⟨F1, ds, _, e1.g.fh, by rw [List.append_nil]; exact z, hq, fun d v F' H' q g zd nw => ?_⟩
    obtain ⟨p, xs, h1, h2, h3, h4⟩ := nw
    exact kn _ F' H' _ q ((A1.call g).set (s := .nw d) ⟨v, rfl, zd, p, xs, h1, (A1.fs h2).old, base_none A1 h3, h4⟩ fun _ e => by cases e) (e1.ff.trans g.ff)
/-- found[k].append(z): what came after the base is forgotten -/
theorem DS_appN {ds : List PyData} {m z : Int} (h : ρ[i]? = some (.nw (.tuple ds))) (hm : m + 1 = ds.length ∧ 0 ≤ m) (q : DS K t t2 (ρ.map Sl.keep) NoR R NoR NoR) :
    DS K t (tSeq (tDrop (tBM K "list" rAppend (tOp (rIx K) (tVar i) (tC (.int m))) (tCons (tC (.int z)) tNil))) t2) ρ N R B C := fun F0 H0 F H σ D A kn kr kb kc => by
  obtain ⟨o, e, v, rfl, zd, p, xs, hp, hh, hf, hl, _, ht⟩ := A.slot h
  obtain ⟨r, vs, rfl, hr, hv⟩ := ht ds rfl
  have hat : atI (vs ++ [V.ref p]) m = some (.ref p) := by
    obtain ⟨n, rfl⟩ := Int.eq_ofNat_of_zero_le hm.2
    refine atI_nat ?_
    rw [List.getElem?_append_right (by omega), show n - vs.length = 0 by omega]
    rfl
  refine ⟨.ref r, e, .inr (.inl ⟨r, _, m, .ref p, rfl, rfl, .inl (.inl (A.fh _ _ hr)), hat, .inl ⟨rfl, xs, .inl (.inl (A.fh _ _ hp))⟩, ?_⟩)⟩
  refine ⟨p, xs, .int z, rfl, rfl, A.fh _ _ hp, Evl.sz_lt hl, ?_⟩
  refine q F0 H0 F0 _ σ D ⟨⟨Ex.refl F0, fun a o n w => ?_, fun a o w => ?_, fun a o w u => by rw [u] at w; cases w⟩, by rw [List.length_map, A.len], fun j o s h1 h2 => ?_, fun a b p ds es n h1 h2 => ?_, fun a w => ?_⟩ (fun _ _ _ _ q => q.elim) kr (fun _ _ _ _ q => q.elim) fun _ _ _ _ q => q.elim
  · rw [upd_ne (fun y => by rw [y, hh] at w; cases w)]
    exact A.gr.hh a o n w
  · rw [upd_ne (fun y => by rw [y, hf] at w; cases w)]
    exact A.fh _ _ (A.gr.ff _ _ w)
  · obtain ⟨s', h3, rfl⟩ := map_slot h2
    have w := A.sl j o s' h1 h3
    cases s' with
    | od d => exact w
    | tp => exact w
    | vl v => exact w
    | _ => trivial
  · obtain ⟨s', h3, e⟩ := map_slot h1
    cases s' <;> cases e
  · obtain ⟨w1, x, y, u, w2, w3⟩ := A.tp a w
    refine ⟨base_none A w1, x, y, u, ?_, w3⟩
    rw [upd_ne (fun y => by rw [y, hp] at w1; cases w1)]
    exact w2
/-! ### a def that makes such a result -/
def DSN (K : PySem.W.Frag) (ts : TS) (ρ : Rho) (R : PyData → Prop) : Prop := ∀ (F0 H0 F H : Hp) (σ : L2.St) (D : Ends), At K none F0 H0 F H σ ρ →
  (∀ d v F' H', R d → Gr none F0 H0 F' H' → Dq K F' d v → Nw F0 H0 F' d v → D.rt v H') → ts D σ H
theorem DSN_seq (h : DS K none t1 ρ (fun ρ1 => DSN K t2 ρ1 R) (fun _ => False) NoR NoR) : DSN K (tSeq t1 t2) ρ R := fun F0 H0 F H σ D A k =>
  h F0 H0 F H σ { D with nx := t2 D } A (fun r F' H' s q A' _ => q F0 H0 F' H' s D A' k) (fun _ _ _ _ q => q.elim) (fun _ _ _ _ q => q.elim) fun _ _ _ _ q => q.elim
def DAN (K : PySem.W.Frag) (t : Option Addr) (ta : TA) (ρ : Rho) (Q : List PyData → Prop) : Prop :=
  ∀ (F0 H0 F H : Hp) (σ : L2.St), At K t F0 H0 F H σ ρ → ∀ QK : List V → Hp → Prop,
    (∀ ds vs p xs F' H', Q ds → Stp t F H F' H' → Dqs K F' ds (vs ++ [.ref p]) → F' p = some (.lst xs) → H0 p = none → F0 p = none → xs.length < 100000 → QK (vs ++ [.ref p]) H') → ta σ H QK
theorem DAN_cons {Q : List PyData → Prop} (h : DE K t te ρ fun x => DAN K t tr ρ fun xs => Q (x :: xs)) : DAN K t (tCons te tr) ρ Q := fun F0 H0 F H σ A QK k =>
  h F0 H0 F H σ A _ fun x v F1 H1 hr e1 q1 => have A1 := A.step e1; hr F0 H0 F1 H1 σ A1 _ fun xs vs p ys F2 H2 q e2 q2 h1 h2 h3 h4 => k _ (v :: vs) p ys F2 H2 q (e1.trans e2) (.cons (q1.up e2.ff) q2) h1 h2 h3 h4
theorem DAN_last {ds : List PyData} {Q : List PyData → Prop} (h : ρ[i]? = some (.nw (.list ds))) (q : Q [.list ds]) : DAN K t (tCons (tVar i) tNil) ρ Q := fun F0 H0 F H σ A QK k => by
  obtain ⟨o, e, v, rfl, z, p, xs, hp, hh, hf, hl, hv, _⟩ := A.slot h
  obtain rfl := hv ds rfl
  exact ⟨.ref p, e, k _ [] p xs F H q A.rfl (.cons z .nil) hp hh hf hl⟩
theorem DAN_new {Q : List PyData → Prop} (h : DL K t te ρ fun ds => ds.length < 100000 ∧ Q [.list ds]) : DAN K t (tCons te tNil) ρ Q := fun F0 H0 F H σ A QK k =>
  h F0 H0 F H σ A _ fun ds p xs F1 H1 q e1 n n1 n2 z => by
    obtain ⟨e2, z2⟩ := e1.ice A n n1 n2 z
    exact k _ [] p xs _ H1 q.2 e2 (.cons z2 .nil) upd_same (A.fs n).old (base_none A (ex_none A.fh n)) (by rw [z.len]; exact q.1)
theorem DSN_ret (h : DAN K none tr ρ fun xs => xs.length ≤ 100000 ∧ R (.tuple xs)) : DSN K (tRet (tTup tr)) ρ R := fun F0 H0 F H σ D A k =>
  h F0 H0 F H σ A _ fun ds vs p xs F1 H1 hq e1 z hp hh hf hl => ⟨Evl.sz_of (by rw [z.len]; exact hq.1), fun q n => by
    have A1 := A.step e1
    have g := Gr.new A1.fh (o := .tup (vs ++ [.ref p])) n
    refine k _ _ _ _ hq.2 (A1.call g).gr (.tup (.inl (.inl upd_same)) (z.up g.ff)) ⟨p, xs, g.ff _ _ hp, hh, hf, hl, (fun _ e => by cases e), fun es e => ?_⟩
    cases e
    refine ⟨q, vs, rfl, upd_same, ?_⟩
    have := z.len
    rw [List.length_append] at this
    exact this⟩
theorem run_N {W : List PyData → (PyData → Prop) → Prop} {NN : List Str} {vs : List V} {H : Hp} {Q : VK} {E : XK} {ts : TS} (h : spN K W vs H Q E)
    (b : ∀ ds R, W ds R → ds.length ≤ NN.length ∧ DSN K ts (ds.map Sl.sh ++ List.replicate (NN.length - ds.length) Sl.no) R) : ts { nx := fun _ H' => Q .non H', rt := Q } (L2.start NN vs) H := by
  obtain ⟨F, ds, R, e, z, hW, k⟩ := h
  obtain ⟨hl, b⟩ := b ds R hW
  exact b F H F H _ _ (At.begin e z hl) fun d v F' H' q g zd n => k d v F' H' q g zd n
end
end Cf
namespace Cf
open PySem PySem.Spec PyProof.Rows L2
open Evl (Ex)
/-! ### what is changed within a loop's turn -/
section
variable {K : PySem.W.Frag} {t : Option Addr} {ρ : Rho} {i : Nat} {d : PyData} {te ta tb tc : TE} {t1 t2 : TS} {N B C : Rho → Prop} {R : PyData → Prop}
def DSW (K : PySem.W.Frag) (t : Option Addr) (ts : TS) (ρ : Rho) (N : Rho → Prop) (R : PyData → Prop) (B C : Rho → Prop) : Prop :=
  ∀ (F0 H0 F H : Hp) (σ : L2.St) (D : Ends), At K t F0 H0 F H σ ρ →
    (∀ ρ' F' H' σ', N ρ' → At K t F0 H0 F' H' σ' ρ' → D.nx σ' H') →
    (∀ d v F' H', R d → Gr t F0 H0 F' H' → TpOk t F' H' → Dq K F' d v → D.rt v H') →
    (∀ ρ' F' H' σ', B ρ' → At K t F0 H0 F' H' σ' ρ' → D.bk σ' H') →
    (∀ ρ' F' H' σ', C ρ' → At K t F0 H0 F' H' σ' ρ' → D.ct σ' H') → ts D σ H
theorem DS.w (h : DS K t t1 ρ N R B C) : DSW K t t1 ρ N R B C := fun F0 H0 F H σ D A kn kr kb kc =>
  h F0 H0 F H σ D A (fun r F' H' s q a _ => kn r F' H' s q a) kr (fun r F' H' s q a _ => kb r F' H' s q a) fun r F' H' s q a _ => kc r F' H' s q a
def Sl.young : Sl → Sl
  | .od d => .sh d
  | s => s
theorem At.young {F0 H0 F H F' H' : Hp} {σ σ' : L2.St} {ρ' : Rho} (A : At K t F0 H0 F H σ ρ) (A' : At K t F H F' H' σ' ρ') : At K t F0 H0 F' H' σ' (ρ'.map Sl.young) where
  gr := A.gr.trans A'.gr fun a e => (A'.tp a e).1
  len := by rw [List.length_map, A'.len]
  sl := fun j o s h1 h2 => by
    obtain ⟨s', h3, rfl⟩ := map_slot h2
    have w := A'.sl j o s' h1 h3
    cases s' with
    | no => trivial
    | sh d => exact w
    | ow ds =>
      obtain ⟨p, xs, e, w1, w2, w3, w4, w5⟩ := w
      exact ⟨p, xs, e, w1, w2, none_back (fun o q => A.gr.hh p o w4 q) w3, w4, w5⟩
    | tp => exact w
    | vl v => exact w
    | od d =>
      obtain ⟨v, e, z⟩ := w
      exact ⟨v, e, z.up A'.gr.ff⟩
    | nw d =>
      obtain ⟨v, e, z, p, xs, h1, h2, h3, h4⟩ := w
      exact ⟨v, e, z, p, xs, h1, (A.fs h2).old, base_none A h3, h4⟩
    | dk p kvs =>
      obtain ⟨e, w1, w2, w3, w4⟩ := w
      exact ⟨e, w1, w2, none_back (fun o q => A.gr.hh p o w4 q) w3, w4⟩
    | dt p kvs =>
      obtain ⟨e, w1, w2, w3, w4⟩ := w
      exact ⟨e, w1, w2, none_back (fun o q => A.gr.hh p o w4 q) w3, w4⟩
  ap := fun i j p ds es n h1 h2 h3 => by
    obtain ⟨s1, g1, e1⟩ := map_slot h1
    obtain ⟨s2, g2, e2⟩ := map_slot h2
    cases s1 <;> cases e1
    cases s2 <;> cases e2
    exact A'.ap i j p ds es n g1 g2 h3
  tp := A'.tp
end
/-! ### [f, g][k](..) -/
def tPick (s0 s1 : Sp) (i : Nat) (ta : TA) : TE := fun σ H Q => ∃ z : Int, σ[i]? = some (some (.int z)) ∧ ∀ (p : Addr) (o : HO), H p = none →
  (z = 0 ∧ ta σ (upd H p o) fun vs H2 => s0 (vs ++ []) H2 Q E0) ∨ (z = 1 ∧ ta σ (upd H p o) fun vs H2 => s1 (vs ++ []) H2 Q E0)
section
variable {X : Cx} {CX : CXT} {k : Nat} {f0 f1 : Addr} {fd0 fd1 : FuncData} {ps0 ps1 : List Str} {s0 s1 : Sp} {x0 x1 x2 : Str} {p0 p1 p2 p3 p4 pos : Pos} {e : Expr} {es : List Expr} {t : TA} {i : Nat}
end
section
variable {K : PySem.W.Frag} {t : Option Addr} {ρ : Rho} {i j : Nat} {tr : TA} {N B C : Rho → Prop} {R Q : PyData → Prop} {W0 W1 : List PyData → (PyData → Prop) → Prop}
/-- the number of the def -/
def num01 (ρ : Rho) (i : Nat) (b : Bool) : Prop := ρ[i]? = some (.sh (.int (if b then 1 else 0))) ∨ ρ[i]? = some (.od (.int (if b then 1 else 0)))
theorem At.num01 {F0 H0 F H : Hp} {σ : L2.St} (A : At K t F0 H0 F H σ ρ) {b : Bool} (h : num01 ρ i b) : σ[i]? = some (some (.int (if b then 1 else 0))) := by
  rcases h with h | h
  · obtain ⟨v, e, z⟩ := A.var h
    cases z
    exact e
  · obtain ⟨o, e, v, rfl, z⟩ := A.slot h
    cases z
    exact e
end
end Cf
namespace Cf
open PySem PySem.Spec PyProof.Rows L2
section
variable {M : Model} {A : Around} {E : Value → Shared → Prop}
end

/-- the iterators of a zip -/
def itRefs (z0 n : Nat) : List Value := (List.range n).map fun j => Value.ref (z0 + j)
end Cf
namespace Cf
open PySem PySem.Spec PyProof.Rows L2
section
variable {prog : Program} {w : World} {A : Around} {E : Value → Shared → Prop} {s : Shared}
abbrev IsZipN (h : Heap) (z TI TO : Addr) (f0 : Value) (f1 : Bool) : Prop := h.get? z = some { cls := .type "zip", dict := none, data := .fields #[f0, .bool f1, .bool false, .ref TI, .ref TO], slots := #[] }
abbrev IsTupN (h : Heap) (T : Addr) (vs : List Value) : Prop := h.get? T = some { cls := .type "tuple", data := .seq vs.toArray }
structure ZA (z TI TO : Addr) (is ls : List Addr) : Prop where
  TIz : TI ≠ z
  TOz : TO ≠ z
  TITO : TI ≠ TO
  iz : ∀ i ∈ is, i ≠ z ∧ i ≠ TI ∧ i ≠ TO
  nd : is.Nodup
  lz : ∀ l ∈ ls, l ≠ z ∧ l ≠ TO ∧ ∀ i ∈ is, l ≠ i
  len : is.length = ls.length
  ne : is ≠ []
/-- the lists and their iterators -/
structure ZL (h : Heap) (is ls : List Addr) (xss : List (Array Value)) (k : Nat) : Prop where
  it : ∀ (j : Nat) (i l : Addr), is[j]? = some i → ls[j]? = some l → h.IsListIter i l k
  ll : ∀ (j : Nat) (l : Addr) (xs : Array Value), ls[j]? = some l → xss[j]? = some xs → h.IsList l xs
end
end Cf
namespace Cf
open PySem PySem.Spec PyProof.Rows L2
section
variable {prog : Program} {w : World} {A : Around} {E : Value → Shared → Prop} {s : Shared}
end
end Cf
namespace Cf
open PySem PySem.Spec PyProof.Rows L2
section
variable {prog : Program} {w : World} {A : Around} {E : Value → Shared → Prop} {s : Shared}
/-- what a zip keeps of the tuple that it handed out -/
def F0 (f0 : Value) : Prop := f0 = .none ∨ ∃ T : Addr, f0 = rawInt T
end
/-- lists of values as they stand at ls -/
def RowsAt (K : PySem.W.Frag) (H : Hp) (ls : List Addr) (rows : List (List V)) : Prop := rows.length = ls.length ∧ ∀ (j : Nat) (l : Addr) (xs : List V), ls[j]? = some l → rows[j]? = some xs → SqL K H l xs
def ColAt (rows : List (List V)) (i : Nat) (us : List V) : Prop := us.length = rows.length ∧ ∀ (j : Nat) (xs : List V) (u : V), rows[j]? = some xs → us[j]? = some u → xs[i]? = some u
def ItzN (K : PySem.W.Frag) (ls : List Addr) : It :=
  ⟨fun i H => ∃ rows us, RowsAt K H ls rows ∧ ColAt rows i us,
    fun i H v H' => ∃ T us, v = .ref T ∧ H T = none ∧ H' = upd H T (.tup us) ∧ ∀ rows, RowsAt K H ls rows → ColAt rows i us,
    fun i H => ∃ rows, RowsAt K H ls rows ∧ ∀ xs, rows[0]? = some xs → xs.length ≤ i⟩
section
variable {X : Cx} {pins : List (Addr × Obj)} {σ : L2.St} {H : Hp} {s : Shared}
end
/-- zip(*e), e a list of lists -/
def iZipS (K : PySem.W.Frag) (te : TE) : TI := fun σ H R => te σ H fun x H1 => ∃ (a : Addr) (ls : List Addr) (rows : List (List V)), x = .ref a ∧ SqL K H1 a (ls.map V.ref) ∧ RowsAt K H1 ls rows ∧ ls ≠ [] ∧ ls.length ≤ 100000 ∧ R (ItzN K ls) H1
end Cf
/-! xs[::k] -/
namespace Cf
open PySem PySem.Spec PyProof.Rows L2
open Evl (Ex)
def stepIx (n : Nat) (k : Int) : List Nat := (List.range (if (0 : Int) < n then ((n : Int) - 0 + k - 1) / k else 0).toNat).map fun (i : Nat) => (0 + k * (i : Int)).toNat
def stepV {α : Type} (k : Int) (xs : List α) : List α := (stepIx xs.length k).filterMap fun i => xs[i]?
theorem vals_at : ∀ {vs : List V} {us : List Value}, Vals vs us → ∀ i : Nat, (vs[i]? = none ∧ us[i]? = none) ∨ ∃ v u, vs[i]? = some v ∧ us[i]? = some u ∧ RelV v u
  | [], _, r, i => by
    cases r
    exact .inl ⟨rfl, rfl⟩
  | v :: vs, _, r, i => by
    cases r with
    | cons r1 r2 =>
      cases i with
      | zero => exact .inr ⟨_, _, rfl, rfl, r1⟩
      | succ i => exact vals_at r2 i
theorem vals_pick {vs : List V} {us : List Value} (r : Vals vs us) : ∀ is : List Nat, Vals (is.filterMap fun i => vs[i]?) (is.filterMap fun i => us[i]?)
  | [] => .nil
  | i :: is => by
    rcases vals_at r i with ⟨e1, e2⟩ | ⟨v, u, e1, e2, q⟩
    · rw [List.filterMap_cons_none e1, List.filterMap_cons_none e2]
      exact vals_pick r is
    · rw [List.filterMap_cons_some e1, List.filterMap_cons_some e2]
      exact .cons q (vals_pick r is)
theorem dqs_pick {K : PySem.W.Frag} {F : Hp} {ds : List PyData} {vs : List V} (z : Dqs K F ds vs) : ∀ is : List Nat, Dqs K F (is.filterMap fun i => ds[i]?) (is.filterMap fun i => vs[i]?)
  | [] => .nil
  | i :: is => by
    cases e : ds[i]? with
    | none =>
      have w : vs[i]? = none := by
        rw [List.getElem?_eq_none_iff] at e ⊢
        rw [z.len]
        exact e
      rw [List.filterMap_cons_none e, List.filterMap_cons_none w]
      exact dqs_pick z is
    | some d =>
      obtain ⟨v, w, q⟩ := z.at e
      rw [List.filterMap_cons_some e, List.filterMap_cons_some w]
      exact .cons q (dqs_pick z is)
theorem pick_step {its : List Value} {k : Int} (h : 0 < k) : slicePick its.toArray none none (some k) = (stepV k its).toArray := by
  unfold slicePick sliceBounds sliceRange stepV stepIx
  simp only [Option.getD_some, List.size_toArray]
  rw [if_pos (show k > 0 from h), if_pos (show k > 0 from h), if_pos (show k > 0 from h)]
  congr 1
  refine congrArg (fun f => List.filterMap f _) ?_
  funext i
  exact List.getElem?_toArray
theorem step_len {α : Type} (k : Int) (h : 0 < k) (xs : List α) : (stepV k xs).length ≤ xs.length := by
  unfold stepV stepIx
  refine Nat.le_trans (List.length_filterMap_le _ _) ?_
  rw [List.length_map, List.length_range]
  split
  · have w := ceilDiv_le (xs.length : Int) k (by omega) (by omega)
    rw [Int.sub_zero]
    omega
  · exact Nat.zero_le _
def tStepL (K : PySem.W.Frag) (te tk : TE) : TE := fun σ H Q => te σ H fun x H1 => tPart tk σ H1 fun o H2 => ∃ a xs k, x = .ref a ∧ o = some k ∧ 0 < k ∧ SqL K H2 a xs ∧ ∀ p, H2 p = none → Q (.ref p) (upd H2 p (.lst (stepV k xs)))
theorem pe_stepL {X : Cx} {e ke : Expr} {te tk : TE} {p3 pos : Pos} (he : PE X e te) (hk : PE X ke tk) : PE X (.Subscript e (.Slice none none (some ke) p3) pos) (tStepL X.K te tk) := by
  constructor
  intro pins s σ H Q I h
  refine Subscript_ (thn (he.run pins s σ H _ I h) fun v s1 ⟨x, H1, I1, r1, q1⟩ => ?_)
  refine wpAny_Slice (thn (po_none.run pins s1 σ H1 (fun o G => o = none ∧ G = H1) I1 ⟨rfl, rfl⟩) fun w1 s2 ⟨_, _, I2, l1, rfl, rfl⟩ => ?_)
  refine thn (po_none.run pins s2 σ _ (fun o G => o = none ∧ G = _) I2 ⟨rfl, rfl⟩) fun w2 s3 ⟨_, _, I3, l2, rfl, rfl⟩ => ?_
  refine thn ((po_some hk).run pins s3 σ _ _ I3 q1) fun w3 s4 ⟨o, H4, I4, l3, a, xs, k, ex, eo, k0, hx, q⟩ => ?_
  subst ex eo
  cases r1
  have I5 : Inv X pins σ H4 { s4 with heap := s4.heap.push { cls := .type "slice", data := .fields #[w1, w2, w3] } } := I4.kept (t' := s4.toks) fun b u z => Heap.get?_push_of_some _ z
  obtain ⟨its, r, pl, hz⟩ := I5.list hx
  have hl := r.length
  show wpAny (model X.prog X.w) X.A (subscriptTail e (.Slice none none (some ke) p3) (.ref a) (.ref s4.heap.objs.size)) (EP X pins σ Q) X.xe _
  refine tail_any (ops := [.ref a, .ref s4.heap.objs.size]) pl.isList.typeIs (PySem.slot_list_getitem.lookup) ?_ (by with_unfolding_all rfl)
  have nz : some k ≠ some (0 : Int) := fun z => by
    cases z
    exact absurd k0 (by decide)
  refine wpAny_getItem_list_slice pl.isList (Heap.IsSliceOf.new _ w1 w2 w3) l1 l2 l3 nz ?_ (by rw [List.size_toArray]; omega)
  rw [pick_step k0]
  have rr : Vals (stepV k xs) (stepV k its) := by
    unfold stepV
    rw [hl]
    exact vals_pick r _
  exact ⟨.ref _, _, I5.laid (t' := s4.toks) (o := .lst (stepV k xs)) (fun b u z => Heap.get?_push_of_some _ z) (Nat.le_refl _) ⟨Nat.le_trans (step_len k k0 xs) hz, _, 0, rr, Heap.get?_push_size _ rfl⟩, rfl, q _ (I5.hok.fresh (Nat.le_refl _))⟩
/-- xs[::k] over data -/
theorem DL_step {K : PySem.W.Frag} {t : Option Addr} {ρ : Rho} {te tk : TE} {Q : List PyData → Prop} (h : DE K t te ρ fun x => DE K t tk ρ fun y => ∃ ds k, x = .list ds ∧ y = .int k ∧ 0 < k ∧ Q (stepV k ds)) : DL K t (tStepL K te tk) ρ Q := fun F0 H0 F H σ A QK c =>
  h F0 H0 F H σ A _ fun x v F1 H1 hq e1 z1 => hq F0 H0 F1 H1 σ (A.step e1) _ fun y w F2 H2 hy e2 z2 => by
    have A2 := (A.step e1).step e2
    obtain ⟨ds, k, rfl, rfl, k0, q⟩ := hy
    cases z2
    cases z1 with
    | @lst a xs _ s1 s2 =>
      refine ⟨k, rfl, a, xs, k, rfl, rfl, k0, Evl.ex_l (e2.ff.trans A2.fh) s1, fun p n => ?_⟩
      have g := Gr.free A2.fh (o := .lst (stepV k xs)) n
      refine c _ p _ _ _ q ((e1.trans e2).trans (A2.stp g)) ((e1.trans e2).back n) (ex_none A2.fh n) upd_same ?_
      have u := dqs_pick (s2.up e2.ff) (stepIx ds.length k)
      unfold stepV
      rw [s2.len]
      exact u
end Cf
/-! [e for i, x in enumerate(xs) if c], [e for x, y in zip(xs, ys)] -/
namespace Cf
open PySem PySem.Spec PyProof.Rows L2
open Evl (Ex)
section
variable {K : PySem.W.Frag} {t : Option Addr} {ρ : Rho} {i j : Nat} {te : TE} {tr : TA}
/-- a pair is stored to two names -/
theorem tn_pair {σ : L2.St} {va vb : V} {da db : PyData} {F1 H1 : Hp} {T : Addr} (hij : i ≠ j) (za : Dq K F1 da va) (zb : Dq K F1 db vb) (nT : H1 T = none) (st : Stp t F1 H1 F1 (upd H1 T (.tup [va, vb]))) :
    Tn K t ρ σ [i, j] (gTup K 2 (gNames [i, j])) (.ref T) F1 H1 F1 (upd H1 T (.tup [va, vb])) ((ρ.set i (.sh da)).set j (.sh db)) := by
  refine ⟨⟨(σ.set i (some va)).set j (some vb), fun Qn q => ?_, ?_, fun F0 H0 A => ?_⟩, st⟩
  · refine ⟨T, [va, vb], rfl, .inl (.inl upd_same), rfl, va, [vb], rfl, vb, [], rfl, rfl, ?_⟩
    have e : (((σ.set j none).set i none).set i (some va)).set j (some vb) = (σ.set i (some va)).set j (some vb) := by
      rw [List.set_set, List.set_comm _ _ hij.symm, List.set_set]
    show Qn ((((σ.set j none).set i none).set i (some va)).set j (some vb)) _
    rw [e]
    exact q
  · show ((((σ.set i (some va)).set j (some vb)).set j none).set i none) = (σ.set j none).set i none
    rw [List.set_set, List.set_comm _ _ hij, List.set_set, List.set_comm _ _ hij.symm]
  · have A1 := A.step st
    exact (A1.set (i := i) (s := .sh da) ⟨va, rfl, za⟩ fun _ e => by cases e).set (i := j) (s := .sh db) ⟨vb, rfl, zb⟩ fun _ e => by cases e
theorem DL_lcE {tt : TT} {Q : List PyData → Prop} (hij : i ≠ j) (h : DA K t tr ρ fun xs => ∃ ds, xs = [.list ds] ∧ ∃ I : Nat → List PyData → Prop, I 0 [] ∧
      (∀ k d acc, ds[k]? = some d → I k acc → acc.length < 100000 ∧ DT K t tt ((ρ.set i (.sh (.int (k : Int)))).set j (.sh d)) fun b => if b = true then DE K t te ((ρ.set i (.sh (.int (k : Int)))).set j (.sh d)) (fun y => I (k + 1) (acc ++ [y])) else I (k + 1) acc) ∧ ∀ acc, I ds.length acc → Q acc) :
    DL K t (tLc (iEnum K tr) (gTup K 2 (gNames [i, j])) tt te [i, j]) ρ Q := fun F0 H0 F H σ A QK k =>
  h F0 H0 F H σ A _ fun xs vs F1 H1 hq e1 z => by
    have A1 := A.step e1
    obtain ⟨ds, rfl, I, h0, hs, hd⟩ := hq
    obtain ⟨v, rfl, z1⟩ := dqs1 z
    cases z1 with
    | @lst a ws _ s1 s2 =>
      refine ⟨a, ws, rfl, Evl.ex_l A1.fh s1, fun D nD => ?_⟩
      refine DL_lc (own := [i, j]) (g := gTup K 2 (gNames [i, j])) (walk_enum (K := K) (xs := ws)) I A1 nD h0 (fun F' H' e e' => Evl.ex_l (e.trans e') s1) (fun m x F2 H2 H3 hm A2 e2 y => ?_) fun ds' ys F' H' q e n1 n2 z => k ds' D ys F' H' (hd ds' (by rwa [s2.len] at q)) (e1.trans e) (e1.back nD) n1 n2 z
      obtain ⟨T, va, vb, rfl, nT, rfl, ea, eb⟩ := y
      cases ea
      obtain ⟨d, hd', zd⟩ := s2.get eb
      exact ⟨F2, _, tn_pair hij (.int _) (zd.up e2) nT (A2.stp (Gr.free A2.fh nT)), fun acc q => hs m d acc hd' q⟩
theorem DL_lcZ {tt : TT} {Q : List PyData → Prop} (hij : i ≠ j) (h : DA K t tr ρ fun xs => ∃ ds es, xs = [.list ds, .list es] ∧ ds.length = es.length ∧ ∃ I : Nat → List PyData → Prop, I 0 [] ∧
      (∀ k d e acc, ds[k]? = some d → es[k]? = some e → I k acc → acc.length < 100000 ∧ DT K t tt ((ρ.set i (.sh d)).set j (.sh e)) fun b => if b = true then DE K t te ((ρ.set i (.sh d)).set j (.sh e)) (fun y => I (k + 1) (acc ++ [y])) else I (k + 1) acc) ∧ ∀ acc, I ds.length acc → Q acc) :
    DL K t (tLc (iZip K tr) (gTup K 2 (gNames [i, j])) tt te [i, j]) ρ Q := fun F0 H0 F H σ A QK k =>
  h F0 H0 F H σ A _ fun xs vs F1 H1 hq e1 z => by
    have A1 := A.step e1
    obtain ⟨ds, es, rfl, hl, I, h0, hs, hd⟩ := hq
    obtain ⟨v, w, rfl, z1, z2⟩ := dqs2 z
    cases z1 with
    | @lst a xs _ s1 s2 =>
      cases z2 with
      | @lst b ys _ s3 s4 =>
        refine ⟨a, b, xs, ys, rfl, Evl.ex_l A1.fh s1, Evl.ex_l A1.fh s3, fun D nD => ?_⟩
        have hn : ds.length = min xs.length ys.length := by rw [s2.len, s4.len]; omega
        refine DL_lc (own := [i, j]) (g := gTup K 2 (gNames [i, j])) (walk_zip (K := K) (xs := xs) (ys := ys) hn) I A1 nD h0 (fun F' H' e e' => ⟨Evl.ex_l (e.trans e') s1, Evl.ex_l (e.trans e') s3⟩) (fun m x F2 H2 H3 hm A2 e2 y => ?_) fun ds' ys F' H' q e n1 n2 z => k ds' D ys F' H' (hd ds' q) (e1.trans e) (e1.back nD) n1 n2 z
        obtain ⟨T, va, vb, rfl, nT, rfl, ea, eb⟩ := y
        obtain ⟨d, hd', zd⟩ := s2.get ea
        obtain ⟨e, he', ze⟩ := s4.get eb
        exact ⟨F2, _, tn_pair hij (zd.up e2) (ze.up e2) nT (A2.stp (Gr.free A2.fh nT)), fun acc q => hs m d e acc hd' he' q⟩
end
end Cf
namespace Cf
open PySem PySem.Spec PyProof.Rows L2
open Evl (Ex)
section
variable {K : PySem.W.Frag} {t : Option Addr} {ρ : Rho} {i : Nat} {te : TE}
/-- the k-th items of the rows -/
def colD (rows : List (List PyData)) (k : Nat) : List PyData := rows.map fun r => r.getD k .none
/-- a new tuple of the k-th items -/
def YCol (rows : List (List V)) : Nat → Hp → V → Hp → Prop := fun k H v H' => ∃ T us, v = .ref T ∧ H T = none ∧ H' = upd H T (.tup us) ∧ ColAt rows k us
theorem RowsAt.up {F F' : Hp} (e : Ex F F') {ls : List Addr} {rs : List (List V)} (h : RowsAt K F ls rs) : RowsAt K F' ls rs := ⟨h.1, fun j l xs hl hx => Evl.ex_l e (h.2 j l xs hl hx)⟩
end
end Cf
namespace Cf
open PySem PySem.Spec PyProof.Rows L2
open Evl (Ex)
/-! ### max, min of a list or a tuple of ints; gcd -/
def lmax : List Int → Int
  | [] => 0
  | x :: xs => xs.foldl max x
def lmin : List Int → Int
  | [] => 0
  | x :: xs => xs.foldl min x
def rMaxA (K : PySem.W.Frag) : List V → Hp → VK → Prop := fun vs H Q => ∃ (a : Addr) (ns : List Int), vs = [V.ref a] ∧ (SqL K H a (ns.map V.int) ∨ SqT K H a (ns.map V.int)) ∧ ns ≠ [] ∧ Q (.int (lmax ns)) H
def rMinA (K : PySem.W.Frag) : List V → Hp → VK → Prop := fun vs H Q => ∃ (a : Addr) (ns : List Int), vs = [V.ref a] ∧ (SqL K H a (ns.map V.int) ∨ SqT K H a (ns.map V.int)) ∧ ns ≠ [] ∧ Q (.int (lmin ns)) H
section
variable {K : PySem.W.Frag} {Q : PyData → Prop}
theorem DC_gcd {xs : List PyData} (h : ∃ a b : Int, xs = [.int a, .int b] ∧ Q (.int ((Nat.gcd a.natAbs b.natAbs : Nat) : Int))) : DC K rGcd xs Q := fun vs F H e z QK k => by
  obtain ⟨a, b, rfl, q⟩ := h
  obtain ⟨v, w, rfl, z1, z2⟩ := dqs2 z
  cases z1
  cases z2
  exact ⟨a, b, rfl, k _ _ F H q (Gr.refl e) (.int _)⟩
end
end Cf
namespace Cf
open PySem PySem.Spec PyProof.Rows L2
open PySem.AutoSeq1 (wpAny_loadPart')
/-! ### enumerate(a tuple) -/
section
variable {prog : Program} {w : World} {A : Around} {E : Value → Shared → Prop} {s : Shared}
end
def IteT (K : PySem.W.Frag) (a : Addr) : It :=
  ⟨fun i H => ∃ (xs : List V) (x : V), SqT K H a xs ∧ xs[i]? = some x, fun i H v H' => ∃ T x, v = .ref T ∧ H T = none ∧ H' = upd H T (.tup [.int (i : Nat), x]) ∧ ∀ xs, SqT K H a xs → xs[i]? = some x, fun i H => ∃ xs : List V, SqT K H a xs ∧ xs.length = i⟩
/-- enumerate(e), e a tuple -/
def iEnumT (K : PySem.W.Frag) (ta : TA) : TI := fun σ H R => ta σ H fun vs H1 => ∃ a xs, vs = [.ref a] ∧ SqT K H1 a xs ∧ R (IteT K a) H1
section
variable {K : PySem.W.Frag} {t : Option Addr} {ρ : Rho} {i j : Nat} {te : TE} {tr : TA}
open Evl (Ex)
end
end Cf
/-! how long texts of data are -/
namespace Cf
open PySem
structure Shw (n k : Nat) (d : PyData) : Prop where
  sb : d.showable = true
  ln : d.shown.length ≤ n
  dp : d.depth ≤ k
theorem Shw.up {n m k j : Nat} {d : PyData} (h : Shw n k d) (hn : n ≤ m) (hk : k ≤ j) : Shw m j d := ⟨h.sb, Nat.le_trans h.ln hn, Nat.le_trans h.dp hk⟩
theorem shw_int {i : Int} (h : i.natAbs < 10 ^ 45) : Shw 64 0 (.int i) := by
  refine ⟨?_, ?_, by simp only [PyData.depth]; exact Nat.le_refl _⟩
  · simp only [PyData.showable]
    refine decide_eq_true (Nat.lt_of_lt_of_le (PySem.Flt.log2_lt_of (k := 160) (by decide) (Nat.lt_of_lt_of_le h (by decide))) (by decide))
  · have e := int_text_length_le10 (k := 45) (by decide) h
    clear h
    simp only [PyData.shown]
    rw [show (toString i : Str).length = (toString i : String).length from ofString_length _]
    omega
theorem shw_all {n k : Nat} : ∀ ds : List PyData, (∀ d ∈ ds, Shw n k d) → PyData.showableAll ds = true ∧ ((PyData.shownAll ds).map (·.length)).sum ≤ ds.length * n ∧ (PyData.shownAll ds).length = ds.length ∧ PyData.depthAll ds ≤ k
  | [], _ => ⟨by simp only [PyData.showableAll], by simp [PyData.shownAll], by simp only [PyData.shownAll]; rfl, by simp only [PyData.depthAll]; omega⟩
  | d :: ds, h => by
    obtain ⟨h1, h2, h3, h4⟩ := shw_all ds fun x hx => h x (List.mem_cons_of_mem _ hx)
    have hd := h d List.mem_cons_self
    refine ⟨?_, ?_, ?_, ?_⟩
    · simp only [PyData.showableAll, hd.sb, h1, Bool.and_self]
    · simp only [PyData.shownAll, List.map_cons, List.sum_cons, List.length_cons]
      have := hd.ln
      rw [Nat.add_mul, Nat.one_mul]
      omega
    · simp only [PyData.shownAll, List.length_cons, h3]
    · simp only [PyData.depthAll]
      exact Nat.max_le.mpr ⟨hd.dp, h4⟩
theorem shw_list {n k : Nat} {ds : List PyData} (h : ∀ d ∈ ds, Shw n k d) : Shw (ds.length * (n + 2) + 3) (k + 1) (.list ds) := by
  obtain ⟨h1, h2, h3, h4⟩ := shw_all ds h
  refine ⟨by simp only [PyData.showable, h1], ?_, by simp only [PyData.depth]; omega⟩
  have e := listText_len_le (PyData.shownAll ds)
  simp only [PyData.shown]
  rw [Nat.mul_add]
  omega
theorem shw_tuple {n k : Nat} {ds : List PyData} (h : ∀ d ∈ ds, Shw n k d) : Shw (ds.length * (n + 2) + 3) (k + 1) (.tuple ds) := by
  obtain ⟨h1, h2, h3, h4⟩ := shw_all ds h
  refine ⟨by simp only [PyData.showable, h1], ?_, by simp only [PyData.depth]; omega⟩
  have e := tupleText_len_le (PyData.shownAll ds)
  simp only [PyData.shown]
  rw [Nat.mul_add]
  omega
end Cf
namespace Cf
open PySem PySem.Spec PyProof.Rows L2
open Evl (Ex)
local macro_rules | `(tactic| walk_at "d") => `(tactic| first
  | (with_reducible refine DS_seq ?_)
  | (with_reducible refine DS_if ?_)
  | (with_reducible refine DS_ret ?_)
  | (with_reducible refine DS_next ?_)
  | (with_reducible refine DS_retN ?_)
  | (with_reducible refine DS_set ?_)
  | (with_reducible refine DS_drop ?_)
  | (with_reducible refine DS_unpack ?_)
  | (with_reducible refine DS_par ?_)
  | (with_reducible refine DE_int ?_)
  | (with_reducible refine DE_bl ?_)
  | (with_reducible refine DE_non ?_)
  | (with_reducible refine DE_str ?_)
  | (with_reducible refine DE_isi ?_)
  | (with_reducible refine DE_and ?_)
  | (with_reducible refine DE_or ?_)
  | (with_reducible refine DE_not ?_)
  | (with_reducible refine DE_if ?_)
  | (with_reducible refine DE_chain ?_)
  | (with_reducible refine DE_tyIs ?_)
  | (with_reducible refine DE_tyNot ?_)
  | (with_reducible refine DE_call ?_)
  | (with_reducible refine DE_cb ?_)
  | (with_reducible refine DE_op ?_)
  | (with_reducible refine DE_un ?_)
  | (with_reducible refine DE_tup ?_)
  | (with_reducible refine DT_test ?_)
  | (with_reducible refine DT_B ?_)
  | (with_reducible refine DT_and ?_)
  | (with_reducible refine DT_or ?_)
  | (with_reducible refine DT_not ?_)
  | (with_reducible refine DT_yes ?_)
  | (with_reducible refine DA_nil ?_)
  | (with_reducible refine DA_cons ?_)
  | (with_reducible refine DO_no ?_)
  | (with_reducible refine DO_at ?_)
  | (with_reducible refine DR_minus ?_)
  | (with_reducible refine DR_mod ?_)
  | (with_reducible refine DR_div ?_)
  | (with_reducible refine DR_pow ?_)
  | (with_reducible refine DR_lt ?_)
  | (with_reducible refine DR_le ?_)
  | (with_reducible refine DR_gt ?_)
  | (with_reducible refine DR_ge ?_)
  | (with_reducible refine DR_eq ?_)
  | (with_reducible refine DR_ne ?_)
  | (with_reducible refine DR_isN ?_)
  | (with_reducible refine DR_notN ?_)
  | (with_reducible refine DU_neg ?_)
  | (with_reducible refine DC_len ?_)
  | (with_reducible refine DC_int ?_)
  | (with_reducible refine DC_abs ?_)
  | (with_reducible refine DC_max2 ?_)
  | (with_reducible refine DC_min2 ?_)
  | (with_reducible refine DC_sum ?_)
  | (with_reducible refine DC_all ?_)
  | (with_reducible refine DC_any ?_)
  | (with_reducible refine DC_repr ?_)
  | (with_reducible refine ⟨_, kb_int _, ?_⟩)
  | (with_reducible refine ⟨_, kb_bool _, ?_⟩)
  | (with_reducible refine ⟨_, kb_list _, ?_⟩)
  | (with_reducible refine ⟨_, kb_tuple _, ?_⟩)
  | (with_reducible refine ⟨_, rfl, ?_⟩)
  | (with_reducible refine ⟨_, _, rfl, rfl, ?_⟩)
  | ((with_reducible refine' DE_var ?k1 ?_); (case k1 => exact rfl)))


theorem big_lt {b : Int} (h : b < 2 ^ 200) : b < 2 ^ 8000 := Int.lt_of_lt_of_le h (pow_mono (by decide) (by decide))
/-- x[..] of a list is new data -/
theorem DE_lst0 {K : PySem.W.Frag} {t : Option Addr} {ρ : Rho} {Q : PyData → Prop} (q : Q (.list [])) : DE K t (tLst tNil) ρ Q := DE_new (DL_lst (DA_nil ⟨by decide, q⟩))
abbrev KeepsF (W : List PyData → (List PyData → Prop) → Prop) (n : Nat) (tb : PySem.W.Frag → TS) : Prop :=
  ∀ (K : PySem.W.Frag) (ds : List PyData) (R : List PyData → Prop), W ds R → ds.length ≤ n ∧ DSF K (tb K) (ds.map Sl.sh ++ List.replicate (n - ds.length) Sl.no) R

def W__law_tap (ds : List PyData) (R : List PyData → Prop) : Prop := ∃ c t : Int, ds = [.int c, .int t] ∧ 0 ≤ t ∧ t < 1000 ∧ ∀ x y z : Int, Tap x y z → R [.int x, .int y, .int z]
def t__law_tap (K : PySem.W.Frag) : TS :=
  (tSeq (tAsg (tOp (rPlus K) (tOp rTimes (tC (.int 2)) (tCB rAbsA (tCons (tVar 0) tNil))) (tCB rIntA (tCons (tOp rLtI (tVar 0) (tC (.int 0))) tNil))) (gName 2))
    (tRet (tLst (tCons (tVar 2) (tCons (tOp (rPlus K) (tOp (rPlus K) (tOp rModI (tCB rIntA (tCons (tVar 2) tNil)) (tC (.int 4294967291))) (tOp rTimes (tC (.int 977)) (tVar 1))) (tC (.int 1))) (tCons (tOp (rPlus K) (tOp (rPlus K) (tOp rModI (tCB rIntA (tCons (tVar 2) tNil)) (tC (.int 2147483587))) (tOp rTimes (tC (.int 31)) (tVar 1))) (tC (.int 2))) tNil))))))
theorem ds__law_tap : KeepsF W__law_tap 3 t__law_tap := by
  intro K ds R h
  obtain ⟨c, t, rfl, t0, t1, q⟩ := h
  refine ⟨by simp, ?_⟩
  show DSF K (t__law_tap K) [.sh (.int c), .sh (.int t), .no] _
  unfold t__law_tap
  refine DSF_set ?_
  repeat walk_at "d"
  refine DR_timesI ⟨_, _, rfl, rfl, .inl ⟨by decide, by decide⟩, ?_⟩
  repeat walk_at "d"
  refine .inr ⟨_, rfl, DR_plusI ⟨_, _, rfl, rfl, ?_⟩⟩
  generalize hw : 2 * (if c < 0 then -c else c) + (if decide (c < 0) = true then 1 else 0) = w
  have w0 : 0 ≤ w := by
    subst hw
    split <;> split <;> omega
  refine DSF_ret (DL_lst ?_)
  repeat walk_at "d"
  refine .inl ⟨_, rfl, ?_⟩
  repeat walk_at "d"
  refine ⟨by decide, ?_⟩
  repeat walk_at "d"
  refine DR_timesI ⟨_, _, rfl, rfl, .inl ⟨by decide, by decide⟩, ?_⟩
  refine DR_plusI ⟨_, _, rfl, rfl, ?_⟩
  repeat walk_at "d"
  refine DR_plusI ⟨_, _, rfl, rfl, ?_⟩
  repeat walk_at "d"
  refine .inl ⟨_, rfl, ?_⟩
  repeat walk_at "d"
  refine ⟨by decide, ?_⟩
  repeat walk_at "d"
  refine DR_timesI ⟨_, _, rfl, rfl, .inl ⟨by decide, by decide⟩, ?_⟩
  refine DR_plusI ⟨_, _, rfl, rfl, ?_⟩
  repeat walk_at "d"
  refine DR_plusI ⟨_, _, rfl, rfl, ?_⟩
  repeat walk_at "d"
  exact ⟨by simp, q _ _ _ ⟨w0, by omega, by omega, by omega, by omega⟩⟩

def W__law_cells (ds : List PyData) (R : PyData → Prop) : Prop := ∃ (ns : List Int) (m : Int), ds = [LI ns, .int m] ∧ ns.length ≤ 63 ∧ ∀ cs : List Int, cs.length ≤ 64 → R (LI cs)
def t__law_cells (K : PySem.W.Frag) : TS :=
  (tRet (tSl (rSlL K) (tOp (rPlus K) (tVar 0) (tLst (tCons (tC (.int 0)) tNil))) tNoPart (tPart (tCB rMax2A (tCons (tC (.int 1)) (tCons (tCB rMin2A (tCons (tVar 1) (tCons (tCB (rLenA K) (tCons (tVar 0) tNil)) tNil))) tNil))))))
theorem cutD_map {α : Type} (f : α → PyData) (l : List α) (lo hi : Option Int) : ∃ m : List α, cutD (l.map f) lo hi = m.map f ∧ m.length ≤ l.length := by
  unfold cutD
  rw [← List.map_drop, ← List.map_take]
  exact ⟨_, rfl, by rw [List.length_take, List.length_drop]; omega⟩
theorem ds__law_cells : Keeps W__law_cells 2 t__law_cells := by
  intro K ds R h
  obtain ⟨ns, m, rfl, hl, q⟩ := h
  refine ⟨by simp, ?_⟩
  show DS K _ (t__law_cells K) [.sh (LI ns), .sh (.int m)] _ _ _ _
  unfold t__law_cells
  refine DS_ret (DE_new (DL_sl ?_))
  refine DE_new (DL_op ?_)
  repeat walk_at "d"
  refine DE_new (DL_lst ?_)
  repeat walk_at "d"
  refine ⟨by simp, DRL_cat ⟨_, _, rfl, rfl, by simp; omega, ?_⟩⟩
  repeat walk_at "d"
  have e : ns.map PyData.int ++ [.int 0] = (ns ++ [0]).map PyData.int := by simp
  rw [e]
  refine ⟨_, _, rfl, ?_⟩
  repeat walk_at "d"
  refine ⟨_, _, rfl, ?_⟩
  repeat walk_at "d"
  obtain ⟨cs, ec, lc⟩ := cutD_map PyData.int (ns ++ [0]) none (some (max 1 (min m (ns.map PyData.int).length)))
  rw [ec]
  exact q cs (by rw [List.length_append] at lc; simp at lc; omega)

def W__law_many (ds : List PyData) (R : PyData → Prop) : Prop := ∃ s l : Int, ds = [.int s, .int l] ∧ 2 ≤ s ∧ s ≤ 4 ∧ R (.int (s ^ l.toNat))
def t__law_many (K : PySem.W.Frag) : TS :=
  (tSeq (tAsg (tC (.int 1)) (gName 2))
    (tSeq (tFor (iRg1 (tCons (tVar 1) tNil)) (gName 3)
    (tAsg (tOp rTimes (tVar 2) (tVar 0)) (gName 2)))
    (tRet (tVar 2))))
theorem ds__law_many : Keeps W__law_many 4 t__law_many := by
  intro K ds R h
  obtain ⟨s, l, rfl, s2, s4, q⟩ := h
  refine ⟨by simp, ?_⟩
  show DS K _ (t__law_many K) [.sh (.int s), .sh (.int l), .no, .no] _ _ _ _
  unfold t__law_many
  repeat walk_at "d"
  refine DS_forR1 ?_
  repeat walk_at "d"
  refine ⟨fun k ρ => ∃ z, ρ = [.sh (.int s), .sh (.int l), .sh (.int (s ^ k)), z], ⟨.no, by rw [Int.pow_zero]; rfl⟩, fun k ρ hk hI => ?_, fun ρ hI => ?_⟩
  · obtain ⟨z, rfl⟩ := hI
    repeat walk_at "d"
    refine DR_timesI ⟨_, _, rfl, rfl, .inr ⟨by omega, by omega⟩, .sh (.int (0 + (k : Int))), ?_⟩
    rw [Int.pow_succ]
    rfl
  · obtain ⟨z, rfl⟩ := hI
    repeat walk_at "d"
    exact q

def W__law_number (ds : List PyData) (R : PyData → Prop) : Prop := ∃ (s : Int) (r : List Int) (z : Int) (l : Nat), ds = [.int s, LI r, .int z, .int l] ∧ 2 ≤ s ∧ s ≤ 4 ∧ r ≠ [] ∧ R (.int (num s (win r z l)))
def t__law_number (K : PySem.W.Frag) : TS :=
  (tSeq (tAsg (tC (.int 0)) (gName 4))
    (tSeq (tFor (iRg1 (tCons (tVar 3) tNil)) (gName 5)
    (tAsg (tOp (rPlus K) (tOp rTimes (tVar 4) (tVar 0)) (tOp (rIx K) (tVar 1) (tOp rModI (tCB rIntA (tCons (tOp (rPlus K) (tVar 2) (tVar 5)) tNil)) (tCB (rLenA K) (tCons (tVar 1) tNil))))) (gName 4)))
    (tRet (tVar 4))))
theorem ds__law_number : Keeps W__law_number 6 t__law_number := by
  intro K ds R h
  obtain ⟨s, r, a, l, rfl, s2, s4, rn, q⟩ := h
  have rp : 0 < r.length := List.length_pos_iff.mpr rn
  refine ⟨by simp, ?_⟩
  show DS K _ (t__law_number K) [.sh (.int s), .sh (LI r), .sh (.int a), .sh (.int l), .no, .no] _ _ _ _
  unfold t__law_number
  repeat walk_at "d"
  refine DS_forR1 ?_
  repeat walk_at "d"
  refine ⟨fun k ρ => ∃ z, ρ = [.sh (.int s), .sh (LI r), .sh (.int a), .sh (.int l), .sh (.int (num s (win r a k))), z], ⟨.no, by rfl⟩, fun k ρ hk hI => ?_, fun ρ hI => ?_⟩
  · obtain ⟨z, rfl⟩ := hI
    repeat walk_at "d"
    refine DR_timesI ⟨_, _, rfl, rfl, .inr ⟨by omega, by omega⟩, ?_⟩
    repeat walk_at "d"
    refine DR_plusI ⟨_, _, rfl, rfl, ?_⟩
    repeat walk_at "d"
    refine .inl ⟨_, rfl, ?_⟩
    repeat walk_at "d"
    rw [List.length_map]
    refine ⟨by omega, DR_ix (.inl ⟨_, _, _, rfl, rfl, atI_LI rn _, ?_⟩)⟩
    refine DR_plusI ⟨_, _, rfl, rfl, .sh (.int (0 + (k : Int))), ?_⟩
    rw [win_succ, num_snoc, Int.zero_add]
    rfl
  · obtain ⟨z, rfl⟩ := hI
    repeat walk_at "d"
    rw [Int.toNat_natCast] at *
    exact q

def W__law_widest (ds : List PyData) (R : PyData → Prop) : Prop := ∃ s w : Int, ds = [.int s, .int w] ∧ 2 ≤ s ∧ s ≤ 4 ∧ s ≤ w ∧ ∀ n : Nat, 1 ≤ n → s ^ n ≤ w → R (.int n)
def t__law_widest (K : PySem.W.Frag) : TS :=
  (tSeq (tAsg (tC (.int 1)) (gName 2))
    (tSeq (tWhile (tTest (tOp rLeI (tCall (spP K W__law_many) [] E0 (tCons (tVar 0) (tCons (tOp (rPlus K) (tVar 2) (tC (.int 1))) tNil))) (tVar 1)))
    (tAsg (tOp (rPlus K) (tVar 2) (tC (.int 1))) (gName 2)))
    (tRet (tVar 2))))
theorem ds__law_widest : Keeps W__law_widest 3 t__law_widest := by
  intro K ds R h
  obtain ⟨s, w, rfl, s2, s4, w4, q⟩ := h
  refine ⟨by simp, ?_⟩
  show DS K _ (t__law_widest K) [.sh (.int s), .sh (.int w), .no] _ _ _ _
  unfold t__law_widest
  repeat walk_at "d"
  refine DS_while (fun m ρ => ∃ n : Nat, 1 ≤ n ∧ s ^ n ≤ w ∧ m = w.toNat - n ∧ ρ = [.sh (.int s), .sh (.int w), .sh (.int n)]) (w.toNat - 1) ⟨1, by omega, by rw [Int.pow_succ, Int.pow_zero]; omega, rfl, rfl⟩ fun m ρ hI => ?_
  obtain ⟨n, n1, hn, hm, rfl⟩ := hI
  repeat walk_at "d"
  refine DR_plusI ⟨_, _, rfl, rfl, ?_⟩
  repeat walk_at "d"
  refine ⟨s, (n : Int) + 1, rfl, s2, s4, ?_⟩
  repeat walk_at "d"
  have en : ((n : Int) + 1).toNat = n + 1 := by omega
  rw [en]
  refine ite2 (fun h => ?_) fun h => ?_
  · have h : s ^ (n + 1) ≤ w := of_decide_eq_true h
    have b := two_pow_le s2 (n + 1)
    repeat walk_at "d"
    refine DR_plusI ⟨_, _, rfl, rfl, w.toNat - (n + 1), by omega, n + 1, by omega, h, rfl, rfl⟩
  · repeat walk_at "d"
    exact q n n1 hn
end Cf
namespace Cf
open PySem PySem.Spec PyProof.Rows L2
open Evl (Ex)
local macro_rules | `(tactic| walk_at "d") => `(tactic| first
  | (with_reducible refine DS_seq ?_)
  | (with_reducible refine DS_if ?_)
  | (with_reducible refine DS_ret ?_)
  | (with_reducible refine DS_next ?_)
  | (with_reducible refine DS_retN ?_)
  | (with_reducible refine DS_set ?_)
  | (with_reducible refine DS_drop ?_)
  | (with_reducible refine DS_unpack ?_)
  | (with_reducible refine DS_par ?_)
  | (with_reducible refine DE_int ?_)
  | (with_reducible refine DE_bl ?_)
  | (with_reducible refine DE_non ?_)
  | (with_reducible refine DE_str ?_)
  | (with_reducible refine DE_isi ?_)
  | (with_reducible refine DE_and ?_)
  | (with_reducible refine DE_or ?_)
  | (with_reducible refine DE_not ?_)
  | (with_reducible refine DE_if ?_)
  | (with_reducible refine DE_chain ?_)
  | (with_reducible refine DE_tyIs ?_)
  | (with_reducible refine DE_tyNot ?_)
  | (with_reducible refine DE_call ?_)
  | (with_reducible refine DE_cb ?_)
  | (with_reducible refine DE_op ?_)
  | (with_reducible refine DE_un ?_)
  | (with_reducible refine DE_tup ?_)
  | (with_reducible refine DT_test ?_)
  | (with_reducible refine DT_B ?_)
  | (with_reducible refine DT_and ?_)
  | (with_reducible refine DT_or ?_)
  | (with_reducible refine DT_not ?_)
  | (with_reducible refine DT_yes ?_)
  | (with_reducible refine DA_nil ?_)
  | (with_reducible refine DA_cons ?_)
  | (with_reducible refine DO_no ?_)
  | (with_reducible refine DO_at ?_)
  | (with_reducible refine DR_minus ?_)
  | (with_reducible refine DR_mod ?_)
  | (with_reducible refine DR_div ?_)
  | (with_reducible refine DR_pow ?_)
  | (with_reducible refine DR_lt ?_)
  | (with_reducible refine DR_le ?_)
  | (with_reducible refine DR_gt ?_)
  | (with_reducible refine DR_ge ?_)
  | (with_reducible refine DR_eq ?_)
  | (with_reducible refine DR_ne ?_)
  | (with_reducible refine DR_isN ?_)
  | (with_reducible refine DR_notN ?_)
  | (with_reducible refine DU_neg ?_)
  | (with_reducible refine DC_len ?_)
  | (with_reducible refine DC_int ?_)
  | (with_reducible refine DC_abs ?_)
  | (with_reducible refine DC_max2 ?_)
  | (with_reducible refine DC_min2 ?_)
  | (with_reducible refine DC_sum ?_)
  | (with_reducible refine DC_all ?_)
  | (with_reducible refine DC_any ?_)
  | (with_reducible refine DC_repr ?_)
  | (with_reducible refine ⟨_, kb_int _, ?_⟩)
  | (with_reducible refine ⟨_, kb_bool _, ?_⟩)
  | (with_reducible refine ⟨_, kb_list _, ?_⟩)
  | (with_reducible refine ⟨_, kb_tuple _, ?_⟩)
  | (with_reducible refine ⟨_, rfl, ?_⟩)
  | (with_reducible refine ⟨_, _, rfl, rfl, ?_⟩)
  | ((with_reducible refine' DE_var ?k1 ?_); (case k1 => exact rfl)))


def W__law_ring (ds : List PyData) (R : PyData → Prop) : Prop := ∃ s c : Int, ds = [.int s, .int c] ∧ 2 ≤ s ∧ s ≤ 4 ∧ 1 ≤ c ∧ c ≤ 512 ∧ ∀ r : List Int, r ≠ [] → (r.length : Int) ≤ c → Signs s r → R (LI r)
def t__law_ring (K : PySem.W.Frag) : TS :=
  (tSeq (tAsg (tTup (tCons (tOp (rPlus K) (tC (.int 1)) (tCall (spT K W__law_draw) [] E0 (tCons (tVar 0) (tCons (tVar 2) tNil)))) (tCons (tCall (spT K W__law_draw) [] E0 (tCons (tVar 0) (tCons (tC (.int 4)) tNil))) tNil))) (gTup K 2 (gNames [3, 4])))
    (tSeq (tIfS (tTest (tOp (rEqU K) (tVar 4) (tC (.int 3))))
    (tSeq (tAsg (tLc (iRg1 (tCons (tOp (rPlus K) (tC (.int 1)) (tCall (spT K W__law_draw) [] E0 (tCons (tVar 0) (tCons (tC (.int 4)) tNil)))) tNil)) (gName 6) tYes (tCall (spT K W__law_draw) [] E0 (tCons (tVar 0) (tCons (tVar 1) tNil))) [6]) (gName 5))
    (tRet (tLc (iRg1 (tCons (tVar 3) tNil)) (gName 7) tYes (tOp (rIx K) (tVar 5) (tOp rModI (tCB rIntA (tCons (tVar 7) tNil)) (tCB (rLenA K) (tCons (tVar 5) tNil)))) [7])))
    tNext)
    (tRet (tLc (iRg1 (tCons (tVar 3) tNil)) (gName 7) tYes (tIf (tOr (tTest (tOp rGtI (tVar 4) (tC (.int 0)))) (tTest (tOp (rEqU K) (tCall (spT K W__law_draw) [] E0 (tCons (tVar 0) (tCons (tC (.int 4)) tNil))) (tC (.int 0))))) (tCall (spT K W__law_draw) [] E0 (tCons (tVar 0) (tCons (tVar 1) tNil))) (tC (.int 0))) [7]))))
theorem ds__law_ring : KeepsT W__law_ring 8 t__law_ring := by
  intro K a ds R h
  obtain ⟨s, c, rfl, s2, s4, c1, c5, q⟩ := h
  refine ⟨by simp, ?_⟩
  show DS K _ (t__law_ring K) [.tp, .sh (.int s), .sh (.int c), .no, .no, .no, .no, .no] _ _ _ _
  unfold t__law_ring
  repeat walk_at "d"
  refine DE_callT (by rfl) ?_
  repeat walk_at "d"
  refine ⟨c, rfl, by omega, big_lt (by omega), fun m m0 m1 => DR_plusI ⟨_, _, rfl, rfl, ?_⟩⟩
  repeat walk_at "d"
  refine DE_callT (by rfl) ?_
  repeat walk_at "d"
  refine ⟨4, rfl, by decide, big_lt (by decide), fun k k0 k1 => ?_⟩
  repeat walk_at "d"
  refine ⟨by simp, _, rfl, rfl, rfl, ?_⟩
  repeat walk_at "d"
  refine ⟨rfl, rfl, _, rfl, ?_⟩
  obtain ⟨n, en⟩ : ∃ n : Nat, 1 + m = (n : Int) := ⟨(1 + m).toNat, by omega⟩
  rw [en]
  refine ite2 (fun h => ?_) fun h => ?_
  · repeat walk_at "d"
    refine DE_new (DL_intsR1 (P := fun m => 0 ≤ m ∧ m < s) ?_)
    repeat walk_at "d"
    refine DE_callT (by rfl) ?_
    repeat walk_at "d"
    refine ⟨4, rfl, by decide, big_lt (by decide), fun j j0 j1 => DR_plusI ⟨_, _, rfl, rfl, ?_⟩⟩
    repeat walk_at "d"
    refine ⟨(1 + j).toNat, by congr 2; omega, by omega, fun x hx => ?_, fun ns hl hp => ?_⟩
    · refine DE_callT (by rfl) ?_
      repeat walk_at "d"
      exact ⟨s, rfl, by omega, big_lt (by omega), fun y y0 y1 => ⟨y, rfl, y0, y1⟩⟩
    · have rn : ns ≠ [] := fun z => by
        rw [z] at hl
        simp at hl
        omega
      have rp : 0 < ns.length := List.length_pos_iff.mpr rn
      repeat walk_at "d"
      refine DE_new (DL_mapR1 (f := fun k => .int (at_ ns k)) ?_)
      repeat walk_at "d"
      refine ⟨by omega, fun x hx => ?_, ?_⟩
      · repeat walk_at "d"
        refine .inl ⟨_, rfl, ?_⟩
        repeat walk_at "d"
        rw [List.length_map]
        exact ⟨by omega, DR_ix (.inl ⟨_, _, _, rfl, rfl, atI_LI rn _, rfl⟩)⟩
      · have e : (List.range n).map (fun (k : Nat) => PyData.int (at_ ns k)) = ((List.range n).map fun (k : Nat) => at_ ns k).map .int := by rw [List.map_map]; rfl
        rw [e]
        refine q _ (fun z => ?_) (by rw [List.length_map, List.length_range]; omega) fun d hd => ?_
        · have := congrArg List.length z
          rw [List.length_map, List.length_range] at this
          simp at this
          omega
        · obtain ⟨k, _, rfl⟩ := List.mem_map.mp hd
          exact hp _ (at_mem rn _)
  · repeat walk_at "d"
    refine DE_new (DL_intsR1 (P := fun m => 0 ≤ m ∧ m < s) ?_)
    repeat walk_at "d"
    refine ⟨by omega, fun x hx => ?_, fun ns hl hp => q ns (fun z => ?_) (by omega) hp⟩
    · have draw : ∀ (ρ : Rho), ρ[0]? = some .tp → ρ[1]? = some (.sh (.int s)) → DE K (some a) (tCall (spT K W__law_draw) [] E0 (tCons (tVar 0) (tCons (tVar 1) tNil))) ρ fun y => ∃ m, y = .int m ∧ 0 ≤ m ∧ m < s := fun ρ h0 h1 =>
        DE_callT h0 (DA_cons (DE_var h1 (DA_nil ⟨s, rfl, by omega, big_lt (by omega), fun y y0 y1 => ⟨y, rfl, y0, y1⟩⟩)))
      repeat walk_at "d"
      refine ite2 (fun h => ?_) fun h => ?_
      · exact iteT (draw _ (by rfl) (by rfl))
      · repeat walk_at "d"
        refine DE_callT (by rfl) ?_
        repeat walk_at "d"
        refine ⟨4, rfl, by decide, big_lt (by decide), fun j j0 j1 => ?_⟩
        repeat walk_at "d"
        refine ⟨rfl, rfl, _, rfl, ite2 (fun h => ?_) fun h => ?_⟩
        · exact draw _ (by rfl) (by rfl)
        · repeat walk_at "d"
          exact ⟨by omega, by omega⟩
    · rw [z] at hl
      simp at hl
      omega

def top_ : Int := 10 ^ 39
def W__law_weight (ds : List PyData) (R : PyData → Prop) : Prop := ∃ s w top : Int, ds = [.int s, .int w, .int top] ∧ 2 ≤ s ∧ s ≤ 4 ∧ s ≤ w ∧ w ≤ 1024 ∧ 0 ≤ top ∧ top ≤ top_ ∧ ∀ (l : Nat) (vs : List Int), Wt s l vs → s ^ l ≤ w → (∀ v ∈ vs, -top ≤ v ∧ v ≤ top) → R (wtD s l vs)
def t__law_weight (K : PySem.W.Frag) : TS :=
  (tSeq (tPar 4 5 (tCons (tOp (rPlus K) (tC (.int 1)) (tCall (spT K W__law_draw) [] E0 (tCons (tVar 0) (tCons (tCall (spP K W__law_widest) [] E0 (tCons (tVar 1) (tCons (tVar 2) tNil))) tNil)))) (tCons (tCall (spT K W__law_draw) [] E0 (tCons (tVar 0) (tCons (tC (.int 3)) tNil))) tNil)))
    (tSeq (tAsg (tLc (iRg1 (tCons (tCall (spP K W__law_many) [] E0 (tCons (tVar 1) (tCons (tVar 4) tNil))) tNil)) (gName 7) tYes (tOp rMinus (tCall (spT K W__law_draw) [] E0 (tCons (tVar 0) (tCons (tOp (rPlus K) (tOp rTimes (tC (.int 2)) (tVar 3)) (tC (.int 1))) tNil))) (tVar 3)) [7]) (gName 6))
    (tSeq (tIfS (tTest (tOp (rEqU K) (tVar 5) (tC (.int 0))))
    (tAsg (tLc (iList K (tVar 6)) (gName 8) tYes (tIf (tTest (tOp (rEqU K) (tCall (spT K W__law_draw) [] E0 (tCons (tVar 0) (tCons (tC (.int 3)) tNil))) (tC (.int 0)))) (tVar 8) (tC (.int 0))) [8]) (gName 6))
    tNext)
    (tRet (tTup (tCons (tVar 1) (tCons (tVar 4) (tCons (tVar 6) tNil))))))))
theorem ds__law_weight : KeepsT W__law_weight 9 t__law_weight := by
  intro K a ds R h
  obtain ⟨s, w, top, rfl, s2, s4, w4, w5, t0, t1, q⟩ := h
  have tb : top_ < 2 ^ 150 := by decide
  refine ⟨by simp, ?_⟩
  show DS K _ (t__law_weight K) [.tp, .sh (.int s), .sh (.int w), .sh (.int top), .no, .no, .no, .no, .no] _ _ _ _
  unfold t__law_weight
  repeat walk_at "d"
  refine DE_callT (by rfl) ?_
  repeat walk_at "d"
  refine ⟨s, w, rfl, s2, s4, w4, fun n n1 hn => ?_⟩
  have nb := two_pow_le s2 n
  repeat walk_at "d"
  refine ⟨n, rfl, by omega, big_lt (by omega), fun m m0 m1 => DR_plusI ⟨_, _, rfl, rfl, ?_⟩⟩
  repeat walk_at "d"
  refine DE_callT (by rfl) ?_
  repeat walk_at "d"
  refine ⟨3, rfl, by decide, big_lt (by decide), fun k k0 k1 => ?_⟩
  repeat walk_at "d"
  obtain ⟨l, el⟩ : ∃ l : Nat, 1 + m = (l : Int) := ⟨(1 + m).toNat, by omega⟩
  rw [el]
  refine ⟨_, _, rfl, ?_⟩
  repeat walk_at "d"
  have lw : s ^ l ≤ w := Int.le_trans (pow_mono (by omega) (by omega)) hn
  have lb : s ^ l ≤ 1024 := Int.le_trans lw w5
  have lp := pow_pos' (s := s) (by omega) l
  refine DE_new (DL_intsR1 (P := fun v => -top ≤ v ∧ v ≤ top) ?_)
  repeat walk_at "d"
  refine ⟨s, l, rfl, s2, s4, ?_⟩
  rw [Int.toNat_natCast]
  repeat walk_at "d"
  refine ⟨(s ^ l).toNat, by congr 2; omega, by omega, fun x hx => ?_, fun vs hl hp => ?_⟩
  · refine DE_op (DE_callT (by rfl) ?_)
    repeat walk_at "d"
    refine DR_timesI ⟨_, _, rfl, rfl, .inl ⟨by decide, by decide⟩, ?_⟩
    repeat walk_at "d"
    refine DR_plusI ⟨_, _, rfl, rfl, ?_⟩
    repeat walk_at "d"
    refine ⟨_, rfl, by omega, big_lt (by omega), fun y y0 y1 => ?_⟩
    repeat walk_at "d"
    exact ⟨by omega, by omega⟩
  · have fin : ∀ vs : List Int, vs.length = (s ^ l).toNat → (∀ v ∈ vs, -top ≤ v ∧ v ≤ top) → R (wtD s l vs) := fun vs hl hp => q l vs ⟨s2, s4, by omega, lb, by omega⟩ lw hp
    repeat walk_at "d"
    refine ⟨rfl, rfl, _, rfl, ite2 (fun h => ?_) fun h => ?_⟩
    · repeat walk_at "d"
      refine DE_new (DL_intsL (P := fun v => -top ≤ v ∧ v ≤ top) ?_)
      repeat walk_at "d"
      refine ⟨by rw [List.length_map]; omega, fun d hd => ?_, fun us hl2 hp2 => ?_⟩
      · obtain ⟨v, hv, rfl⟩ := List.mem_map.mp hd
        repeat walk_at "d"
        refine DE_callT (by rfl) ?_
        repeat walk_at "d"
        refine ⟨3, rfl, by decide, big_lt (by decide), fun j j0 j1 => ?_⟩
        repeat walk_at "d"
        refine ⟨rfl, rfl, _, rfl, ite2 (fun h => ?_) fun h => ?_⟩
        · repeat walk_at "d"
          exact hp v hv
        · repeat walk_at "d"
          exact ⟨by omega, by omega⟩
      · repeat walk_at "d"
        exact ⟨by simp, fin us (by rw [hl2, List.length_map, hl]) hp2⟩
    · repeat walk_at "d"
      exact ⟨by simp, fin vs hl hp⟩

def W__law_sum (ds : List PyData) (R : PyData → Prop) : Prop := ∃ (s : Int) (l : Nat) (vs r : List Int), ds = [wtD s l vs, LI r] ∧ Wt s l vs ∧ r ≠ [] ∧ r.length ≤ 5000 ∧ Signs s r ∧ R (.int (ringSum s l vs r))
def t__law_sum (K : PySem.W.Frag) : TS :=
  (tSeq (tAsg (tVar 0) (gTup K 3 (gNames [2, 3, 4])))
    (tRet (tCB (rSum K) (tCons (tLc (iRg1 (tCons (tCB (rLenA K) (tCons (tVar 1) tNil)) tNil)) (gName 5) tYes (tOp (rIx K) (tVar 4) (tCall (spP K W__law_number) [] E0 (tCons (tVar 2) (tCons (tVar 1) (tCons (tVar 5) (tCons (tVar 3) tNil)))))) [5]) tNil))))
theorem ds__law_sum : Keeps W__law_sum 6 t__law_sum := by
  intro K ds R h
  obtain ⟨s, l, vs, r, rfl, hw, rn, rl, rs, q⟩ := h
  refine ⟨by simp, ?_⟩
  show DS K _ (t__law_sum K) [.sh (wtD s l vs), .sh (LI r), .no, .no, .no, .no] _ _ _ _
  unfold t__law_sum
  repeat walk_at "d"
  refine ⟨rfl, rfl, ?_⟩
  repeat walk_at "d"
  refine DE_new (DL_mapR1 (f := fun k => .int (vs.getD (num s (win r k l)).toNat 0)) ?_)
  repeat walk_at "d"
  rw [List.length_map]
  refine ⟨by omega, fun k hk => ?_, ?_⟩
  · have b := num_bound (s := s) (by have := hw.s2; omega) (win r k l) (win_signs rn rs)
    rw [win_length] at b
    repeat walk_at "d"
    refine ⟨s, r, k, l, rfl, hw.s2, hw.s4, rn, DR_ix (.inl ⟨_, _, _, rfl, rfl, atI_ok b.1 (by rw [← hw.ln]; exact b.2), rfl⟩)⟩
  · repeat walk_at "d"
    refine ⟨(List.range r.length).map fun (k : Nat) => vs.getD (num s (win r k l)).toNat 0, ?_, ?_⟩
    · rw [List.map_map]
      rfl
    · have e : ringSum s l vs r = ((List.range r.length).map fun (k : Nat) => vs.getD (num s (win r k l)).toNat 0).sum := by
        unfold ringSum nums
        rw [List.map_map]
        congr 1
        refine List.map_congr_left fun k _ => ?_
        show vs.getD (num s (win r (0 + (k : Int)) l)).toNat 0 = _
        rw [Int.zero_add]
      rw [← e]
      exact q

def W__law_same (ds : List PyData) (R : PyData → Prop) : Prop := ∃ (a b : PyData) (vs : List PyData), ds = [.tuple [a, b, .list vs]] ∧ R (.tuple [a, b, .list vs])
def t__law_same (K : PySem.W.Frag) : TS :=
  (tRet (tTup (tCons (tOp (rIx K) (tVar 0) (tC (.int 0))) (tCons (tOp (rIx K) (tVar 0) (tC (.int 1))) (tCons (tCB (rListA K) (tCons (tOp (rIx K) (tVar 0) (tC (.int 2))) tNil)) tNil)))))
theorem ds__law_same : Keeps W__law_same 1 t__law_same := by
  intro K ds R h
  obtain ⟨a, b, vs, rfl, q⟩ := h
  refine ⟨by simp, ?_⟩
  show DS K _ (t__law_same K) [.sh (.tuple [a, b, .list vs])] _ _ _ _
  unfold t__law_same
  repeat walk_at "d"
  refine DR_ix (.inr ⟨_, _, _, rfl, rfl, rfl, ?_⟩)
  repeat walk_at "d"
  refine DR_ix (.inr ⟨_, _, _, rfl, rfl, rfl, ?_⟩)
  refine DA_cons (DE_new (DL_cb ?_))
  repeat walk_at "d"
  refine DR_ix (.inr ⟨_, _, _, rfl, rfl, rfl, ?_⟩)
  repeat walk_at "d"
  refine DCL_list ⟨_, .inl rfl, ?_⟩
  repeat walk_at "d"
  exact ⟨by simp, q⟩

def W__law_is_whole (ds : List PyData) (R : PyData → Prop) : Prop := ∃ x, ds = [x] ∧ R (.bool (isInt x))
def t__law_is_whole (K : PySem.W.Frag) : TS :=
  (tRet (tAndV (tCB (rIsi K) (tCons (tVar 0) (tCons (tC (.ty "int")) tNil))) (tNotV (tCB (rIsi K) (tCons (tVar 0) (tCons (tC (.ty "bool")) tNil))))))
end Cf
namespace Cf
open PySem PySem.Spec PyProof.Rows L2
open Evl (Ex)
local macro_rules | `(tactic| walk_at "d") => `(tactic| first
  | (with_reducible refine DS_seq ?_)
  | (with_reducible refine DS_if ?_)
  | (with_reducible refine DS_ret ?_)
  | (with_reducible refine DS_next ?_)
  | (with_reducible refine DS_retN ?_)
  | (with_reducible refine DS_set ?_)
  | (with_reducible refine DS_drop ?_)
  | (with_reducible refine DS_unpack ?_)
  | (with_reducible refine DS_par ?_)
  | (with_reducible refine DE_int ?_)
  | (with_reducible refine DE_bl ?_)
  | (with_reducible refine DE_non ?_)
  | (with_reducible refine DE_str ?_)
  | (with_reducible refine DE_isi ?_)
  | (with_reducible refine DE_and ?_)
  | (with_reducible refine DE_or ?_)
  | (with_reducible refine DE_not ?_)
  | (with_reducible refine DE_if ?_)
  | (with_reducible refine DE_chain ?_)
  | (with_reducible refine DE_tyIs ?_)
  | (with_reducible refine DE_tyNot ?_)
  | (with_reducible refine DE_call ?_)
  | (with_reducible refine DE_cb ?_)
  | (with_reducible refine DE_op ?_)
  | (with_reducible refine DE_un ?_)
  | (with_reducible refine DE_tup ?_)
  | (with_reducible refine DT_test ?_)
  | (with_reducible refine DT_B ?_)
  | (with_reducible refine DT_and ?_)
  | (with_reducible refine DT_or ?_)
  | (with_reducible refine DT_not ?_)
  | (with_reducible refine DT_yes ?_)
  | (with_reducible refine DA_nil ?_)
  | (with_reducible refine DA_cons ?_)
  | (with_reducible refine DO_no ?_)
  | (with_reducible refine DO_at ?_)
  | (with_reducible refine DR_minus ?_)
  | (with_reducible refine DR_mod ?_)
  | (with_reducible refine DR_div ?_)
  | (with_reducible refine DR_pow ?_)
  | (with_reducible refine DR_lt ?_)
  | (with_reducible refine DR_le ?_)
  | (with_reducible refine DR_gt ?_)
  | (with_reducible refine DR_ge ?_)
  | (with_reducible refine DR_eq ?_)
  | (with_reducible refine DR_ne ?_)
  | (with_reducible refine DR_isN ?_)
  | (with_reducible refine DR_notN ?_)
  | (with_reducible refine DU_neg ?_)
  | (with_reducible refine DC_len ?_)
  | (with_reducible refine DC_int ?_)
  | (with_reducible refine DC_abs ?_)
  | (with_reducible refine DC_max2 ?_)
  | (with_reducible refine DC_min2 ?_)
  | (with_reducible refine DC_sum ?_)
  | (with_reducible refine DC_all ?_)
  | (with_reducible refine DC_any ?_)
  | (with_reducible refine DC_repr ?_)
  | (with_reducible refine ⟨_, kb_int _, ?_⟩)
  | (with_reducible refine ⟨_, kb_bool _, ?_⟩)
  | (with_reducible refine ⟨_, kb_list _, ?_⟩)
  | (with_reducible refine ⟨_, kb_tuple _, ?_⟩)
  | (with_reducible refine ⟨_, rfl, ?_⟩)
  | (with_reducible refine ⟨_, _, rfl, rfl, ?_⟩)
  | ((with_reducible refine' DE_var ?k1 ?_); (case k1 => exact rfl)))


def W__law_is_weight (ds : List PyData) (R : PyData → Prop) : Prop := ∃ x, ds = [x] ∧ shortW x = true ∧ R (.bool (isWeight x))
def t__law_is_weight (K : PySem.W.Frag) : TS :=
  (tSeq (tIfS (tOr (tNot (tB (tCB (rIsi K) (tCons (tVar 0) (tCons (tC (.ty "tuple")) tNil))))) (tOr (tTest (tOp (rNeU K) (tCB (rLenA K) (tCons (tVar 0) tNil)) (tC (.int 3)))) (tTest (tOp (rNeU K) (tLc (iTup K (tSl (rSlT K) (tVar 0) tNoPart (tPart (tC (.int 2))))) (gName 1) (tNot (tB (tCall (spP K W__law_is_whole) [] E0 (tCons (tVar 1) tNil)))) (tVar 1) [1]) (tLst tNil)))))
    (tRet (tC (.bl false)))
    tNext)
    (tSeq (tAsg (tVar 0) (gTup K 3 (gNames [2, 3, 4])))
    (tSeq (tIfS (tOr (tNot (tTest (tChain rLeI rLeI (tC (.int 2)) (tVar 2) (tC (.int 4))))) (tOr (tNot (tTest (tChain rLeI rLeI (tC (.int 1)) (tVar 3) (tC (.int 10))))) (tOr (tTest (tOp rGtI (tCall (spP K W__law_many) [] E0 (tCons (tVar 2) (tCons (tVar 3) tNil))) (tC (.int 1024)))) (tNot (tB (tCB (rIsi K) (tCons (tVar 4) (tCons (tC (.ty "list")) tNil))))))))
    (tRet (tC (.bl false)))
    tNext)
    (tRet (tAndV (tOp (rEqU K) (tCB (rLenA K) (tCons (tVar 4) tNil)) (tCall (spP K W__law_many) [] E0 (tCons (tVar 2) (tCons (tVar 3) tNil)))) (tOp (rEqU K) (tLc (iList K (tVar 4)) (gName 1) (tNot (tB (tCall (spP K W__law_is_whole) [] E0 (tCons (tVar 1) tNil)))) (tVar 1) [1]) (tLst tNil)))))))
end Cf
namespace Cf
open PySem PySem.Spec PyProof.Rows L2
open Evl (Ex)
local macro_rules | `(tactic| walk_at "d") => `(tactic| first
  | (with_reducible refine DS_seq ?_)
  | (with_reducible refine DS_if ?_)
  | (with_reducible refine DS_ret ?_)
  | (with_reducible refine DS_next ?_)
  | (with_reducible refine DS_retN ?_)
  | (with_reducible refine DS_set ?_)
  | (with_reducible refine DS_drop ?_)
  | (with_reducible refine DS_unpack ?_)
  | (with_reducible refine DS_par ?_)
  | (with_reducible refine DE_int ?_)
  | (with_reducible refine DE_bl ?_)
  | (with_reducible refine DE_non ?_)
  | (with_reducible refine DE_str ?_)
  | (with_reducible refine DE_isi ?_)
  | (with_reducible refine DE_and ?_)
  | (with_reducible refine DE_or ?_)
  | (with_reducible refine DE_not ?_)
  | (with_reducible refine DE_if ?_)
  | (with_reducible refine DE_chain ?_)
  | (with_reducible refine DE_tyIs ?_)
  | (with_reducible refine DE_tyNot ?_)
  | (with_reducible refine DE_call ?_)
  | (with_reducible refine DE_cb ?_)
  | (with_reducible refine DE_op ?_)
  | (with_reducible refine DE_un ?_)
  | (with_reducible refine DE_tup ?_)
  | (with_reducible refine DT_test ?_)
  | (with_reducible refine DT_B ?_)
  | (with_reducible refine DT_and ?_)
  | (with_reducible refine DT_or ?_)
  | (with_reducible refine DT_not ?_)
  | (with_reducible refine DT_yes ?_)
  | (with_reducible refine DA_nil ?_)
  | (with_reducible refine DA_cons ?_)
  | (with_reducible refine DO_no ?_)
  | (with_reducible refine DO_at ?_)
  | (with_reducible refine DR_minus ?_)
  | (with_reducible refine DR_mod ?_)
  | (with_reducible refine DR_div ?_)
  | (with_reducible refine DR_pow ?_)
  | (with_reducible refine DR_lt ?_)
  | (with_reducible refine DR_le ?_)
  | (with_reducible refine DR_gt ?_)
  | (with_reducible refine DR_ge ?_)
  | (with_reducible refine DR_eq ?_)
  | (with_reducible refine DR_ne ?_)
  | (with_reducible refine DR_isN ?_)
  | (with_reducible refine DR_notN ?_)
  | (with_reducible refine DU_neg ?_)
  | (with_reducible refine DC_len ?_)
  | (with_reducible refine DC_int ?_)
  | (with_reducible refine DC_abs ?_)
  | (with_reducible refine DC_max2 ?_)
  | (with_reducible refine DC_min2 ?_)
  | (with_reducible refine DC_sum ?_)
  | (with_reducible refine DC_all ?_)
  | (with_reducible refine DC_any ?_)
  | (with_reducible refine DC_repr ?_)
  | (with_reducible refine ⟨_, kb_int _, ?_⟩)
  | (with_reducible refine ⟨_, kb_bool _, ?_⟩)
  | (with_reducible refine ⟨_, kb_list _, ?_⟩)
  | (with_reducible refine ⟨_, kb_tuple _, ?_⟩)
  | (with_reducible refine ⟨_, rfl, ?_⟩)
  | (with_reducible refine ⟨_, _, rfl, rfl, ?_⟩)
  | (with_reducible refine DE_emp ?_)
  | (with_reducible refine DE_new (DL_lst ?_))
  | (with_reducible refine DE_new (DL_sl ?_))
  | (with_reducible refine DE_slT ?_)
  | (with_reducible refine DC_list ?_)
  | ((with_reducible refine' DE_callT ?k1 ?_); (case k1 => exact rfl))
  | ((with_reducible refine' DE_var ?k1 ?_); (case k1 => exact rfl)))

abbrev Itm (d : PyData) : Prop := Shw 64 1 d
def Nice (x : PyData) : Prop := shortW x = true ∧ Shw 300000 4 x
theorem itm_int {v : Int} (h : -(10 ^ 40) ≤ v ∧ v ≤ 10 ^ 40) : Itm (.int v) := (shw_int (by omega)).up (Nat.le_refl _) (by omega)
theorem shw_vals {ds : List PyData} (h : ∀ d ∈ ds, Itm d) (hl : ds.length ≤ 1026) : Shw 67720 2 (.list ds) := (shw_list h).up (by omega) (Nat.le_refl _)
theorem itm_up {d : PyData} (h : Itm d) : Shw 67720 2 d := h.up (by decide) (by decide)
theorem nice_3 {a b c : PyData} (ha : Shw 67720 2 a) (hb : Shw 67720 2 b) (hc : Shw 67720 2 c) (hs : shortD c = true) : Nice (.tuple [a, b, c]) :=
  ⟨hs, (shw_tuple (n := 67720) (k := 2) (fun d hd => by
    simp only [List.mem_cons, List.not_mem_nil, or_false] at hd
    rcases hd with rfl | rfl | rfl <;> assumption)).up (by show 3 * 67722 + 3 ≤ 300000; decide) (by decide)⟩
end Cf
/-! rings turned, rings twice -/
namespace Cf
/-- the value of the word at a place -/
def val (s : Int) (l : Nat) (vs r : List Int) (z : Int) : Int := vs.getD (num s (win r z l)).toNat 0
theorem ringSum_val (s : Int) (l : Nat) (vs r : List Int) : ringSum s l vs r = ((List.range r.length).map fun (c : Nat) => val s l vs r c).sum := by
  unfold ringSum nums
  rw [List.map_map]
  congr 1
  refine List.map_congr_left fun k _ => ?_
  show vs.getD (num s (win r (0 + (k : Int)) l)).toNat 0 = _
  rw [Int.zero_add]
  rfl
theorem at_round (r : List Int) (z : Int) : at_ r (z + r.length) = at_ r z := by
  unfold at_
  rw [Int.add_emod_right]
theorem win_eq {r q : List Int} {y z : Int} {l : Nat} (h : ∀ k : Int, at_ r (y + k) = at_ q (z + k)) : win r y l = win q z l := by
  unfold win
  exact List.map_congr_left fun k _ => h k
/-- sums of what comes again -/
theorem sum_turn {g : Int → Int} {n : Nat} (h : ∀ z, g (z + n) = g z) : ∀ p : Nat, ((List.range n).map fun (c : Nat) => g ((c : Int) + p)).sum = ((List.range n).map fun (c : Nat) => g c).sum
  | 0 => by simp
  | p + 1 => by
    rw [← sum_turn h p]
    have e1 : ((List.range (n + 1)).map fun (c : Nat) => g ((c : Int) + p)).sum = ((List.range n).map fun (c : Nat) => g ((c : Int) + p)).sum + g (p : Int) := by
      rw [List.range_succ, List.map_append, List.sum_append]
      simp
      rw [show (n : Int) + p = (p : Int) + n by omega, h]
    have e2 : ((List.range (n + 1)).map fun (c : Nat) => g ((c : Int) + p)).sum = g (p : Int) + ((List.range n).map fun (c : Nat) => g ((c : Int) + (p + 1 : Nat))).sum := by
      rw [List.range_succ_eq_map, List.map_cons, List.sum_cons, List.map_map]
      congr 1
      · simp
      · congr 1
        refine List.map_congr_left fun c _ => ?_
        show g (((c + 1 : Nat) : Int) + p) = _
        congr 1
        push_cast
        omega
    omega
end Cf
namespace Cf
open PySem PySem.Spec PyProof.Rows L2
open Evl (Ex)
local macro_rules | `(tactic| walk_at "d") => `(tactic| first
  | (with_reducible refine DS_seq ?_)
  | (with_reducible refine DS_if ?_)
  | (with_reducible refine DS_ret ?_)
  | (with_reducible refine DS_next ?_)
  | (with_reducible refine DS_retN ?_)
  | (with_reducible refine DS_set ?_)
  | (with_reducible refine DS_drop ?_)
  | (with_reducible refine DS_unpack ?_)
  | (with_reducible refine DS_par ?_)
  | (with_reducible refine DE_int ?_)
  | (with_reducible refine DE_bl ?_)
  | (with_reducible refine DE_non ?_)
  | (with_reducible refine DE_str ?_)
  | (with_reducible refine DE_isi ?_)
  | (with_reducible refine DE_and ?_)
  | (with_reducible refine DE_or ?_)
  | (with_reducible refine DE_not ?_)
  | (with_reducible refine DE_if ?_)
  | (with_reducible refine DE_chain ?_)
  | (with_reducible refine DE_tyIs ?_)
  | (with_reducible refine DE_tyNot ?_)
  | (with_reducible refine DE_call ?_)
  | (with_reducible refine DE_cb ?_)
  | (with_reducible refine DE_op ?_)
  | (with_reducible refine DE_un ?_)
  | (with_reducible refine DE_tup ?_)
  | (with_reducible refine DT_test ?_)
  | (with_reducible refine DT_B ?_)
  | (with_reducible refine DT_and ?_)
  | (with_reducible refine DT_or ?_)
  | (with_reducible refine DT_not ?_)
  | (with_reducible refine DT_yes ?_)
  | (with_reducible refine DA_nil ?_)
  | (with_reducible refine DA_cons ?_)
  | (with_reducible refine DO_no ?_)
  | (with_reducible refine DO_at ?_)
  | (with_reducible refine DR_minus ?_)
  | (with_reducible refine DR_mod ?_)
  | (with_reducible refine DR_div ?_)
  | (with_reducible refine DR_pow ?_)
  | (with_reducible refine DR_lt ?_)
  | (with_reducible refine DR_le ?_)
  | (with_reducible refine DR_gt ?_)
  | (with_reducible refine DR_ge ?_)
  | (with_reducible refine DR_eq ?_)
  | (with_reducible refine DR_ne ?_)
  | (with_reducible refine DR_isN ?_)
  | (with_reducible refine DR_notN ?_)
  | (with_reducible refine DU_neg ?_)
  | (with_reducible refine DC_len ?_)
  | (with_reducible refine DC_int ?_)
  | (with_reducible refine DC_abs ?_)
  | (with_reducible refine DC_max2 ?_)
  | (with_reducible refine DC_min2 ?_)
  | (with_reducible refine DC_sum ?_)
  | (with_reducible refine DC_all ?_)
  | (with_reducible refine DC_any ?_)
  | (with_reducible refine DC_repr ?_)
  | (with_reducible refine ⟨_, kb_int _, ?_⟩)
  | (with_reducible refine ⟨_, kb_bool _, ?_⟩)
  | (with_reducible refine ⟨_, kb_list _, ?_⟩)
  | (with_reducible refine ⟨_, kb_tuple _, ?_⟩)
  | (with_reducible refine ⟨_, rfl, ?_⟩)
  | (with_reducible refine ⟨_, _, rfl, rfl, ?_⟩)
  | (with_reducible refine DE_emp ?_)
  | (with_reducible refine DE_new (DL_lst ?_))
  | (with_reducible refine DE_new (DL_sl ?_))
  | (with_reducible refine DE_slT ?_)
  | (with_reducible refine DC_list ?_)
  | ((with_reducible refine' DE_callT ?k1 ?_); (case k1 => exact rfl))
  | ((with_reducible refine' DE_var ?k1 ?_); (case k1 => exact rfl)))


theorem lay_ints : ∀ ns : List Int, PyData.canLayAll0 (ns.map .int) = true
  | [] => by simp only [List.map_nil, PyData.canLayAll0]
  | n :: ns => by simp only [List.map_cons, PyData.canLayAll0, PyData.canLay0, lay_ints ns, Bool.and_self]
theorem dep_ints : ∀ ns : List Int, PyData.depthAll (ns.map .int) = 0
  | [] => by simp only [List.map_nil, PyData.depthAll]
  | n :: ns => by simp only [List.map_cons, PyData.depthAll, PyData.depth, dep_ints ns, Nat.max_self]
theorem shp_wt (s : Int) (l : Nat) (vs : List Int) : SeqAt.shaped (wtD s l vs) = true := by
  unfold SeqAt.shaped
  simp only [PyData.canLay0, PyData.canLayAll0, PyData.depth, PyData.depthAll, lay_ints, dep_ints]
  decide
theorem eqv_shaped {d : PyData} (h : SeqAt.shaped d = true) : PyData.eqv d d = true := SeqAt.eqv_refl d (SeqAt.canLay_of_shaped h)
theorem ne_self (a : Str) : (!decide (a = a)) = false := by simp
theorem eq_self' (a : Str) : decide (a = a) = true := by simp
theorem cutD_to {r : List Int} {p : Nat} : cutD (r.map .int) none (some (p : Int)) = (r.take p).map .int := by
  unfold cutD
  rw [HT.sIx_nat, HT.sIx_none, List.map_take, List.drop_zero, Nat.sub_zero]
  by_cases h : p ≤ (r.map PyData.int).length
  · rw [Nat.min_eq_left h]
  · rw [Nat.min_eq_right (by omega), List.take_of_length_le (Nat.le_refl _), List.take_of_length_le (by omega)]
end Cf
/-! words by numbers, rules, rings behind a tick -/
namespace Cf
def lowf (s : Int) : Nat → Int → List Int
  | 0, _ => []
  | l + 1, n => n % s :: lowf s l (n / s)
/-- the word with a number -/
def wordOf (s : Int) (l : Nat) (n : Int) : List Int := (lowf s l n).reverse
theorem lowf_length (s : Int) : ∀ (l : Nat) (n : Int), (lowf s l n).length = l
  | 0, _ => rfl
  | l + 1, n => by
    show (lowf s l (n / s)).length + 1 = l + 1
    rw [lowf_length]
theorem wordOf_length (s : Int) (l : Nat) (n : Int) : (wordOf s l n).length = l := by
  unfold wordOf
  rw [List.length_reverse, lowf_length]
theorem wordOf_succ (s : Int) (l : Nat) (n : Int) : wordOf s (l + 1) n = wordOf s l (n / s) ++ [n % s] := by
  unfold wordOf
  show (n % s :: lowf s l (n / s)).reverse = _
  rw [List.reverse_cons]
theorem lowf_signs {s : Int} (h : 0 < s) : ∀ (l : Nat) (n : Int), Signs s (lowf s l n)
  | 0, _ => fun d hd => nomatch hd
  | l + 1, n => fun d hd => by
    rcases List.mem_cons.mp hd with rfl | hd
    · exact ⟨Int.emod_nonneg _ (by omega), Int.emod_lt_of_pos _ h⟩
    · exact lowf_signs h l _ d hd
theorem wordOf_signs {s : Int} (h : 0 < s) (l : Nat) (n : Int) : Signs s (wordOf s l n) := fun d hd => lowf_signs h l n d (List.mem_reverse.mp hd)
theorem num_wordOf {s : Int} (h : 0 < s) : ∀ (l : Nat) (n : Int), num s (wordOf s l n) = n % s ^ l
  | 0, n => by
    show (0 : Int) = n % s ^ 0
    rw [Int.pow_zero, Int.emod_one]
  | l + 1, n => by
    rw [wordOf_succ, num_snoc, num_wordOf h l, Int.pow_succ]
    have hp := pow_pos' h l
    have e1 : s * (n / s) + n % s = n := Int.mul_ediv_add_emod n s
    have e2 : s ^ l * (n / s / s ^ l) + n / s % s ^ l = n / s := Int.mul_ediv_add_emod (n / s) (s ^ l)
    have b1 := Int.emod_nonneg n (show s ≠ 0 by omega)
    have b2 := Int.emod_lt_of_pos n h
    have b3 := Int.emod_nonneg (n / s) (show s ^ l ≠ 0 by omega)
    have b4 := Int.emod_lt_of_pos (n / s) hp
    generalize n % s = r at *
    generalize n / s % s ^ l = q at *
    generalize n / s / s ^ l = z at *
    have e3 : n = (q * s + r) + s ^ l * s * z := by
      rw [← e1, ← e2, Int.mul_add, Int.mul_comm s q, ← Int.mul_assoc, Int.mul_comm s (s ^ l)]
      omega
    rw [e3, Int.add_mul_emod_self_left]
    refine (Int.emod_eq_of_lt ?_ ?_).symm
    · have : 0 ≤ q * s := Int.mul_nonneg b3 (by omega)
      omega
    · have : (q + 1) * s ≤ s ^ l * s := Int.mul_le_mul_of_nonneg_right (by omega) (by omega)
      rw [Int.add_mul, Int.one_mul] at this
      omega
theorem lowf_num {s : Int} (h : 0 < s) : ∀ w : List Int, Signs s w → lowf s w.length (num s w.reverse) = w
  | [], _ => rfl
  | d :: w, hw => by
    obtain ⟨h1, h2⟩ := hw d List.mem_cons_self
    have e : num s (d :: w).reverse = num s w.reverse * s + d := by rw [List.reverse_cons, num_snoc]
    rw [e]
    have e1 : (num s w.reverse * s + d) % s = d := by rw [Int.add_comm, Int.add_mul_emod_self_right, Int.emod_eq_of_lt h1 h2]
    have e2 : (num s w.reverse * s + d) / s = num s w.reverse := by rw [Int.add_comm, Int.add_mul_ediv_right _ _ (by omega), Int.ediv_eq_zero_of_lt h1 h2, Int.zero_add]
    show (num s w.reverse * s + d) % s :: lowf s w.length ((num s w.reverse * s + d) / s) = _
    rw [e1, e2, lowf_num h w fun x hx => hw x (List.mem_cons_of_mem _ hx)]
theorem wordOf_num {s : Int} (h : 0 < s) (w : List Int) (hw : Signs s w) : wordOf s w.length (num s w) = w := by
  have := lowf_num h w.reverse fun d hd => hw d (List.mem_reverse.mp hd)
  rw [List.reverse_reverse, List.length_reverse] at this
  unfold wordOf
  rw [this, List.reverse_reverse]
/-- a rule -/
structure Rl (s f : Int) (w : Nat) (T : List Int) : Prop where
  s2 : 2 ≤ s
  s4 : s ≤ 4
  w1 : 1 ≤ w
  le : s ^ w ≤ 1024
  ln : s ^ w = (T.length : Int)
  ok : Signs s T
  f0 : -100 ≤ f
  f1 : f + w ≤ 101
theorem Rl.wt {s f : Int} {w : Nat} {T : List Int} (h : Rl s f w T) : Wt s w T := ⟨h.s2, h.s4, h.w1, h.le, h.ln⟩
/-- an item of a table -/
def itm (T : List Int) (n : Int) : Int := T.getD n.toNat 0
theorem itm_sign {s : Int} (h : 0 < s) {T : List Int} (hT : Signs s T) (n : Int) : 0 ≤ itm T n ∧ itm T n < s := by
  unfold itm
  rw [List.getD_eq_getElem?_getD]
  cases e : T[n.toNat]? with
  | none => exact ⟨Int.le_refl 0, h⟩
  | some v => exact hT v (List.mem_of_getElem? e)
/-- the signs that a rule makes of a word -/
def mids (s : Int) (w : Nat) (T : List Int) (k : Nat) (W : List Int) : List Int := (List.range k).map fun j => itm T (num s ((W.drop j).take w))
/-- the number of what a tick makes of the word with a number -/
def made (s : Int) (w : Nat) (T : List Int) : Nat → Int → Int
  | 0, n => itm T n
  | k + 1, n => made s w T k (n / s) * s + itm T (n % s ^ w)
/-- the composed table -/
def compT (s : Int) (w1 : Nat) (T1 : List Int) (w2 : Nat) (T2 : List Int) : List Int :=
  (List.range (s ^ (w1 + w2 - 1)).toNat).map fun (n : Nat) => itm T2 (num s (mids s w1 T1 w2 (wordOf s (w1 + w2 - 1) n)))
theorem itm_map {f : Nat → Int} {m : Nat} {n : Int} (h0 : 0 ≤ n) (h1 : n < m) : itm ((List.range m).map f) n = f n.toNat := by
  unfold itm
  rw [List.getD_eq_getElem?_getD, List.getElem?_map, List.getElem?_range (by omega)]
  rfl
/-- the ring behind a tick -/
def tick (s f : Int) (w : Nat) (T r : List Int) : List Int := (List.range r.length).map fun (c : Nat) => itm T (num s (win r ((c : Int) + f) w))
theorem tick_length (s f : Int) (w : Nat) (T r : List Int) : (tick s f w T r).length = r.length := by simp [tick]
theorem win_cut {r : List Int} {z : Int} {l j w : Nat} (h : j + w ≤ l) : ((win r z l).drop j).take w = win r (z + j) w := by
  refine List.ext_getElem? fun k => ?_
  unfold win
  by_cases hk : k < w
  · rw [List.getElem?_take_of_lt hk, List.getElem?_drop, List.getElem?_map, List.getElem?_map, List.getElem?_range (by omega), List.getElem?_range hk]
    show some (at_ r (z + ((j + k : Nat) : Int))) = some (at_ r (z + j + k))
    congr 2
    push_cast
    omega
  · rw [List.getElem?_eq_none (by rw [List.length_take]; omega), List.getElem?_eq_none (by rw [List.length_map, List.length_range]; omega)]
theorem tick_signs {s f : Int} (h : 0 < s) {w : Nat} {T r : List Int} (hT : Signs s T) : Signs s (tick s f w T r) := fun d hd => by
  obtain ⟨c, _, rfl⟩ := List.mem_map.mp hd
  exact itm_sign h hT _
/-- the mirrored table -/
def mirT (s : Int) (w : Nat) (T : List Int) : List Int := (List.range T.length).map fun (n : Nat) => itm T (num s (wordOf s w n).reverse)
end Cf
/-! weights that differ by what makes no difference (for the laws of plain weights) -/
namespace Cf
theorem num_div {s : Int} (h : 0 < s) {r : List Int} (hr : r ≠ []) (hs : Signs s r) (z : Int) (l : Nat) : num s (win r z (l + 1)) / s = num s (win r z l) := by
  obtain ⟨h1, h2⟩ := hs _ (at_mem hr (z + l))
  rw [win_succ, num_snoc, Int.add_comm, Int.add_mul_ediv_right _ _ (by omega), Int.ediv_eq_zero_of_lt h1 h2, Int.zero_add]
theorem num_mod {s : Int} (h : 0 < s) {r : List Int} (hr : r ≠ []) (hs : Signs s r) (z : Int) (l : Nat) : num s (win r z (l + 1)) % s ^ l = num s (win r (z + 1) l) := by
  rw [win_cons]
  have b := num_bound h (win r (z + 1) l) (win_signs hr hs)
  rw [win_length] at b
  rw [num_cons, win_length, Int.add_comm, Int.add_mul_emod_self_right]
  exact Int.emod_eq_of_lt b.1 b.2
/-- values shifted by a number for each word of one sign less -/
def shiftT (s : Int) (l : Nat) (vs : List Int) (g : Int → Int) : List Int := (List.range vs.length).map fun (n : Nat) => itm vs n + g ((n : Int) / s) - g ((n : Int) % s ^ l)
theorem sum_map_add (f g : Nat → Int) : ∀ l : List Nat, (l.map fun c => f c + g c).sum = (l.map f).sum + (l.map g).sum
  | [] => by simp
  | c :: l => by
    rw [List.map_cons, List.map_cons, List.map_cons, List.sum_cons, List.sum_cons, List.sum_cons, sum_map_add f g l]
    omega
theorem sum_map_sub (f g : Nat → Int) : ∀ l : List Nat, (l.map fun c => f c - g c).sum = (l.map f).sum - (l.map g).sum
  | [] => by simp
  | c :: l => by
    rw [List.map_cons, List.map_cons, List.map_cons, List.sum_cons, List.sum_cons, List.sum_cons, sum_map_sub f g l]
    omega
/-- no ring's sum changes -/
theorem ringSum_shift {s : Int} (h : 0 < s) {l : Nat} {vs r : List Int} (hl : s ^ (l + 1) = (vs.length : Int)) (g : Int → Int) (hr : r ≠ []) (hs : Signs s r) : ringSum s (l + 1) (shiftT s l vs g) r = ringSum s (l + 1) vs r := by
  rw [ringSum_val, ringSum_val]
  have per : ∀ z : Int, g (num s (win r (z + r.length) l)) = g (num s (win r z l)) := fun z => by
    rw [win_eq (y := z + r.length) (z := z) fun k => by rw [show z + (r.length : Int) + k = z + k + r.length by omega, at_round]]
  have e : ((List.range r.length).map fun (c : Nat) => val s (l + 1) (shiftT s l vs g) r c) = (List.range r.length).map fun (c : Nat) => (val s (l + 1) vs r c + g (num s (win r (c : Int) l))) - g (num s (win r ((c : Int) + (1 : Nat)) l)) := by
    refine List.map_congr_left fun c _ => ?_
    have b := num_bound h (win r (c : Int) (l + 1)) (win_signs hr hs)
    rw [win_length, hl] at b
    show itm (shiftT s l vs g) (num s (win r (c : Int) (l + 1))) = itm vs (num s (win r (c : Int) (l + 1))) + _ - _
    unfold shiftT
    rw [itm_map b.1 b.2]
    have w : ((num s (win r (c : Int) (l + 1))).toNat : Int) = num s (win r (c : Int) (l + 1)) := by omega
    rw [w, num_div h hr hs, num_mod h hr hs]
    rfl
  rw [e, sum_map_sub (fun c => val s (l + 1) vs r c + g (num s (win r (c : Int) l))) (fun c => g (num s (win r ((c : Int) + (1 : Nat)) l))), sum_map_add (fun c => val s (l + 1) vs r c) (fun c => g (num s (win r (c : Int) l)))]
  have t := sum_turn (g := fun z => g (num s (win r z l))) (n := r.length) per 1
  rw [t]
  omega
/-- the numbers by which the program and a check of one's own shift -/
def hts (s : Int) (vs : List Int) : Nat → Int → Int
  | 0, _ => 0
  | k + 1, n => itm vs n + hts s vs k (n / s)
theorem hts_zero (s : Int) (vs : List Int) : ∀ k : Nat, hts s vs k 0 = k * itm vs 0
  | 0 => by simp [hts]
  | k + 1 => by
    show itm vs 0 + hts s vs k (0 / s) = _
    rw [Int.zero_ediv, hts_zero s vs k]
    push_cast
    rw [Int.add_mul, Int.one_mul]
    omega
/-- a number beyond its word adds the value of the word of zeros -/
theorem hts_more {s : Int} (h : 0 < s) (vs : List Int) : ∀ (k j : Nat) (n : Int), 0 ≤ n → n < s ^ k → hts s vs (k + j) n = hts s vs k n + j * itm vs 0
  | 0, j, n, h0, h1 => by
    have : n = 0 := by
      rw [Int.pow_zero] at h1
      omega
    subst this
    rw [Nat.zero_add, hts_zero]
    show _ = 0 + _
    omega
  | k + 1, j, n, h0, h1 => by
    rw [show k + 1 + j = (k + j) + 1 by omega]
    show itm vs n + hts s vs (k + j) (n / s) = itm vs n + hts s vs k (n / s) + _
    rw [hts_more h vs k j (n / s) (Int.ediv_nonneg h0 (by omega)) (Int.ediv_lt_of_lt_mul h (by rw [← Int.pow_succ]; exact h1))]
    omega
end Cf
namespace Cf
open PySem PySem.Spec PyProof.Rows L2
open Evl (Ex)
local macro_rules | `(tactic| walk_at "d") => `(tactic| first
  | (with_reducible refine DS_seq ?_)
  | (with_reducible refine DS_if ?_)
  | (with_reducible refine DS_ret ?_)
  | (with_reducible refine DS_next ?_)
  | (with_reducible refine DS_retN ?_)
  | (with_reducible refine DS_set ?_)
  | (with_reducible refine DS_drop ?_)
  | (with_reducible refine DS_unpack ?_)
  | (with_reducible refine DS_par ?_)
  | (with_reducible refine DE_int ?_)
  | (with_reducible refine DE_bl ?_)
  | (with_reducible refine DE_non ?_)
  | (with_reducible refine DE_str ?_)
  | (with_reducible refine DE_isi ?_)
  | (with_reducible refine DE_and ?_)
  | (with_reducible refine DE_or ?_)
  | (with_reducible refine DE_not ?_)
  | (with_reducible refine DE_if ?_)
  | (with_reducible refine DE_chain ?_)
  | (with_reducible refine DE_tyIs ?_)
  | (with_reducible refine DE_tyNot ?_)
  | (with_reducible refine DE_call ?_)
  | (with_reducible refine DE_cb ?_)
  | (with_reducible refine DE_op ?_)
  | (with_reducible refine DE_un ?_)
  | (with_reducible refine DE_tup ?_)
  | (with_reducible refine DT_test ?_)
  | (with_reducible refine DT_B ?_)
  | (with_reducible refine DT_and ?_)
  | (with_reducible refine DT_or ?_)
  | (with_reducible refine DT_not ?_)
  | (with_reducible refine DT_yes ?_)
  | (with_reducible refine DA_nil ?_)
  | (with_reducible refine DA_cons ?_)
  | (with_reducible refine DO_no ?_)
  | (with_reducible refine DO_at ?_)
  | (with_reducible refine DR_minus ?_)
  | (with_reducible refine DR_mod ?_)
  | (with_reducible refine DR_div ?_)
  | (with_reducible refine DR_pow ?_)
  | (with_reducible refine DR_lt ?_)
  | (with_reducible refine DR_le ?_)
  | (with_reducible refine DR_gt ?_)
  | (with_reducible refine DR_ge ?_)
  | (with_reducible refine DR_eq ?_)
  | (with_reducible refine DR_ne ?_)
  | (with_reducible refine DR_isN ?_)
  | (with_reducible refine DR_notN ?_)
  | (with_reducible refine DU_neg ?_)
  | (with_reducible refine DC_len ?_)
  | (with_reducible refine DC_int ?_)
  | (with_reducible refine DC_abs ?_)
  | (with_reducible refine DC_max2 ?_)
  | (with_reducible refine DC_min2 ?_)
  | (with_reducible refine DC_sum ?_)
  | (with_reducible refine DC_all ?_)
  | (with_reducible refine DC_any ?_)
  | (with_reducible refine DC_repr ?_)
  | (with_reducible refine ⟨_, kb_int _, ?_⟩)
  | (with_reducible refine ⟨_, kb_bool _, ?_⟩)
  | (with_reducible refine ⟨_, kb_list _, ?_⟩)
  | (with_reducible refine ⟨_, kb_tuple _, ?_⟩)
  | (with_reducible refine ⟨_, rfl, ?_⟩)
  | (with_reducible refine ⟨_, _, rfl, rfl, ?_⟩)
  | (with_reducible refine DE_callN ?_)
  | (with_reducible refine DR_notB ?_)
  | (with_reducible refine DE_emp ?_)
  | (with_reducible refine DE_new (DL_lst ?_))
  | (with_reducible refine DE_new (DL_sl ?_))
  | (with_reducible refine DE_slT ?_)
  | (with_reducible refine DC_list ?_)
  | ((with_reducible refine' DE_callT ?k1 ?_); (case k1 => exact rfl))
  | ((with_reducible refine' DE_var ?k1 ?_); (case k1 => exact rfl))
  | ((with_reducible refine' DE_varO ?k1 ?_); (case k1 => exact rfl))
  | ((with_reducible refine' DE_varN ?k1 ?_); (case k1 => exact rfl)))


def W_word_at (ds : List PyData) (R : PyData → Prop) : Prop := ∃ (s : Int) (l : Nat) (n : Int), ds = [.int s, .int l, .int n] ∧ 2 ≤ s ∧ s ≤ 4 ∧ l ≤ 1000 ∧ R (LI (wordOf s l n))
def t_word_at (K : PySem.W.Frag) : TS :=
  (tSeq (tAsg (tLst tNil) (gName 3))
    (tSeq (tFor (iRg1 (tCons (tVar 1) tNil)) (gName 4)
    (tSeq (tDrop (tBM K "list" rAppend (tVar 3) (tCons (tOp rModI (tVar 2) (tVar 0)) tNil)))
    (tAsg (tOp rDivI (tVar 2) (tVar 0)) (gName 2))))
    (tRet (tRevL K (tVar 3)))))
def W__law_word (ds : List PyData) (R : PyData → Prop) : Prop := ∃ (s n : Int) (l : Nat), ds = [.int s, .int n, .int l] ∧ 2 ≤ s ∧ s ≤ 4 ∧ l ≤ 1000 ∧ R (LI (wordOf s l n))
def t__law_word (K : PySem.W.Frag) : TS :=
  (tSeq (tAsg (tLst tNil) (gName 3))
    (tSeq (tFor (iRg1 (tCons (tVar 2) tNil)) (gName 4)
    (tSeq (tDrop (tBM K "list" rAppend (tVar 3) (tCons (tOp rModI (tCB rIntA (tCons (tVar 1) tNil)) (tVar 0)) tNil)))
    (tAsg (tOp rDivI (tVar 1) (tVar 0)) (gName 1))))
    (tRet (tRevL K (tVar 3)))))
theorem ds__law_word : Keeps W__law_word 5 t__law_word := by
  intro K ds R h
  obtain ⟨s, n, l, rfl, s2, s4, hl, q⟩ := h
  refine ⟨by simp, ?_⟩
  show DS K _ (t__law_word K) [.sh (.int s), .sh (.int n), .sh (.int l), .no, .no] _ _ _ _
  unfold t__law_word
  refine DS_seq (DS_setOw (DL_lst (DA_nil ⟨by decide, ?_⟩)))
  refine DS_seq (DS_forR1 ?_)
  repeat walk_at "d"
  refine ⟨fun k ρ => ∃ (acc : List Int) (m : Int) (z : Sl), acc.length = k ∧ acc ++ lowf s (l - k) m = lowf s l n ∧ ρ = [.sh (.int s), .sh (.int m), .sh (.int l), .ow (acc.map .int), z], ⟨[], n, .no, rfl, rfl, rfl⟩, fun k ρ hk hI => ?_, fun ρ hI => ?_⟩
  · obtain ⟨acc, m, z, la, ha, rfl⟩ := hI
    have hk : k < l := by simpa using hk
    refine DS_seq (DS_append (by rfl) (by rw [List.length_map]; omega) ?_)
    repeat walk_at "d"
    refine .inl ⟨_, rfl, ?_⟩
    repeat walk_at "d"
    refine ⟨by omega, ?_⟩
    repeat walk_at "d"
    refine ⟨wide_div (b := 8) (by omega) (by omega) (by decide) (by decide), acc ++ [m % s], m / s, .sh (.int (0 + (k : Int))), by rw [List.length_append, la]; rfl, ?_, ?_⟩
    · rw [← ha, List.append_assoc]
      congr 1
      rw [show l - k = (l - (k + 1)) + 1 by omega]
      rfl
    · rw [List.map_append]
      rfl
  · obtain ⟨acc, m, z, la, ha, rfl⟩ := hI
    have ha : acc ++ lowf s (l - l) m = lowf s l n := ha
    rw [Nat.sub_self, show lowf s 0 m = [] from rfl, List.append_nil] at ha
    refine DS_ret (DE_new (DL_revOw (by rfl) ?_))
    rw [← List.map_reverse, ha]
    exact q

def W_is_reached (ds : List PyData) (R : PyData → Prop) : Prop := ∃ f w : Int, ds = [.int f, .int w] ∧ R (.bool (decide (-100 ≤ f) && decide (f + w ≤ 101)))
def t_is_reached (K : PySem.W.Frag) : TS :=
  (tRet (tAndV (tOp rGeI (tVar 0) (tUn rNegI (tC (.int 100)))) (tOp rLeI (tOp (rPlus K) (tVar 0) (tVar 1)) (tOp (rPlus K) (tC (.int 100)) (tC (.int 1))))))
def isRule : PyData → Bool
  | .tuple [.int s, .int f, .int w, .list T] => decide (2 ≤ s ∧ s ≤ 4) && decide (1 ≤ w) && (decide (-100 ≤ f) && decide (f + w ≤ 101)) && isWord s (.list T) && decide (cw s w 1024 = some (T.length : Int))
  | _ => false
def shortR : PyData → Bool
  | .tuple [a, b, c, d] => shortD d
  | .list ds => decide (ds.length < 100000)
  | .tuple ds => decide (ds.length < 100000)
  | .str z => decide (z.length < 100000)
  | _ => true
def W_is_rule (ds : List PyData) (R : PyData → Prop) : Prop := ∃ (x : PyData), ds = [x] ∧ shortR x = true ∧ R (.bool (isRule x))
def t_is_rule (K : PySem.W.Frag) : TS :=
  (tSeq (tIfS (tOr (tTest (tOp rNT (tCB (rTyp K) (tCons (tVar 0) tNil)) (tC (.ty "tuple")))) (tTest (tOp (rNeU K) (tCB (rLenA K) (tCons (tVar 0) tNil)) (tC (.int 4)))))
    (tRet (tC (.bl false)))
    tNext)
    (tSeq (tAsg (tVar 0) (gTup K 4 (gNames [1, 2, 3, 4])))
    (tSeq (tIfS (tOr (tNot (tB (tCall (spP K W_is_sign_count) [] E0 (tCons (tVar 1) tNil)))) (tOr (tNot (tB (tCall (spP K W_is_integer) [] E0 (tCons (tVar 2) tNil)))) (tNot (tB (tCall (spP K W_is_integer) [] E0 (tCons (tVar 3) tNil))))))
    (tRet (tC (.bl false)))
    tNext)
    (tSeq (tIfS (tOr (tTest (tOp rLtI (tVar 3) (tC (.int 1)))) (tOr (tNot (tB (tCall (spP K W_is_reached) [] E0 (tCons (tVar 2) (tCons (tVar 3) tNil))))) (tNot (tB (tCall (spP K W_is_word) [] E0 (tCons (tVar 1) (tCons (tVar 4) tNil)))))))
    (tRet (tC (.bl false)))
    tNext)
    (tRet (tOp (rEqU K) (tCB (rLenA K) (tCons (tVar 4) tNil)) (tCall (spP K W_count_words) [] E0 (tCons (tVar 1) (tCons (tVar 3) (tCons (tC (.int 1024)) tNil))))))))))
abbrev rlD (s f : Int) (w : Nat) (T : List Int) : PyData := .tuple [.int s, .int f, .int w, LI T]
def W_check_rule (ds : List PyData) (R : PyData → Prop) : Prop := ∃ (x : PyData), ds = [x] ∧ shortR x = true ∧ isRule x = true ∧ R .none
def t_check_rule (K : PySem.W.Frag) : TS :=
  (tIfS (tNot (tB (tCall (spP K W_is_rule) [] E0 (tCons (tVar 0) tNil))))
    tNever
    tNext)
def W_check_like_signs (ds : List PyData) (R : PyData → Prop) : Prop := ∃ (s : Int) (as bs : List PyData), ds = [.tuple (.int s :: as), .tuple (.int s :: bs)] ∧ R .none
def t_check_like_signs (K : PySem.W.Frag) : TS :=
  (tIfS (tTest (tOp (rNeU K) (tOp (rIx K) (tVar 0) (tC (.int 0))) (tOp (rIx K) (tVar 1) (tC (.int 0)))))
    tNever
    tNext)
theorem ds_check_like_signs : Keeps W_check_like_signs 2 t_check_like_signs := by
  intro K ds R h
  obtain ⟨s, as, bs, rfl, q⟩ := h
  refine ⟨by simp, ?_⟩
  show DS K _ (t_check_like_signs K) [.sh (.tuple (.int s :: as)), .sh (.tuple (.int s :: bs))] _ _ _ _
  unfold t_check_like_signs
  repeat walk_at "d"
  refine DR_ix (.inr ⟨_, 0, _, rfl, rfl, atI_nat (j := 0) rfl, ?_⟩)
  repeat walk_at "d"
  refine DR_ix (.inr ⟨_, 0, _, rfl, rfl, atI_nat (j := 0) rfl, ?_⟩)
  repeat walk_at "d"
  refine ⟨shp_int _, shp_int _, _, rfl, ?_⟩
  have e : PyData.eqv (.int s) (.int s) = true := by
    show (s == s) = true
    simp
  rw [e]
  refine iteF ?_
  repeat walk_at "d"
  exact q

def W_made_numbers (ds : List PyData) (R : PyData → Prop) : Prop := ∃ (s f : Int) (w : Nat) (T : List Int) (k : Nat), ds = [rlD s f w T, .int ((k : Int) + 1)] ∧ Rl s f w T ∧ s ^ (w + k) ≤ 1024 ∧
  R (LI ((List.range (s ^ (w + k)).toNat).map fun (n : Nat) => made s w T k n))
def t_made_numbers (K : PySem.W.Frag) : TS :=
  (tSeq (tAsg (tVar 0) (gTup K 4 (gNames [2, 3, 3, 4])))
    (tSeq (tAsg (tCB (rListA K) (tCons (tVar 4) tNil)) (gName 5))
    (tSeq (tFor (iRg1 (tCons (tOp rMinus (tVar 1) (tC (.int 1))) tNil)) (gName 3)
    (tSeq (tAsg (tOp rTimes (tCB (rLenA K) (tCons (tVar 5) tNil)) (tVar 2)) (gName 6))
    (tAsg (tLc (iRg1 (tCons (tVar 6) tNil)) (gName 7) tYes (tOp (rPlus K) (tOp rTimes (tOp (rIx K) (tVar 5) (tOp rDivI (tVar 7) (tVar 2))) (tVar 2)) (tOp (rIx K) (tVar 4) (tOp rModI (tVar 7) (tCB (rLenA K) (tCons (tVar 4) tNil))))) [7]) (gName 5))))
    (tRet (tVar 5)))))
end Cf
namespace Cf
open PySem PySem.Spec PyProof.Rows L2
open Evl (Ex)
local macro_rules | `(tactic| walk_at "d") => `(tactic| first
  | (with_reducible refine DS_seq ?_)
  | (with_reducible refine DS_if ?_)
  | (with_reducible refine DS_ret ?_)
  | (with_reducible refine DS_next ?_)
  | (with_reducible refine DS_retN ?_)
  | (with_reducible refine DS_set ?_)
  | (with_reducible refine DS_drop ?_)
  | (with_reducible refine DS_unpack ?_)
  | (with_reducible refine DS_par ?_)
  | (with_reducible refine DE_int ?_)
  | (with_reducible refine DE_bl ?_)
  | (with_reducible refine DE_non ?_)
  | (with_reducible refine DE_str ?_)
  | (with_reducible refine DE_isi ?_)
  | (with_reducible refine DE_and ?_)
  | (with_reducible refine DE_or ?_)
  | (with_reducible refine DE_not ?_)
  | (with_reducible refine DE_if ?_)
  | (with_reducible refine DE_chain ?_)
  | (with_reducible refine DE_tyIs ?_)
  | (with_reducible refine DE_tyNot ?_)
  | (with_reducible refine DE_call ?_)
  | (with_reducible refine DE_cb ?_)
  | (with_reducible refine DE_op ?_)
  | (with_reducible refine DE_un ?_)
  | (with_reducible refine DE_tup ?_)
  | (with_reducible refine DT_test ?_)
  | (with_reducible refine DT_B ?_)
  | (with_reducible refine DT_and ?_)
  | (with_reducible refine DT_or ?_)
  | (with_reducible refine DT_not ?_)
  | (with_reducible refine DT_yes ?_)
  | (with_reducible refine DA_nil ?_)
  | (with_reducible refine DA_cons ?_)
  | (with_reducible refine DO_no ?_)
  | (with_reducible refine DO_at ?_)
  | (with_reducible refine DR_minus ?_)
  | (with_reducible refine DR_mod ?_)
  | (with_reducible refine DR_div ?_)
  | (with_reducible refine DR_pow ?_)
  | (with_reducible refine DR_lt ?_)
  | (with_reducible refine DR_le ?_)
  | (with_reducible refine DR_gt ?_)
  | (with_reducible refine DR_ge ?_)
  | (with_reducible refine DR_eq ?_)
  | (with_reducible refine DR_ne ?_)
  | (with_reducible refine DR_isN ?_)
  | (with_reducible refine DR_notN ?_)
  | (with_reducible refine DU_neg ?_)
  | (with_reducible refine DC_len ?_)
  | (with_reducible refine DC_int ?_)
  | (with_reducible refine DC_abs ?_)
  | (with_reducible refine DC_max2 ?_)
  | (with_reducible refine DC_min2 ?_)
  | (with_reducible refine DC_sum ?_)
  | (with_reducible refine DC_all ?_)
  | (with_reducible refine DC_any ?_)
  | (with_reducible refine DC_repr ?_)
  | (with_reducible refine ⟨_, kb_int _, ?_⟩)
  | (with_reducible refine ⟨_, kb_bool _, ?_⟩)
  | (with_reducible refine ⟨_, kb_list _, ?_⟩)
  | (with_reducible refine ⟨_, kb_tuple _, ?_⟩)
  | (with_reducible refine ⟨_, rfl, ?_⟩)
  | (with_reducible refine ⟨_, _, rfl, rfl, ?_⟩)
  | (with_reducible refine DE_callN ?_)
  | (with_reducible refine DR_notB ?_)
  | (with_reducible refine DE_emp ?_)
  | (with_reducible refine DE_new (DL_lst ?_))
  | (with_reducible refine DE_new (DL_sl ?_))
  | (with_reducible refine DE_slT ?_)
  | (with_reducible refine DC_list ?_)
  | ((with_reducible refine' DE_callT ?k1 ?_); (case k1 => exact rfl))
  | ((with_reducible refine' DE_var ?k1 ?_); (case k1 => exact rfl))
  | ((with_reducible refine' DE_varO ?k1 ?_); (case k1 => exact rfl))
  | ((with_reducible refine' DE_varN ?k1 ?_); (case k1 => exact rfl)))


abbrev KeepsN (W : List PyData → (PyData → Prop) → Prop) (n : Nat) (tb : PySem.W.Frag → TS) : Prop :=
  ∀ (K : PySem.W.Frag) (ds : List PyData) (R : PyData → Prop), W ds R → ds.length ≤ n ∧ DSN K (tb K) (ds.map Sl.sh ++ List.replicate (n - ds.length) Sl.no) R

def itD (T : List Int) : PyData → PyData | .int n => .int (itm T n) | _ => .none
def W_composed (ds : List PyData) (R : PyData → Prop) : Prop := ∃ (s f1 : Int) (w1 : Nat) (T1 : List Int) (f2 : Int) (w2 : Nat) (T2 : List Int), ds = [rlD s f1 w1 T1, rlD s f2 w2 T2] ∧ Rl s f1 w1 T1 ∧ Rl s f2 w2 T2 ∧ s ^ (w1 + w2 - 1) ≤ 1024 ∧
  -100 ≤ f1 + f2 ∧ f1 + f2 + ((w1 + w2 - 1 : Nat) : Int) ≤ 101 ∧ R (rlD s (f1 + f2) (w1 + w2 - 1) (compT s w1 T1 w2 T2))
def t_composed (K : PySem.W.Frag) : TS :=
  (tSeq (tDrop (tCall (spP K W_check_rule) [] E0 (tCons (tVar 0) tNil)))
    (tSeq (tDrop (tCall (spP K W_check_rule) [] E0 (tCons (tVar 1) tNil)))
    (tSeq (tDrop (tCall (spP K W_check_like_signs) [] E0 (tCons (tVar 0) (tCons (tVar 1) tNil))))
    (tSeq (tAsg (tOp (rPlus K) (tOp (rIx K) (tVar 0) (tC (.int 1))) (tOp (rIx K) (tVar 1) (tC (.int 1)))) (gName 2))
    (tSeq (tAsg (tOp rMinus (tOp (rPlus K) (tOp (rIx K) (tVar 0) (tC (.int 2))) (tOp (rIx K) (tVar 1) (tC (.int 2)))) (tC (.int 1))) (gName 3))
    (tSeq (tIfS (tTest (tOp rIsNone (tCall (spP K W_count_words) [] E0 (tCons (tOp (rIx K) (tVar 0) (tC (.int 0))) (tCons (tVar 3) (tCons (tC (.int 1024)) tNil)))) (tC .non)))
    tNever
    tNext)
    (tSeq (tIfS (tNot (tB (tCall (spP K W_is_reached) [] E0 (tCons (tVar 2) (tCons (tVar 3) tNil)))))
    tNever
    tNext)
    (tSeq (tAsg (tLc (iList K (tCall (spP K W_made_numbers) [] E0 (tCons (tVar 0) (tCons (tOp (rIx K) (tVar 1) (tC (.int 2))) tNil)))) (gName 5) tYes (tOp (rIx K) (tOp (rIx K) (tVar 1) (tC (.int 3))) (tVar 5)) [5]) (gName 4))
    (tRet (tTup (tCons (tOp (rIx K) (tVar 0) (tC (.int 0))) (tCons (tVar 2) (tCons (tVar 3) (tCons (tVar 4) tNil))))))))))))))
def W_mirrored (ds : List PyData) (R : PyData → Prop) : Prop := ∃ (s f : Int) (w : Nat) (T : List Int), ds = [rlD s f w T] ∧ Rl s f w T ∧ R (rlD s (1 - f - w) w (mirT s w T))
def t_mirrored (K : PySem.W.Frag) : TS :=
  (tSeq (tDrop (tCall (spP K W_check_rule) [] E0 (tCons (tVar 0) tNil)))
    (tSeq (tAsg (tVar 0) (gTup K 4 (gNames [1, 2, 3, 4])))
    (tSeq (tAsg (tLc (iRg1 (tCons (tCB (rLenA K) (tCons (tVar 4) tNil)) tNil)) (gName 6) tYes (tCall (spP K W_word_at) [] E0 (tCons (tVar 1) (tCons (tVar 3) (tCons (tVar 6) tNil)))) [6]) (gName 5))
    (tSeq (tAsg (tLc (iList K (tVar 5)) (gName 8) tYes (tOp (rIx K) (tVar 4) (tCall (spP K W_number_of) [] E0 (tCons (tVar 1) (tCons (tRevL K (tVar 8)) tNil)))) [8]) (gName 7))
    (tRet (tTup (tCons (tVar 1) (tCons (tOp rMinus (tOp rMinus (tC (.int 1)) (tVar 2)) (tVar 3)) (tCons (tVar 3) (tCons (tVar 7) tNil))))))))))
end Cf
namespace Cf
open PySem PySem.Spec PyProof.Rows L2
open Evl (Ex)
local macro_rules | `(tactic| walk_at "d") => `(tactic| first
  | (with_reducible refine DS_seq ?_)
  | (with_reducible refine DS_if ?_)
  | (with_reducible refine DS_ret ?_)
  | (with_reducible refine DS_next ?_)
  | (with_reducible refine DS_retN ?_)
  | (with_reducible refine DS_set ?_)
  | (with_reducible refine DS_drop ?_)
  | (with_reducible refine DS_unpack ?_)
  | (with_reducible refine DS_par ?_)
  | (with_reducible refine DE_int ?_)
  | (with_reducible refine DE_bl ?_)
  | (with_reducible refine DE_non ?_)
  | (with_reducible refine DE_str ?_)
  | (with_reducible refine DE_isi ?_)
  | (with_reducible refine DE_and ?_)
  | (with_reducible refine DE_or ?_)
  | (with_reducible refine DE_not ?_)
  | (with_reducible refine DE_if ?_)
  | (with_reducible refine DE_chain ?_)
  | (with_reducible refine DE_tyIs ?_)
  | (with_reducible refine DE_tyNot ?_)
  | (with_reducible refine DE_call ?_)
  | (with_reducible refine DE_cb ?_)
  | (with_reducible refine DE_op ?_)
  | (with_reducible refine DE_un ?_)
  | (with_reducible refine DE_tup ?_)
  | (with_reducible refine DT_test ?_)
  | (with_reducible refine DT_B ?_)
  | (with_reducible refine DT_and ?_)
  | (with_reducible refine DT_or ?_)
  | (with_reducible refine DT_not ?_)
  | (with_reducible refine DT_yes ?_)
  | (with_reducible refine DA_nil ?_)
  | (with_reducible refine DA_cons ?_)
  | (with_reducible refine DO_no ?_)
  | (with_reducible refine DO_at ?_)
  | (with_reducible refine DR_minus ?_)
  | (with_reducible refine DR_mod ?_)
  | (with_reducible refine DR_div ?_)
  | (with_reducible refine DR_pow ?_)
  | (with_reducible refine DR_lt ?_)
  | (with_reducible refine DR_le ?_)
  | (with_reducible refine DR_gt ?_)
  | (with_reducible refine DR_ge ?_)
  | (with_reducible refine DR_eq ?_)
  | (with_reducible refine DR_ne ?_)
  | (with_reducible refine DR_isN ?_)
  | (with_reducible refine DR_notN ?_)
  | (with_reducible refine DU_neg ?_)
  | (with_reducible refine DC_len ?_)
  | (with_reducible refine DC_int ?_)
  | (with_reducible refine DC_abs ?_)
  | (with_reducible refine DC_max2 ?_)
  | (with_reducible refine DC_min2 ?_)
  | (with_reducible refine DC_sum ?_)
  | (with_reducible refine DC_all ?_)
  | (with_reducible refine DC_any ?_)
  | (with_reducible refine DC_repr ?_)
  | (with_reducible refine ⟨_, kb_int _, ?_⟩)
  | (with_reducible refine ⟨_, kb_bool _, ?_⟩)
  | (with_reducible refine ⟨_, kb_list _, ?_⟩)
  | (with_reducible refine ⟨_, kb_tuple _, ?_⟩)
  | (with_reducible refine ⟨_, rfl, ?_⟩)
  | (with_reducible refine ⟨_, _, rfl, rfl, ?_⟩)
  | (with_reducible refine DE_callN ?_)
  | (with_reducible refine DR_notB ?_)
  | (with_reducible refine DE_emp ?_)
  | (with_reducible refine DE_new (DL_lst ?_))
  | (with_reducible refine DE_new (DL_sl ?_))
  | (with_reducible refine DE_slT ?_)
  | (with_reducible refine DC_list ?_)
  | ((with_reducible refine' DE_callT ?k1 ?_); (case k1 => exact rfl))
  | ((with_reducible refine' DE_var ?k1 ?_); (case k1 => exact rfl))
  | ((with_reducible refine' DE_varO ?k1 ?_); (case k1 => exact rfl))
  | ((with_reducible refine' DE_varN ?k1 ?_); (case k1 => exact rfl)))


def W__law_rule (ds : List PyData) (R : PyData → Prop) : Prop := ∃ words : Int, ds = [.int words] ∧ 4 ≤ words ∧ words ≤ 1024 ∧ ∀ (s f : Int) (w : Nat) (T : List Int), Rl s f w T → s ^ w ≤ words → R (rlD s f w T)
def t__law_rule (K : PySem.W.Frag) : TS :=
  (tSeq (tAsg (tOp (rPlus K) (tC (.int 2)) (tCall (spT K W__law_draw) [] E0 (tCons (tVar 0) (tCons (tC (.int 3)) tNil)))) (gName 2))
    (tSeq (tAsg (tIf (tTest (tOp rLeI (tVar 2) (tVar 1))) (tVar 2) (tC (.int 2))) (gName 2))
    (tSeq (tAsg (tTup (tCons (tOp (rPlus K) (tC (.int 1)) (tCall (spT K W__law_draw) [] E0 (tCons (tVar 0) (tCons (tCall (spP K W__law_widest) [] E0 (tCons (tVar 2) (tCons (tVar 1) tNil))) tNil)))) (tCons (tCall (spT K W__law_draw) [] E0 (tCons (tVar 0) (tCons (tC (.int 5)) tNil))) tNil))) (gTup K 2 (gNames [3, 4])))
    (tSeq (tAsg (tOp (rIx K) (tLst (tCons (tOp rMinus (tCall (spT K W__law_draw) [] E0 (tCons (tVar 0) (tCons (tC (.int 5)) tNil))) (tC (.int 3))) (tCons (tOp rMinus (tCall (spT K W__law_draw) [] E0 (tCons (tVar 0) (tCons (tC (.int 5)) tNil))) (tC (.int 3))) (tCons (tC (.int 0)) (tCons (tUn rNegI (tC (.int 100))) (tCons (tOp rMinus (tC (.int 101)) (tVar 3)) tNil)))))) (tCall (spT K W__law_draw) [] E0 (tCons (tVar 0) (tCons (tC (.int 5)) tNil)))) (gName 5))
    (tSeq (tIfS (tTest (tOp (rEqU K) (tVar 4) (tC (.int 0))))
    (tSeq (tAsg (tTup (tCons (tCall (spT K W__law_draw) [] E0 (tCons (tVar 0) (tCons (tVar 3) tNil))) (tCons (tLc (iRg1 (tCons (tVar 2) tNil)) (gName 8) tYes (tCall (spT K W__law_draw) [] E0 (tCons (tVar 0) (tCons (tVar 2) tNil))) [8]) tNil))) (gTup K 2 (gNames [6, 7])))
    (tAsg (tLc (iRg1 (tCons (tCall (spP K W__law_many) [] E0 (tCons (tVar 2) (tCons (tVar 3) tNil))) tNil)) (gName 10) tYes (tOp (rIx K) (tVar 7) (tOp (rIx K) (tCall (spP K W__law_word) [] E0 (tCons (tVar 2) (tCons (tVar 10) (tCons (tVar 3) tNil)))) (tVar 6))) [10]) (gName 9)))
    (tIfS (tTest (tOp (rEqU K) (tVar 4) (tC (.int 1))))
    (tAsg (tLc (iRg1 (tCons (tCall (spP K W__law_many) [] E0 (tCons (tVar 2) (tCons (tVar 3) tNil))) tNil)) (gName 10) tYes (tIf (tTest (tOp (rEqU K) (tCall (spT K W__law_draw) [] E0 (tCons (tVar 0) (tCons (tC (.int 3)) tNil))) (tC (.int 0)))) (tCall (spT K W__law_draw) [] E0 (tCons (tVar 0) (tCons (tVar 2) tNil))) (tC (.int 0))) [10]) (gName 9))
    (tIfS (tAnd (tTest (tOp (rEqU K) (tVar 4) (tC (.int 2)))) (tTest (tOp (rEqU K) (tCall (spT K W__law_draw) [] E0 (tCons (tVar 0) (tCons (tC (.int 4)) tNil))) (tC (.int 0)))))
    (tAsg (tOp rTimes (tLst (tCons (tCall (spT K W__law_draw) [] E0 (tCons (tVar 0) (tCons (tVar 2) tNil))) tNil)) (tCall (spP K W__law_many) [] E0 (tCons (tVar 2) (tCons (tVar 3) tNil)))) (gName 9))
    (tAsg (tLc (iRg1 (tCons (tCall (spP K W__law_many) [] E0 (tCons (tVar 2) (tCons (tVar 3) tNil))) tNil)) (gName 10) tYes (tCall (spT K W__law_draw) [] E0 (tCons (tVar 0) (tCons (tVar 2) tNil))) [10]) (gName 9)))))
    (tRet (tTup (tCons (tVar 2) (tCons (tVar 5) (tCons (tVar 3) (tCons (tVar 9) tNil)))))))))))
def W__law_copied (ds : List PyData) (R : PyData → Prop) : Prop := ∃ (a b c : PyData) (vs : List PyData), ds = [.tuple [a, b, c, .list vs]] ∧ R (.tuple [a, b, c, .list vs])
def t__law_copied (K : PySem.W.Frag) : TS :=
  (tRet (tTup (tCons (tOp (rIx K) (tVar 0) (tC (.int 0))) (tCons (tOp (rIx K) (tVar 0) (tC (.int 1))) (tCons (tOp (rIx K) (tVar 0) (tC (.int 2))) (tCons (tCB (rListA K) (tCons (tOp (rIx K) (tVar 0) (tC (.int 3))) tNil)) tNil))))))
def W__law_ticked (ds : List PyData) (R : PyData → Prop) : Prop := ∃ (s f : Int) (w : Nat) (T r : List Int), ds = [rlD s f w T, LI r] ∧ Rl s f w T ∧ r ≠ [] ∧ r.length ≤ 5000 ∧ Signs s r ∧ R (LI (tick s f w T r))
def t__law_ticked (K : PySem.W.Frag) : TS :=
  (tSeq (tAsg (tVar 0) (gTup K 4 (gNames [2, 3, 4, 5])))
    (tRet (tLc (iRg1 (tCons (tCB (rLenA K) (tCons (tVar 1) tNil)) tNil)) (gName 6) tYes (tOp (rIx K) (tVar 5) (tCall (spP K W__law_number) [] E0 (tCons (tVar 2) (tCons (tVar 1) (tCons (tOp (rPlus K) (tVar 6) (tVar 3)) (tCons (tVar 4) tNil)))))) [6])))
theorem win_self {W : List Int} (h : W ≠ []) : win W 0 W.length = W := by
  refine List.ext_getElem? fun k => ?_
  unfold win
  by_cases hk : k < W.length
  · rw [List.getElem?_map, List.getElem?_range hk]
    show some (at_ W (0 + (k : Int))) = _
    have := at_get h (0 + (k : Int))
    rw [← this]
    congr 1
    rw [Int.zero_add, Int.emod_eq_of_lt (by omega) (by omega)]
    rfl
  · rw [List.getElem?_eq_none (by rw [List.length_map, List.length_range]; omega), List.getElem?_eq_none (by omega)]
def W__law_item (ds : List PyData) (R : PyData → Prop) : Prop := ∃ (s f : Int) (w : Nat) (T W : List Int), ds = [rlD s f w T, LI W] ∧ Rl s f w T ∧ W.length = w ∧ Signs s W ∧ R (.int (itm T (num s W)))
def t__law_item (K : PySem.W.Frag) : TS :=
  (tRet (tOp (rIx K) (tOp (rIx K) (tVar 0) (tC (.int 3))) (tCall (spP K W__law_number) [] E0 (tCons (tOp (rIx K) (tVar 0) (tC (.int 0))) (tCons (tVar 1) (tCons (tC (.int 0)) (tCons (tCB (rLenA K) (tCons (tVar 1) tNil)) tNil)))))))
def W__law_composed (ds : List PyData) (R : PyData → Prop) : Prop := ∃ (s f1 : Int) (w1 : Nat) (T1 : List Int) (f2 : Int) (w2 : Nat) (T2 : List Int), ds = [rlD s f1 w1 T1, rlD s f2 w2 T2] ∧ Rl s f1 w1 T1 ∧ Rl s f2 w2 T2 ∧ s ^ (w1 + w2 - 1) ≤ 1024 ∧ R (rlD s (f1 + f2) (w1 + w2 - 1) (compT s w1 T1 w2 T2))
def t__law_composed (K : PySem.W.Frag) : TS :=
  (tSeq (tPar 2 3 (tCons (tOp (rIx K) (tVar 0) (tC (.int 0))) (tCons (tOp rMinus (tOp (rPlus K) (tOp (rIx K) (tVar 0) (tC (.int 2))) (tOp (rIx K) (tVar 1) (tC (.int 2)))) (tC (.int 1))) tNil)))
    (tSeq (tAsg (tLst tNil) (gName 4))
    (tSeq (tFor (iRg1 (tCons (tCall (spP K W__law_many) [] E0 (tCons (tVar 2) (tCons (tVar 3) tNil))) tNil)) (gName 5)
    (tSeq (tAsg (tCall (spP K W__law_word) [] E0 (tCons (tVar 2) (tCons (tVar 5) (tCons (tVar 3) tNil)))) (gName 6))
    (tSeq (tAsg (tLc (iRg1 (tCons (tOp (rIx K) (tVar 1) (tC (.int 2))) tNil)) (gName 8) tYes (tCall (spP K W__law_item) [] E0 (tCons (tVar 0) (tCons (tSl (rSlL K) (tVar 6) (tPart (tVar 8)) (tPart (tOp (rPlus K) (tVar 8) (tOp (rIx K) (tVar 0) (tC (.int 2)))))) tNil))) [8]) (gName 7))
    (tDrop (tBM K "list" rAppend (tVar 4) (tCons (tCall (spP K W__law_item) [] E0 (tCons (tVar 1) (tCons (tVar 7) tNil))) tNil))))))
    (tRet (tTup (tCons (tVar 2) (tCons (tOp (rPlus K) (tOp (rIx K) (tVar 0) (tC (.int 1))) (tOp (rIx K) (tVar 1) (tC (.int 1)))) (tCons (tVar 3) (tCons (tVar 4) tNil)))))))))
def W__law_mirrored (ds : List PyData) (R : PyData → Prop) : Prop := ∃ (s f : Int) (w : Nat) (T : List Int), ds = [rlD s f w T] ∧ Rl s f w T ∧ R (rlD s (1 - f - w) w (mirT s w T))
def t__law_mirrored (K : PySem.W.Frag) : TS :=
  (tSeq (tAsg (tVar 0) (gTup K 4 (gNames [1, 2, 3, 4])))
    (tSeq (tAsg (tLc (iRg1 (tCons (tCB (rLenA K) (tCons (tVar 4) tNil)) tNil)) (gName 6) tYes (tCall (spP K W__law_item) [] E0 (tCons (tVar 0) (tCons (tRevL K (tCall (spP K W__law_word) [] E0 (tCons (tVar 1) (tCons (tVar 6) (tCons (tVar 3) tNil))))) tNil))) [6]) (gName 5))
    (tRet (tTup (tCons (tVar 1) (tCons (tOp rMinus (tOp rMinus (tC (.int 1)) (tVar 2)) (tVar 3)) (tCons (tVar 3) (tCons (tVar 5) tNil))))))))
end Cf
namespace Cf
open PySem PySem.Spec PyProof.Rows L2
open Evl (Ex)
local macro_rules | `(tactic| walk_at "d") => `(tactic| first
  | (with_reducible refine DS_seq ?_)
  | (with_reducible refine DS_if ?_)
  | (with_reducible refine DS_ret ?_)
  | (with_reducible refine DS_next ?_)
  | (with_reducible refine DS_retN ?_)
  | (with_reducible refine DS_set ?_)
  | (with_reducible refine DS_drop ?_)
  | (with_reducible refine DS_unpack ?_)
  | (with_reducible refine DS_par ?_)
  | (with_reducible refine DE_int ?_)
  | (with_reducible refine DE_bl ?_)
  | (with_reducible refine DE_non ?_)
  | (with_reducible refine DE_str ?_)
  | (with_reducible refine DE_isi ?_)
  | (with_reducible refine DE_and ?_)
  | (with_reducible refine DE_or ?_)
  | (with_reducible refine DE_not ?_)
  | (with_reducible refine DE_if ?_)
  | (with_reducible refine DE_chain ?_)
  | (with_reducible refine DE_tyIs ?_)
  | (with_reducible refine DE_tyNot ?_)
  | (with_reducible refine DE_call ?_)
  | ((with_reducible refine' DE_lenOw ?k1 ?_); (case k1 => exact rfl))
  | (with_reducible refine DE_cb ?_)
  | (with_reducible refine DE_new (DL_rep (DL_lst ?_)))
  | (with_reducible refine DE_op ?_)
  | (with_reducible refine DE_un ?_)
  | (with_reducible refine DE_tup ?_)
  | (with_reducible refine DT_test ?_)
  | (with_reducible refine DT_B ?_)
  | (with_reducible refine DT_and ?_)
  | (with_reducible refine DT_or ?_)
  | (with_reducible refine DT_not ?_)
  | (with_reducible refine DT_yes ?_)
  | (with_reducible refine DA_nil ?_)
  | (with_reducible refine DA_cons ?_)
  | (with_reducible refine DO_no ?_)
  | (with_reducible refine DO_at ?_)
  | (with_reducible refine DR_minus ?_)
  | (with_reducible refine DR_mod ?_)
  | (with_reducible refine DR_div ?_)
  | (with_reducible refine DR_pow ?_)
  | (with_reducible refine DR_lt ?_)
  | (with_reducible refine DR_le ?_)
  | (with_reducible refine DR_gt ?_)
  | (with_reducible refine DR_ge ?_)
  | (with_reducible refine DR_eq ?_)
  | (with_reducible refine DR_ne ?_)
  | (with_reducible refine DR_isN ?_)
  | (with_reducible refine DR_notN ?_)
  | (with_reducible refine DU_neg ?_)
  | (with_reducible refine DC_len ?_)
  | (with_reducible refine DC_int ?_)
  | (with_reducible refine DC_abs ?_)
  | (with_reducible refine DC_max2 ?_)
  | (with_reducible refine DC_min2 ?_)
  | (with_reducible refine DC_sum ?_)
  | (with_reducible refine DC_all ?_)
  | (with_reducible refine DC_any ?_)
  | (with_reducible refine DC_repr ?_)
  | (with_reducible refine ⟨_, kb_int _, ?_⟩)
  | (with_reducible refine ⟨_, kb_bool _, ?_⟩)
  | (with_reducible refine ⟨_, kb_list _, ?_⟩)
  | (with_reducible refine ⟨_, kb_tuple _, ?_⟩)
  | (with_reducible refine ⟨_, rfl, ?_⟩)
  | (with_reducible refine ⟨_, _, rfl, rfl, ?_⟩)
  | (with_reducible refine DE_callN ?_)
  | (with_reducible refine DE_callX ?_)
  | (with_reducible refine DR_notB ?_)
  | (with_reducible refine DE_emp ?_)
  | (with_reducible refine DE_new (DL_lst ?_))
  | (with_reducible refine DE_new (DL_sl ?_))
  | (with_reducible refine DE_slT ?_)
  | (with_reducible refine DC_list ?_)
  | ((with_reducible refine' DE_callT ?k1 ?_); (case k1 => exact rfl))
  | ((with_reducible refine' DE_var ?k1 ?_); (case k1 => exact rfl))
  | ((with_reducible refine' DE_varO ?k1 ?_); (case k1 => exact rfl))
  | ((with_reducible refine' DE_varN ?k1 ?_); (case k1 => exact rfl)))


/-! ### walks along words, their greatest sums (for the laws of means) -/
def lonS (s : Int) (P : Nat) (vs sums : List Int) : List Int :=
  (List.range P).map fun (p : Nat) => lmax ((List.range s.toNat).map fun (k : Nat) => itm sums (((k * P + p : Nat) : Int) / s) + itm vs ((k * P + p : Nat) : Int))
def stepS (s : Int) (P : Nat) (vs sums : List Int) : Nat → List Int
  | 0 => sums
  | k + 1 => lonS s P vs (stepS s P vs sums k)
def tabS (s : Int) (P : Nat) (vs sums : List Int) (n : Nat) : List (List Int) := (List.range (n + 1)).map (stepS s P vs sums)
/-- the values of the words with their beginnings' sums -/
def reachS (s : Int) (vs sums : List Int) : List Int := (List.range vs.length).map fun (n : Nat) => itm sums ((n : Int) / s) + itm vs n
def W_places_of (ds : List PyData) (R : PyData → Prop) : Prop := ∃ (s : Int) (l P : Nat) (vs : List Int), ds = [wtD s (l + 1) vs] ∧ Wt s (l + 1) vs ∧ s ^ l = (P : Int) ∧ R (.int P)
def t_places_of (K : PySem.W.Frag) : TS :=
  (tRet (tOp rDivI (tCB (rLenA K) (tCons (tOp (rIx K) (tVar 0) (tC (.int 2))) tNil)) (tOp (rIx K) (tVar 0) (tC (.int 0)))))
def W_longer_sums (ds : List PyData) (R : PyData → Prop) : Prop := ∃ (s : Int) (l P : Nat) (vs sums : List Int), ds = [wtD s (l + 1) vs, LI sums] ∧ Wt s (l + 1) vs ∧ s ^ l = (P : Int) ∧ sums.length = P ∧ R (LI (lonS s P vs sums))
def t_longer_sums (K : PySem.W.Frag) : TS :=
  (tSeq (tAsg (tVar 0) (gTup K 3 (gNames [2, 3, 4])))
    (tSeq (tAsg (tLc (iEnum K (tCons (tVar 4) tNil)) (gTup K 2 (gNames [6, 7])) tYes (tOp (rPlus K) (tOp (rIx K) (tVar 1) (tOp rDivI (tVar 6) (tVar 2))) (tVar 7)) [6, 7]) (gName 5))
    (tSeq (tAsg (tLc (iRng3 (tCons (tC (.int 0)) (tCons (tCB (rLenA K) (tCons (tVar 5) tNil)) (tCons (tCB (rLenA K) (tCons (tVar 1) tNil)) tNil)))) (gName 9) tYes (tSl (rSlL K) (tVar 5) (tPart (tVar 9)) (tPart (tOp (rPlus K) (tVar 9) (tCB (rLenA K) (tCons (tVar 1) tNil))))) [9]) (gName 8))
    (tRet (tLc (iZipS K (tVar 8)) (gName 10) tYes (tCB (rMaxA K) (tCons (tVar 10) tNil)) [10])))))
def W_sums_by_steps (ds : List PyData) (R : PyData → Prop) : Prop := ∃ (s : Int) (l P : Nat) (vs sums : List Int) (n : Nat), ds = [wtD s (l + 1) vs, LI sums, .int n] ∧ Wt s (l + 1) vs ∧ s ^ l = (P : Int) ∧ sums.length = P ∧ n ≤ 1000 ∧ R (.list ((tabS s P vs sums n).map LI))
def t_sums_by_steps (K : PySem.W.Frag) : TS :=
  (tSeq (tAsg (tLst (tCons (tVar 1) tNil)) (gName 3))
    (tSeq (tFor (iRg1 (tCons (tVar 2) tNil)) (gName 4)
    (tDrop (tBM K "list" rAppend (tVar 3) (tCons (tCall (spP K W_longer_sums) [] E0 (tCons (tVar 0) (tCons (tOp (rIx K) (tVar 3) (tUn rNegI (tC (.int 1)))) tNil))) tNil))))
    (tRet (tVar 3))))
end Cf
namespace Cf
open PySem PySem.Spec PyProof.Rows L2
open Evl (Ex)
local macro_rules | `(tactic| walk_at "d") => `(tactic| first
  | (with_reducible refine DS_seq ?_)
  | (with_reducible refine DS_if ?_)
  | (with_reducible refine DS_ret ?_)
  | (with_reducible refine DS_next ?_)
  | (with_reducible refine DS_retN ?_)
  | (with_reducible refine DS_set ?_)
  | (with_reducible refine DS_drop ?_)
  | (with_reducible refine DS_unpack ?_)
  | (with_reducible refine DS_par ?_)
  | (with_reducible refine DE_int ?_)
  | (with_reducible refine DE_bl ?_)
  | (with_reducible refine DE_non ?_)
  | (with_reducible refine DE_str ?_)
  | (with_reducible refine DE_isi ?_)
  | (with_reducible refine DE_and ?_)
  | (with_reducible refine DE_or ?_)
  | (with_reducible refine DE_not ?_)
  | (with_reducible refine DE_if ?_)
  | (with_reducible refine DE_chain ?_)
  | (with_reducible refine DE_tyIs ?_)
  | (with_reducible refine DE_tyNot ?_)
  | (with_reducible refine DE_call ?_)
  | ((with_reducible refine' DE_lenOw ?k1 ?_); (case k1 => exact rfl))
  | (with_reducible refine DE_cb ?_)
  | (with_reducible refine DE_new (DL_rep (DL_lst ?_)))
  | (with_reducible refine DE_op ?_)
  | (with_reducible refine DE_un ?_)
  | (with_reducible refine DE_tup ?_)
  | (with_reducible refine DT_test ?_)
  | (with_reducible refine DT_B ?_)
  | (with_reducible refine DT_and ?_)
  | (with_reducible refine DT_or ?_)
  | (with_reducible refine DT_not ?_)
  | (with_reducible refine DT_yes ?_)
  | (with_reducible refine DA_nil ?_)
  | (with_reducible refine DA_cons ?_)
  | (with_reducible refine DO_no ?_)
  | (with_reducible refine DO_at ?_)
  | (with_reducible refine DR_minus ?_)
  | (with_reducible refine DR_mod ?_)
  | (with_reducible refine DR_div ?_)
  | (with_reducible refine DR_pow ?_)
  | (with_reducible refine DR_lt ?_)
  | (with_reducible refine DR_le ?_)
  | (with_reducible refine DR_gt ?_)
  | (with_reducible refine DR_ge ?_)
  | (with_reducible refine DR_eq ?_)
  | (with_reducible refine DR_ne ?_)
  | (with_reducible refine DR_isN ?_)
  | (with_reducible refine DR_notN ?_)
  | (with_reducible refine DU_neg ?_)
  | (with_reducible refine DC_len ?_)
  | (with_reducible refine DC_int ?_)
  | (with_reducible refine DC_abs ?_)
  | (with_reducible refine DC_max2 ?_)
  | (with_reducible refine DC_min2 ?_)
  | (with_reducible refine DC_sum ?_)
  | (with_reducible refine DC_all ?_)
  | (with_reducible refine DC_any ?_)
  | (with_reducible refine DC_repr ?_)
  | (with_reducible refine ⟨_, kb_int _, ?_⟩)
  | (with_reducible refine ⟨_, kb_bool _, ?_⟩)
  | (with_reducible refine ⟨_, kb_list _, ?_⟩)
  | (with_reducible refine ⟨_, kb_tuple _, ?_⟩)
  | (with_reducible refine ⟨_, rfl, ?_⟩)
  | (with_reducible refine ⟨_, _, rfl, rfl, ?_⟩)
  | (with_reducible refine DE_callN ?_)
  | (with_reducible refine DE_callX ?_)
  | (with_reducible refine DR_notB ?_)
  | (with_reducible refine DE_emp ?_)
  | (with_reducible refine DE_new (DL_lst ?_))
  | (with_reducible refine DE_new (DL_sl ?_))
  | (with_reducible refine DE_slT ?_)
  | (with_reducible refine DC_list ?_)
  | ((with_reducible refine' DE_callT ?k1 ?_); (case k1 => exact rfl))
  | ((with_reducible refine' DE_var ?k1 ?_); (case k1 => exact rfl))
  | ((with_reducible refine' DE_varO ?k1 ?_); (case k1 => exact rfl))
  | ((with_reducible refine' DE_varN ?k1 ?_); (case k1 => exact rfl)))


/-! ### means, flows -/
abbrev mD (m : Int × Int) : PyData := .tuple [.int m.1, .int m.2]
def zeros (P : Nat) : List Int := List.replicate P 0
def W_walk_sums (ds : List PyData) (R : PyData → Prop) : Prop := ∃ (s : Int) (l P : Nat) (vs : List Int), ds = [wtD s (l + 1) vs] ∧ Wt s (l + 1) vs ∧ s ^ l = (P : Int) ∧ R (.list ((tabS s P vs (zeros P) P).map LI))
def t_walk_sums (K : PySem.W.Frag) : TS :=
  (tSeq (tAsg (tCall (spP K W_places_of) [] E0 (tCons (tVar 0) tNil)) (gName 1))
    (tRet (tCall (spP K W_sums_by_steps) [] E0 (tCons (tVar 0) (tCons (tOp rTimes (tLst (tCons (tC (.int 0)) tNil)) (tVar 1)) (tCons (tVar 1) tNil))))))
def negV (vs : List Int) : List Int := vs.map fun v => -v
def W_negated (ds : List PyData) (R : PyData → Prop) : Prop := ∃ (s : Int) (l : Nat) (vs : List Int), ds = [wtD s l vs] ∧ vs.length ≤ 1024 ∧ R (wtD s l (negV vs))
def t_negated (K : PySem.W.Frag) : TS :=
  (tSeq (tAsg (tVar 0) (gTup K 3 (gNames [1, 2, 3])))
    (tRet (tTup (tCons (tVar 1) (tCons (tVar 2) (tCons (tLc (iList K (tVar 3)) (gName 4) tYes (tUn rNegI (tVar 4)) [4]) tNil))))))
def W_is_mean (ds : List PyData) (R : PyData → Prop) : Prop := ∃ (t b : Int), ds = [mD (t, b)] ∧ 1 ≤ b ∧ R (.bool true)
def t_is_mean (K : PySem.W.Frag) : TS :=
  (tSeq (tIfS (tOr (tTest (tOp rNT (tCB (rTyp K) (tCons (tVar 0) tNil)) (tC (.ty "tuple")))) (tTest (tOp (rNeU K) (tCB (rLenA K) (tCons (tVar 0) tNil)) (tC (.int 2)))))
    (tRet (tC (.bl false)))
    tNext)
    (tRet (tAndV (tCall (spP K W_is_integer) [] E0 (tCons (tOp (rIx K) (tVar 0) (tC (.int 0))) tNil)) (tAndV (tCall (spP K W_is_integer) [] E0 (tCons (tOp (rIx K) (tVar 0) (tC (.int 1))) tNil)) (tOp rGeI (tOp (rIx K) (tVar 0) (tC (.int 1))) (tC (.int 1)))))))
def W_check_mean (ds : List PyData) (R : PyData → Prop) : Prop := ∃ (t b : Int), ds = [mD (t, b)] ∧ 1 ≤ b ∧ R .none
def t_check_mean (K : PySem.W.Frag) : TS :=
  (tIfS (tNot (tB (tCall (spP K W_is_mean) [] E0 (tCons (tVar 0) tNil))))
    tNever
    tNext)
def isFlow (P : Nat) : PyData → Bool
  | .list ds => ds.all isInt && decide ((ds.length : Int) = P)
  | _ => false
def W_is_flow (ds : List PyData) (R : PyData → Prop) : Prop := ∃ (s : Int) (l P : Nat) (vs : List Int) (x : PyData), ds = [wtD s (l + 1) vs, x] ∧ Wt s (l + 1) vs ∧ s ^ l = (P : Int) ∧ shortD x = true ∧ R (.bool (isFlow P x))
def t_is_flow (K : PySem.W.Frag) : TS :=
  (tRet (tAndV (tCall (spP K W_is_integer_list) [] E0 (tCons (tVar 1) tNil)) (tOp (rEqU K) (tCB (rLenA K) (tCons (tVar 1) tNil)) (tCall (spP K W_places_of) [] E0 (tCons (tVar 0) tNil)))))
def W_is_less (ds : List PyData) (R : PyData → Prop) : Prop := ∃ (m o : Int × Int), ds = [mD m, mD o] ∧ (0 ≤ m.2 ∧ m.2 < 2 ^ 60) ∧ (0 ≤ o.2 ∧ o.2 < 2 ^ 60) ∧ R (.bool (decide (m.1 * o.2 < o.1 * m.2)))
def t_is_less (K : PySem.W.Frag) : TS :=
  (tRet (tOp rLtI (tOp rTimes (tOp (rIx K) (tVar 0) (tC (.int 0))) (tOp (rIx K) (tVar 1) (tC (.int 1)))) (tOp rTimes (tOp (rIx K) (tVar 1) (tC (.int 0))) (tOp (rIx K) (tVar 0) (tC (.int 1))))))
def lt2 (m o : Int × Int) : Bool := decide (m.1 * o.2 < o.1 * m.2)
def least2 : List (Int × Int) → Int × Int
  | [] => (0, 1)
  | x :: xs => (x :: xs).foldl (fun a m => if lt2 m a then m else a) x
def W_least_of (ds : List PyData) (R : PyData → Prop) : Prop := ∃ (ms : List (Int × Int)), ds = [.list (ms.map mD)] ∧ ms ≠ [] ∧ (∀ m ∈ ms, 0 ≤ m.2 ∧ m.2 < 2 ^ 60) ∧ R (mD (least2 ms))
def t_least_of (K : PySem.W.Frag) : TS :=
  (tSeq (tAsg (tOp (rIx K) (tVar 0) (tC (.int 0))) (gName 1))
    (tSeq (tFor (iList K (tVar 0)) (gName 2)
    (tIfS (tB (tCall (spP K W_is_less) [] E0 (tCons (tVar 2) (tCons (tVar 1) tNil))))
    (tAsg (tVar 2) (gName 1))
    tNext))
    (tRet (tVar 1))))
end Cf
namespace Cf
open PySem PySem.Spec PyProof.Rows L2
open Evl (Ex)
local macro_rules | `(tactic| walk_at "d") => `(tactic| first
  | (with_reducible refine DS_seq ?_)
  | (with_reducible refine DS_if ?_)
  | (with_reducible refine DS_ret ?_)
  | (with_reducible refine DS_next ?_)
  | (with_reducible refine DS_retN ?_)
  | (with_reducible refine DS_set ?_)
  | (with_reducible refine DS_drop ?_)
  | (with_reducible refine DS_unpack ?_)
  | (with_reducible refine DS_par ?_)
  | (with_reducible refine DE_int ?_)
  | (with_reducible refine DE_bl ?_)
  | (with_reducible refine DE_non ?_)
  | (with_reducible refine DE_str ?_)
  | (with_reducible refine DE_isi ?_)
  | (with_reducible refine DE_and ?_)
  | (with_reducible refine DE_or ?_)
  | (with_reducible refine DE_not ?_)
  | (with_reducible refine DE_if ?_)
  | (with_reducible refine DE_chain ?_)
  | (with_reducible refine DE_tyIs ?_)
  | (with_reducible refine DE_tyNot ?_)
  | (with_reducible refine DE_call ?_)
  | ((with_reducible refine' DE_lenOw ?k1 ?_); (case k1 => exact rfl))
  | (with_reducible refine DE_cb ?_)
  | (with_reducible refine DE_new (DL_rep (DL_lst ?_)))
  | (with_reducible refine DE_op ?_)
  | (with_reducible refine DE_un ?_)
  | (with_reducible refine DE_tup ?_)
  | (with_reducible refine DT_test ?_)
  | (with_reducible refine DT_B ?_)
  | (with_reducible refine DT_and ?_)
  | (with_reducible refine DT_or ?_)
  | (with_reducible refine DT_not ?_)
  | (with_reducible refine DT_yes ?_)
  | (with_reducible refine DA_nil ?_)
  | (with_reducible refine DA_cons ?_)
  | (with_reducible refine DO_no ?_)
  | (with_reducible refine DO_at ?_)
  | (with_reducible refine DR_minus ?_)
  | (with_reducible refine DR_mod ?_)
  | (with_reducible refine DR_div ?_)
  | (with_reducible refine DR_pow ?_)
  | (with_reducible refine DR_lt ?_)
  | (with_reducible refine DR_le ?_)
  | (with_reducible refine DR_gt ?_)
  | (with_reducible refine DR_ge ?_)
  | (with_reducible refine DR_eq ?_)
  | (with_reducible refine DR_ne ?_)
  | (with_reducible refine DR_isN ?_)
  | (with_reducible refine DR_notN ?_)
  | (with_reducible refine DU_neg ?_)
  | (with_reducible refine DC_len ?_)
  | (with_reducible refine DC_int ?_)
  | (with_reducible refine DC_abs ?_)
  | (with_reducible refine DC_max2 ?_)
  | (with_reducible refine DC_min2 ?_)
  | (with_reducible refine DC_sum ?_)
  | (with_reducible refine DC_all ?_)
  | (with_reducible refine DC_any ?_)
  | (with_reducible refine DC_repr ?_)
  | (with_reducible refine ⟨_, kb_int _, ?_⟩)
  | (with_reducible refine ⟨_, kb_bool _, ?_⟩)
  | (with_reducible refine ⟨_, kb_list _, ?_⟩)
  | (with_reducible refine ⟨_, kb_tuple _, ?_⟩)
  | (with_reducible refine ⟨_, rfl, ?_⟩)
  | (with_reducible refine ⟨_, _, rfl, rfl, ?_⟩)
  | (with_reducible refine DE_callN ?_)
  | (with_reducible refine DE_callX ?_)
  | (with_reducible refine DR_notB ?_)
  | (with_reducible refine DE_emp ?_)
  | (with_reducible refine DE_new (DL_lst ?_))
  | (with_reducible refine DE_new (DL_sl ?_))
  | (with_reducible refine DE_slT ?_)
  | (with_reducible refine DC_list ?_)
  | ((with_reducible refine' DE_callT ?k1 ?_); (case k1 => exact rfl))
  | ((with_reducible refine' DE_var ?k1 ?_); (case k1 => exact rfl))
  | ((with_reducible refine' DE_varO ?k1 ?_); (case k1 => exact rfl))
  | ((with_reducible refine' DE_varN ?k1 ?_); (case k1 => exact rfl)))


/-! ### greatest means and flows by the sums of walks -/
abbrev gcd2 (m : Int × Int) : Int := ((Nat.gcd m.1.natAbs m.2.natAbs : Nat) : Int)
def low2 (m : Int × Int) : Int × Int := (m.1 / gcd2 m, m.2 / gcd2 m)
def W_lowest_terms (ds : List PyData) (R : PyData → Prop) : Prop := ∃ (m : Int × Int), ds = [.int m.1, .int m.2] ∧ 1 ≤ m.2 ∧ m.2 < 2 ^ 60 ∧ R (mD (low2 m))
def t_lowest_terms (K : PySem.W.Frag) : TS :=
  (tSeq (tAsg (tCB rGcd (tCons (tVar 0) (tCons (tVar 1) tNil))) (gName 2))
    (tRet (tTup (tCons (tOp rDivI (tVar 0) (tVar 2)) (tCons (tOp rDivI (tVar 1) (tVar 2)) tNil)))))
abbrev colI (T : List (List Int)) (p : Nat) : List Int := T.map fun r => itm r (p : Int)
def candS (c : List Int) (n : Nat) : List (Int × Int) := (List.range n).map fun (m : Nat) => (itm c (n : Int) - itm c (m : Int), (n : Int) - (m : Int))
def meanC (c : List Int) (n : Nat) : Int × Int := least2 (candS c n)
def bestF (g : Option (Int × Int)) (m : Int × Int) : Option (Int × Int) :=
  match g with
  | none => some m
  | some g => if lt2 g m then some m else some g
def bestM (ms : List (Int × Int)) : Option (Int × Int) := ms.foldl bestF none
def meansT (T : List (List Int)) (n P : Nat) : List (Int × Int) := (List.range P).map fun p => meanC (colI T p) n
def meanT (T : List (List Int)) (n P : Nat) : Int × Int := low2 ((bestM (meansT T n P)).getD (0, 1))
def oSl : Option (Int × Int) → Sl
  | none => .sh .none
  | some m => .sh (mD m)
def W_mean_by_sums (ds : List PyData) (R : PyData → Prop) : Prop := ∃ (T : List (List Int)) (n P : Nat), ds = [.list (T.map LI)] ∧ T.length = n + 1 ∧ 1 ≤ n ∧ n ≤ 1000 ∧ 1 ≤ P ∧ P ≤ 1000 ∧ (∀ r ∈ T, r.length = P) ∧ R (mD (meanT T n P))
def t_mean_by_sums (K : PySem.W.Frag) : TS :=
  (tSeq (tAsg (tOp rMinus (tCB (rLenA K) (tCons (tVar 0) tNil)) (tC (.int 1))) (gName 1))
    (tSeq (tAsg (tC .non) (gName 2))
    (tSeq (tFor (iZipS K (tVar 0)) (gName 3)
    (tSeq (tAsg (tCall (spP K W_least_of) [] E0 (tCons (tLc (iRg1 (tCons (tVar 1) tNil)) (gName 5) tYes (tTup (tCons (tOp rMinus (tOp (rIx K) (tVar 3) (tVar 1)) (tOp (rIx K) (tVar 3) (tVar 5))) (tCons (tOp rMinus (tVar 1) (tVar 5)) tNil))) [5]) tNil)) (gName 4))
    (tIfS (tOr (tTest (tOp rIsNone (tVar 2) (tC .non))) (tB (tCall (spP K W_is_less) [] E0 (tCons (tVar 2) (tCons (tVar 4) tNil)))))
    (tAsg (tVar 4) (gName 2))
    tNext)))
    (tRet (tCall (spP K W_lowest_terms) [] E0 (tCons (tOp (rIx K) (tVar 2) (tC (.int 0))) (tCons (tOp (rIx K) (tVar 2) (tC (.int 1))) tNil)))))))
theorem range_take {α : Type} (f : Nat → α) (k : Nat) : (List.range (k + 1)).map f = (List.range k).map f ++ [f k] := by rw [List.range_succ, List.map_append]; rfl
end Cf
namespace Cf
open PySem PySem.Spec PyProof.Rows L2
open Evl (Ex)
local macro_rules | `(tactic| walk_at "d") => `(tactic| first
  | (with_reducible refine DS_seq ?_)
  | (with_reducible refine DS_if ?_)
  | (with_reducible refine DS_ret ?_)
  | (with_reducible refine DS_next ?_)
  | (with_reducible refine DS_retN ?_)
  | (with_reducible refine DS_set ?_)
  | (with_reducible refine DS_drop ?_)
  | (with_reducible refine DS_unpack ?_)
  | (with_reducible refine DS_par ?_)
  | (with_reducible refine DE_int ?_)
  | (with_reducible refine DE_bl ?_)
  | (with_reducible refine DE_non ?_)
  | (with_reducible refine DE_str ?_)
  | (with_reducible refine DE_isi ?_)
  | (with_reducible refine DE_and ?_)
  | (with_reducible refine DE_or ?_)
  | (with_reducible refine DE_not ?_)
  | (with_reducible refine DE_if ?_)
  | (with_reducible refine DE_chain ?_)
  | (with_reducible refine DE_tyIs ?_)
  | (with_reducible refine DE_tyNot ?_)
  | (with_reducible refine DE_call ?_)
  | ((with_reducible refine' DE_lenOw ?k1 ?_); (case k1 => exact rfl))
  | (with_reducible refine DE_cb ?_)
  | (with_reducible refine DE_new (DL_rep (DL_lst ?_)))
  | (with_reducible refine DE_op ?_)
  | (with_reducible refine DE_un ?_)
  | (with_reducible refine DE_tup ?_)
  | (with_reducible refine DT_test ?_)
  | (with_reducible refine DT_B ?_)
  | (with_reducible refine DT_and ?_)
  | (with_reducible refine DT_or ?_)
  | (with_reducible refine DT_not ?_)
  | (with_reducible refine DT_yes ?_)
  | (with_reducible refine DA_nil ?_)
  | (with_reducible refine DA_cons ?_)
  | (with_reducible refine DO_no ?_)
  | (with_reducible refine DO_at ?_)
  | (with_reducible refine DR_minus ?_)
  | (with_reducible refine DR_mod ?_)
  | (with_reducible refine DR_div ?_)
  | (with_reducible refine DR_pow ?_)
  | (with_reducible refine DR_lt ?_)
  | (with_reducible refine DR_le ?_)
  | (with_reducible refine DR_gt ?_)
  | (with_reducible refine DR_ge ?_)
  | (with_reducible refine DR_eq ?_)
  | (with_reducible refine DR_ne ?_)
  | (with_reducible refine DR_isN ?_)
  | (with_reducible refine DR_notN ?_)
  | (with_reducible refine DU_neg ?_)
  | (with_reducible refine DC_len ?_)
  | (with_reducible refine DC_int ?_)
  | (with_reducible refine DC_abs ?_)
  | (with_reducible refine DC_max2 ?_)
  | (with_reducible refine DC_min2 ?_)
  | (with_reducible refine DC_sum ?_)
  | (with_reducible refine DC_all ?_)
  | (with_reducible refine DC_any ?_)
  | (with_reducible refine DC_repr ?_)
  | (with_reducible refine ⟨_, kb_int _, ?_⟩)
  | (with_reducible refine ⟨_, kb_bool _, ?_⟩)
  | (with_reducible refine ⟨_, kb_list _, ?_⟩)
  | (with_reducible refine ⟨_, kb_tuple _, ?_⟩)
  | (with_reducible refine ⟨_, rfl, ?_⟩)
  | (with_reducible refine ⟨_, _, rfl, rfl, ?_⟩)
  | (with_reducible refine DE_callN ?_)
  | (with_reducible refine DE_callX ?_)
  | (with_reducible refine DR_notB ?_)
  | (with_reducible refine DE_emp ?_)
  | (with_reducible refine DE_new (DL_lst ?_))
  | (with_reducible refine DE_new (DL_sl ?_))
  | (with_reducible refine DE_slT ?_)
  | (with_reducible refine DC_list ?_)
  | ((with_reducible refine' DE_callT ?k1 ?_); (case k1 => exact rfl))
  | ((with_reducible refine' DE_var ?k1 ?_); (case k1 => exact rfl))
  | ((with_reducible refine' DE_varO ?k1 ?_); (case k1 => exact rfl))
  | ((with_reducible refine' DE_varN ?k1 ?_); (case k1 => exact rfl)))


/-! ### flows by the sums of walks; what bounds a weight -/
def flowC (c : List Int) (n : Nat) (m : Int × Int) : Int := lmin ((List.range n).map fun (k : Nat) => (k : Int) * m.1 - m.2 * itm c (k : Int))
def flowT (T : List (List Int)) (n P : Nat) (m : Int × Int) : List Int := (List.range P).map fun p => flowC (colI T p) n m
def W_flow_by_sums (ds : List PyData) (R : PyData → Prop) : Prop := ∃ (T : List (List Int)) (n P : Nat) (m : Int × Int), ds = [.list (T.map LI), mD m] ∧ T.length = n + 1 ∧ 1 ≤ n ∧ n ≤ 1000 ∧ P ≤ 1000 ∧ (∀ r ∈ T, r.length = P) ∧ 0 ≤ m.2 ∧ m.2 < 2 ^ 60 ∧ R (LI (flowT T n P m))
def t_flow_by_sums (K : PySem.W.Frag) : TS :=
  (tSeq (tAsg (tVar 1) (gTup K 2 (gNames [2, 3])))
    (tSeq (tAsg (tSl (rSlL K) (tVar 0) tNoPart (tPart (tUn rNegI (tC (.int 1))))) (gName 4))
    (tRet (tLc (iZipS K (tVar 4)) (gName 7) tYes (tCB (rMinA K) (tCons (tLc (iEnumT K (tCons (tVar 7) tNil)) (gTup K 2 (gNames [5, 6])) tYes (tOp rMinus (tOp rTimes (tVar 5) (tVar 2)) (tOp rTimes (tVar 3) (tVar 6))) [5, 6]) tNil)) [7]))))
def fsumS (s : Int) (P : Nat) (b : Int) (vs fl : List Int) : List Int := (List.range vs.length).map fun (n : Nat) => b * itm vs (n : Int) - itm fl ((n : Int) / s) + itm fl ((n : Int) % (P : Int))
def W_flow_sums (ds : List PyData) (R : PyData → Prop) : Prop := ∃ (s : Int) (l P : Nat) (vs fl : List Int) (b : Int), ds = [wtD s (l + 1) vs, .int b, LI fl] ∧ Wt s (l + 1) vs ∧ s ^ l = (P : Int) ∧ fl.length = P ∧ 0 ≤ b ∧ b < 2 ^ 60 ∧ R (LI (fsumS s P b vs fl))
def t_flow_sums (K : PySem.W.Frag) : TS :=
  (tSeq (tAsg (tVar 0) (gTup K 3 (gNames [3, 4, 5])))
    (tRet (tLc (iEnum K (tCons (tVar 5) tNil)) (gTup K 2 (gNames [6, 7])) tYes (tOp (rPlus K) (tOp rMinus (tOp rTimes (tVar 1) (tVar 7)) (tOp (rIx K) (tVar 2) (tOp rDivI (tVar 6) (tVar 3)))) (tOp (rIx K) (tVar 2) (tOp rModI (tVar 6) (tCB (rLenA K) (tCons (tVar 2) tNil))))) [6, 7])))
/-! sizes -/
abbrev tabW (s : Int) (P : Nat) (vs : List Int) : List (List Int) := tabS s P vs (zeros P) P
def greatM (s : Int) (P : Nat) (vs : List Int) : Int × Int := meanT (tabW s P vs) P P
def leastM (s : Int) (P : Nat) (vs : List Int) : Int × Int := (-(greatM s P (negV vs)).1, (greatM s P (negV vs)).2)
def topF (s : Int) (P : Nat) (vs : List Int) : List Int := flowT (tabW s P vs) P P (greatM s P vs)
def botF (s : Int) (P : Nat) (vs : List Int) : List Int := negV (topF s P (negV vs))
def W_greatest_mean (ds : List PyData) (R : PyData → Prop) : Prop := ∃ (s : Int) (l P : Nat) (vs : List Int), ds = [wtD s (l + 1) vs] ∧ Wt s (l + 1) vs ∧ s ^ l = (P : Int) ∧ R (mD (greatM s P vs))
def t_greatest_mean (K : PySem.W.Frag) : TS :=
  (tSeq (tDrop (tCall (spP K W_check_weight) [] E0 (tCons (tVar 0) tNil)))
    (tRet (tCall (spP K W_mean_by_sums) [] E0 (tCons (tCall (spP K W_walk_sums) [] E0 (tCons (tVar 0) tNil)) tNil))))
def W_least_mean (ds : List PyData) (R : PyData → Prop) : Prop := ∃ (s : Int) (l P : Nat) (vs : List Int), ds = [wtD s (l + 1) vs] ∧ Wt s (l + 1) vs ∧ s ^ l = (P : Int) ∧ R (mD (leastM s P vs))
def t_least_mean (K : PySem.W.Frag) : TS :=
  (tSeq (tDrop (tCall (spP K W_check_weight) [] E0 (tCons (tVar 0) tNil)))
    (tSeq (tAsg (tCall (spP K W_greatest_mean) [] E0 (tCons (tCall (spP K W_negated) [] E0 (tCons (tVar 0) tNil)) tNil)) (gTup K 2 (gNames [1, 2])))
    (tRet (tTup (tCons (tUn rNegI (tVar 1)) (tCons (tVar 2) tNil))))))
def W_top_flow (ds : List PyData) (R : PyData → Prop) : Prop := ∃ (s : Int) (l P : Nat) (vs : List Int), ds = [wtD s (l + 1) vs] ∧ Wt s (l + 1) vs ∧ s ^ l = (P : Int) ∧ R (LI (topF s P vs))
def t_top_flow (K : PySem.W.Frag) : TS :=
  (tSeq (tDrop (tCall (spP K W_check_weight) [] E0 (tCons (tVar 0) tNil)))
    (tSeq (tAsg (tCall (spP K W_walk_sums) [] E0 (tCons (tVar 0) tNil)) (gName 1))
    (tRet (tCall (spP K W_flow_by_sums) [] E0 (tCons (tVar 1) (tCons (tCall (spP K W_mean_by_sums) [] E0 (tCons (tVar 1) tNil)) tNil))))))
def W_bottom_flow (ds : List PyData) (R : PyData → Prop) : Prop := ∃ (s : Int) (l P : Nat) (vs : List Int), ds = [wtD s (l + 1) vs] ∧ Wt s (l + 1) vs ∧ s ^ l = (P : Int) ∧ R (LI (botF s P vs))
def t_bottom_flow (K : PySem.W.Frag) : TS :=
  (tSeq (tDrop (tCall (spP K W_check_weight) [] E0 (tCons (tVar 0) tNil)))
    (tRet (tLc (iList K (tCall (spP K W_top_flow) [] E0 (tCons (tCall (spP K W_negated) [] E0 (tCons (tVar 0) tNil)) tNil))) (gName 1) tYes (tUn rNegI (tVar 1)) [1])))
def intsOf : PyData → List Int
  | .list ds => ds.map fun d => match d with | .int n => n | _ => 0
  | _ => []
def above (s : Int) (P : Nat) (vs : List Int) (m : Int × Int) (x : PyData) : Bool := isFlow P x && decide (lmax (fsumS s P m.2 vs (intsOf x)) ≤ m.1)
def below (s : Int) (P : Nat) (vs : List Int) (m : Int × Int) (x : PyData) : Bool := isFlow P x && decide (m.1 ≤ lmin (fsumS s P m.2 vs (intsOf x)))
def W_bounds_above (ds : List PyData) (R : PyData → Prop) : Prop := ∃ (s : Int) (l P : Nat) (vs : List Int) (m : Int × Int) (x : PyData), ds = [wtD s (l + 1) vs, mD m, x] ∧ Wt s (l + 1) vs ∧ s ^ l = (P : Int) ∧ 1 ≤ m.2 ∧ m.2 < 2 ^ 60 ∧ shortD x = true ∧ R (.bool (above s P vs m x))
def t_bounds_above (K : PySem.W.Frag) : TS :=
  (tSeq (tDrop (tCall (spP K W_check_weight) [] E0 (tCons (tVar 0) tNil)))
    (tSeq (tDrop (tCall (spP K W_check_mean) [] E0 (tCons (tVar 1) tNil)))
    (tRet (tAndV (tCall (spP K W_is_flow) [] E0 (tCons (tVar 0) (tCons (tVar 2) tNil))) (tOp rLeI (tCB (rMaxA K) (tCons (tCall (spP K W_flow_sums) [] E0 (tCons (tVar 0) (tCons (tOp (rIx K) (tVar 1) (tC (.int 1))) (tCons (tVar 2) tNil)))) tNil)) (tOp (rIx K) (tVar 1) (tC (.int 0))))))))
def W_bounds_below (ds : List PyData) (R : PyData → Prop) : Prop := ∃ (s : Int) (l P : Nat) (vs : List Int) (m : Int × Int) (x : PyData), ds = [wtD s (l + 1) vs, mD m, x] ∧ Wt s (l + 1) vs ∧ s ^ l = (P : Int) ∧ 1 ≤ m.2 ∧ m.2 < 2 ^ 60 ∧ shortD x = true ∧ R (.bool (below s P vs m x))
def t_bounds_below (K : PySem.W.Frag) : TS :=
  (tSeq (tDrop (tCall (spP K W_check_weight) [] E0 (tCons (tVar 0) tNil)))
    (tSeq (tDrop (tCall (spP K W_check_mean) [] E0 (tCons (tVar 1) tNil)))
    (tRet (tAndV (tCall (spP K W_is_flow) [] E0 (tCons (tVar 0) (tCons (tVar 2) tNil))) (tOp rGeI (tCB (rMinA K) (tCons (tCall (spP K W_flow_sums) [] E0 (tCons (tVar 0) (tCons (tOp (rIx K) (tVar 1) (tC (.int 1))) (tCons (tVar 2) tNil)))) tNil)) (tOp (rIx K) (tVar 1) (tC (.int 0))))))))
end Cf
namespace Cf
open PySem PySem.Spec PyProof.Rows L2
open Evl (Ex)
/-! ### weights pulled back, gains -/
/-- the values of the weight that is pulled back -/
def pulT (s : Int) (w : Nat) (T : List Int) (l : Nat) (vs : List Int) : List Int :=
  (List.range (s ^ (w + l - 1)).toNat).map fun (n : Nat) => itm vs (num s (mids s w T l (wordOf s (w + l - 1) n)))
theorem itm_mem {vs : List Int} {n : Int} (h0 : 0 ≤ n) (h1 : n < (vs.length : Int)) : itm vs n ∈ vs := by
  have h : n.toNat < vs.length := by omega
  unfold itm
  rw [List.getD_eq_getElem?_getD, List.getElem?_eq_getElem h]
  exact List.getElem_mem h
def partOf (s : Int) (L : Nat) (n : Int) (a m : Nat) : List Int := ((wordOf s L n).drop a).take m
/-- the values of the gain -/
def gainT (s : Int) (w : Nat) (T : List Int) (l : Nat) (vs : List Int) (L a b : Nat) : List Int :=
  (List.range (s ^ L).toNat).map fun (n : Nat) => itm vs (num s (mids s w T l (partOf s L n a (w + l - 1)))) - itm vs (num s (partOf s L n b l))
end Cf
namespace Cf
open PySem PySem.Spec PyProof.Rows L2
open Evl (Ex)
local macro_rules | `(tactic| walk_at "d") => `(tactic| first
  | (with_reducible refine DS_seq ?_)
  | (with_reducible refine DS_if ?_)
  | (with_reducible refine DS_ret ?_)
  | (with_reducible refine DS_next ?_)
  | (with_reducible refine DS_retN ?_)
  | (with_reducible refine DS_set ?_)
  | (with_reducible refine DS_drop ?_)
  | (with_reducible refine DS_unpack ?_)
  | (with_reducible refine DS_par ?_)
  | (with_reducible refine DE_int ?_)
  | (with_reducible refine DE_bl ?_)
  | (with_reducible refine DE_non ?_)
  | (with_reducible refine DE_str ?_)
  | (with_reducible refine DE_isi ?_)
  | (with_reducible refine DE_and ?_)
  | (with_reducible refine DE_or ?_)
  | (with_reducible refine DE_not ?_)
  | (with_reducible refine DE_if ?_)
  | (with_reducible refine DE_chain ?_)
  | (with_reducible refine DE_tyIs ?_)
  | (with_reducible refine DE_tyNot ?_)
  | (with_reducible refine DE_call ?_)
  | ((with_reducible refine' DE_lenOw ?k1 ?_); (case k1 => exact rfl))
  | (with_reducible refine DE_cb ?_)
  | (with_reducible refine DE_new (DL_rep (DL_lst ?_)))
  | (with_reducible refine DE_op ?_)
  | (with_reducible refine DE_un ?_)
  | (with_reducible refine DE_tup ?_)
  | (with_reducible refine DT_test ?_)
  | (with_reducible refine DT_B ?_)
  | (with_reducible refine DT_and ?_)
  | (with_reducible refine DT_or ?_)
  | (with_reducible refine DT_not ?_)
  | (with_reducible refine DT_yes ?_)
  | (with_reducible refine DA_nil ?_)
  | (with_reducible refine DA_cons ?_)
  | (with_reducible refine DO_no ?_)
  | (with_reducible refine DO_at ?_)
  | (with_reducible refine DR_minus ?_)
  | (with_reducible refine DR_mod ?_)
  | (with_reducible refine DR_div ?_)
  | (with_reducible refine DR_pow ?_)
  | (with_reducible refine DR_lt ?_)
  | (with_reducible refine DR_le ?_)
  | (with_reducible refine DR_gt ?_)
  | (with_reducible refine DR_ge ?_)
  | (with_reducible refine DR_eq ?_)
  | (with_reducible refine DR_ne ?_)
  | (with_reducible refine DR_isN ?_)
  | (with_reducible refine DR_notN ?_)
  | (with_reducible refine DU_neg ?_)
  | (with_reducible refine DC_len ?_)
  | (with_reducible refine DC_int ?_)
  | (with_reducible refine DC_abs ?_)
  | (with_reducible refine DC_max2 ?_)
  | (with_reducible refine DC_min2 ?_)
  | (with_reducible refine DC_sum ?_)
  | (with_reducible refine DC_all ?_)
  | (with_reducible refine DC_any ?_)
  | (with_reducible refine DC_repr ?_)
  | (with_reducible refine ⟨_, kb_int _, ?_⟩)
  | (with_reducible refine ⟨_, kb_bool _, ?_⟩)
  | (with_reducible refine ⟨_, kb_list _, ?_⟩)
  | (with_reducible refine ⟨_, kb_tuple _, ?_⟩)
  | (with_reducible refine ⟨_, rfl, ?_⟩)
  | (with_reducible refine ⟨_, _, rfl, rfl, ?_⟩)
  | (with_reducible refine DE_callN ?_)
  | (with_reducible refine DE_callX ?_)
  | (with_reducible refine DR_notB ?_)
  | (with_reducible refine DE_emp ?_)
  | (with_reducible refine DE_new (DL_lst ?_))
  | (with_reducible refine DE_new (DL_sl ?_))
  | (with_reducible refine DE_slT ?_)
  | (with_reducible refine DC_list ?_)
  | ((with_reducible refine' DE_callT ?k1 ?_); (case k1 => exact rfl))
  | ((with_reducible refine' DE_var ?k1 ?_); (case k1 => exact rfl))
  | ((with_reducible refine' DE_varO ?k1 ?_); (case k1 => exact rfl))
  | ((with_reducible refine' DE_varN ?k1 ?_); (case k1 => exact rfl)))


/-! ### k12: what is within a bound -/
theorem val_mem {s : Int} (h : 0 < s) {l : Nat} {F r : List Int} (hl : s ^ l = (F.length : Int)) (hr : r ≠ []) (hs : Signs s r) (z : Int) : val s l F r z ∈ F := by
  have b := num_bound h (win r z l) (win_signs hr hs)
  rw [win_length, hl] at b
  exact itm_mem b.1 b.2
def restS (s : Int) (P : Nat) (m : Int × Int) (vs fl : List Int) : List Int := (List.range vs.length).map fun (n : Nat) => m.2 * itm vs (n : Int) - m.1 + (itm fl ((n : Int) % (P : Int)) - itm fl ((n : Int) / s))
def isPos : PyData → Bool | .int n => decide (0 < n) | _ => false
def isNeg : PyData → Bool | .int n => decide (n < 0) | _ => false
def W__law_rests (ds : List PyData) (R : PyData → Prop) : Prop := ∃ (s : Int) (l P : Nat) (vs fl : List Int) (m : Int × Int), ds = [wtD s (l + 1) vs, mD m, LI fl] ∧ Wt s (l + 1) vs ∧ s ^ l = (P : Int) ∧ fl.length = P ∧ 0 ≤ m.2 ∧ m.2 < 2 ^ 60 ∧ R (LI (restS s P m vs fl))
def t__law_rests (K : PySem.W.Frag) : TS :=
  (tSeq (tPar 3 4 (tCons (tOp (rIx K) (tVar 0) (tC (.int 0))) (tCons (tOp (rIx K) (tVar 0) (tC (.int 2))) tNil)))
    (tSeq (tPar 5 6 (tCons (tOp rDivI (tCB (rLenA K) (tCons (tVar 4) tNil)) (tVar 3)) (tCons (tLst tNil) tNil)))
    (tSeq (tFor (iRg1 (tCons (tCB (rLenA K) (tCons (tVar 4) tNil)) tNil)) (gName 7)
    (tSeq (tAsg (tOp rMinus (tOp (rIx K) (tVar 2) (tOp rModI (tCB rIntA (tCons (tVar 7) tNil)) (tVar 5))) (tOp (rIx K) (tVar 2) (tOp rDivI (tVar 7) (tVar 3)))) (gName 8))
    (tDrop (tBM K "list" rAppend (tVar 6) (tCons (tOp (rPlus K) (tOp rMinus (tOp rTimes (tOp (rIx K) (tVar 1) (tC (.int 1))) (tOp (rIx K) (tVar 4) (tVar 7))) (tOp (rIx K) (tVar 1) (tC (.int 0)))) (tVar 8)) tNil)))))
    (tRet (tVar 6)))))
def W__law_is_flow (ds : List PyData) (R : PyData → Prop) : Prop := ∃ (s : Int) (l P : Nat) (vs : List Int) (x : PyData), ds = [wtD s (l + 1) vs, x] ∧ Wt s (l + 1) vs ∧ s ^ l = (P : Int) ∧ shortD x = true ∧ R (.bool (isFlow P x))
def t__law_is_flow (K : PySem.W.Frag) : TS :=
  (tSeq (tIfS (tOr (tNot (tB (tCB (rIsi K) (tCons (tVar 1) (tCons (tC (.ty "list")) tNil))))) (tTest (tOp (rNeU K) (tCB (rLenA K) (tCons (tVar 1) tNil)) (tOp rDivI (tCB (rLenA K) (tCons (tOp (rIx K) (tVar 0) (tC (.int 2))) tNil)) (tOp (rIx K) (tVar 0) (tC (.int 0)))))))
    (tRet (tC (.bl false)))
    tNext)
    (tRet (tOp (rEqU K) (tLc (iList K (tVar 1)) (gName 2) (tOr (tNot (tB (tCB (rIsi K) (tCons (tVar 2) (tCons (tC (.ty "int")) tNil))))) (tB (tCB (rIsi K) (tCons (tVar 2) (tCons (tC (.ty "bool")) tNil))))) (tVar 2) [2]) (tLst tNil))))
end Cf
namespace Cf
open PySem PySem.Spec PyProof.Rows L2
open Evl (Ex)
local macro_rules | `(tactic| walk_at "d") => `(tactic| first
  | (with_reducible refine DS_seq ?_)
  | (with_reducible refine DS_if ?_)
  | (with_reducible refine DS_ret ?_)
  | (with_reducible refine DS_next ?_)
  | (with_reducible refine DS_retN ?_)
  | (with_reducible refine DS_set ?_)
  | (with_reducible refine DS_drop ?_)
  | (with_reducible refine DS_unpack ?_)
  | (with_reducible refine DS_par ?_)
  | (with_reducible refine DE_int ?_)
  | (with_reducible refine DE_bl ?_)
  | (with_reducible refine DE_non ?_)
  | (with_reducible refine DE_str ?_)
  | (with_reducible refine DE_isi ?_)
  | (with_reducible refine DE_and ?_)
  | (with_reducible refine DE_or ?_)
  | (with_reducible refine DE_not ?_)
  | (with_reducible refine DE_if ?_)
  | (with_reducible refine DE_chain ?_)
  | (with_reducible refine DE_tyIs ?_)
  | (with_reducible refine DE_tyNot ?_)
  | (with_reducible refine DE_call ?_)
  | ((with_reducible refine' DE_lenOw ?k1 ?_); (case k1 => exact rfl))
  | (with_reducible refine DE_cb ?_)
  | (with_reducible refine DE_new (DL_rep (DL_lst ?_)))
  | (with_reducible refine DE_op ?_)
  | (with_reducible refine DE_un ?_)
  | (with_reducible refine DE_tup ?_)
  | (with_reducible refine DT_test ?_)
  | (with_reducible refine DT_B ?_)
  | (with_reducible refine DT_and ?_)
  | (with_reducible refine DT_or ?_)
  | (with_reducible refine DT_not ?_)
  | (with_reducible refine DT_yes ?_)
  | (with_reducible refine DA_nil ?_)
  | (with_reducible refine DA_cons ?_)
  | (with_reducible refine DO_no ?_)
  | (with_reducible refine DO_at ?_)
  | (with_reducible refine DR_minus ?_)
  | (with_reducible refine DR_mod ?_)
  | (with_reducible refine DR_div ?_)
  | (with_reducible refine DR_pow ?_)
  | (with_reducible refine DR_lt ?_)
  | (with_reducible refine DR_le ?_)
  | (with_reducible refine DR_gt ?_)
  | (with_reducible refine DR_ge ?_)
  | (with_reducible refine DR_eq ?_)
  | (with_reducible refine DR_ne ?_)
  | (with_reducible refine DR_isN ?_)
  | (with_reducible refine DR_notN ?_)
  | (with_reducible refine DU_neg ?_)
  | (with_reducible refine DC_len ?_)
  | (with_reducible refine DC_int ?_)
  | (with_reducible refine DC_abs ?_)
  | (with_reducible refine DC_max2 ?_)
  | (with_reducible refine DC_min2 ?_)
  | (with_reducible refine DC_sum ?_)
  | (with_reducible refine DC_all ?_)
  | (with_reducible refine DC_any ?_)
  | (with_reducible refine DC_repr ?_)
  | (with_reducible refine ⟨_, kb_int _, ?_⟩)
  | (with_reducible refine ⟨_, kb_bool _, ?_⟩)
  | (with_reducible refine ⟨_, kb_list _, ?_⟩)
  | (with_reducible refine ⟨_, kb_tuple _, ?_⟩)
  | (with_reducible refine ⟨_, rfl, ?_⟩)
  | (with_reducible refine ⟨_, _, rfl, rfl, ?_⟩)
  | (with_reducible refine DE_callN ?_)
  | (with_reducible refine DE_callX ?_)
  | (with_reducible refine DR_notB ?_)
  | (with_reducible refine DE_emp ?_)
  | (with_reducible refine DE_new (DL_lst ?_))
  | (with_reducible refine DE_new (DL_sl ?_))
  | (with_reducible refine DE_slT ?_)
  | (with_reducible refine DC_list ?_)
  | ((with_reducible refine' DE_callT ?k1 ?_); (case k1 => exact rfl))
  | ((with_reducible refine' DE_var ?k1 ?_); (case k1 => exact rfl))
  | ((with_reducible refine' DE_varO ?k1 ?_); (case k1 => exact rfl))
  | ((with_reducible refine' DE_varN ?k1 ?_); (case k1 => exact rfl)))


/-! ### the greatest mean: no ring is above it, and one has it -/
abbrev dS (s : Int) (P : Nat) (vs : List Int) (k p : Nat) : Int := itm (stepS s P vs (zeros P) k) (p : Int)
/-! fractions -/
abbrev le2 (m o : Int × Int) : Prop := m.1 * o.2 ≤ o.1 * m.2
end Cf
namespace Cf
open PySem PySem.Spec PyProof.Rows L2
open Evl (Ex)
local macro_rules | `(tactic| walk_at "d") => `(tactic| first
  | (with_reducible refine DS_seq ?_)
  | (with_reducible refine DS_if ?_)
  | (with_reducible refine DS_ret ?_)
  | (with_reducible refine DS_next ?_)
  | (with_reducible refine DS_retN ?_)
  | (with_reducible refine DS_set ?_)
  | (with_reducible refine DS_drop ?_)
  | (with_reducible refine DS_unpack ?_)
  | (with_reducible refine DS_par ?_)
  | (with_reducible refine DE_int ?_)
  | (with_reducible refine DE_bl ?_)
  | (with_reducible refine DE_non ?_)
  | (with_reducible refine DE_str ?_)
  | (with_reducible refine DE_isi ?_)
  | (with_reducible refine DE_and ?_)
  | (with_reducible refine DE_or ?_)
  | (with_reducible refine DE_not ?_)
  | (with_reducible refine DE_if ?_)
  | (with_reducible refine DE_chain ?_)
  | (with_reducible refine DE_tyIs ?_)
  | (with_reducible refine DE_tyNot ?_)
  | (with_reducible refine DE_call ?_)
  | ((with_reducible refine' DE_lenOw ?k1 ?_); (case k1 => exact rfl))
  | (with_reducible refine DE_cb ?_)
  | (with_reducible refine DE_new (DL_rep (DL_lst ?_)))
  | (with_reducible refine DE_op ?_)
  | (with_reducible refine DE_un ?_)
  | (with_reducible refine DE_tup ?_)
  | (with_reducible refine DT_test ?_)
  | (with_reducible refine DT_B ?_)
  | (with_reducible refine DT_and ?_)
  | (with_reducible refine DT_or ?_)
  | (with_reducible refine DT_not ?_)
  | (with_reducible refine DT_yes ?_)
  | (with_reducible refine DA_nil ?_)
  | (with_reducible refine DA_cons ?_)
  | (with_reducible refine DO_no ?_)
  | (with_reducible refine DO_at ?_)
  | (with_reducible refine DR_minus ?_)
  | (with_reducible refine DR_mod ?_)
  | (with_reducible refine DR_div ?_)
  | (with_reducible refine DR_pow ?_)
  | (with_reducible refine DR_lt ?_)
  | (with_reducible refine DR_le ?_)
  | (with_reducible refine DR_gt ?_)
  | (with_reducible refine DR_ge ?_)
  | (with_reducible refine DR_eq ?_)
  | (with_reducible refine DR_ne ?_)
  | (with_reducible refine DR_isN ?_)
  | (with_reducible refine DR_notN ?_)
  | (with_reducible refine DU_neg ?_)
  | (with_reducible refine DC_len ?_)
  | (with_reducible refine DC_int ?_)
  | (with_reducible refine DC_abs ?_)
  | (with_reducible refine DC_max2 ?_)
  | (with_reducible refine DC_min2 ?_)
  | (with_reducible refine DC_sum ?_)
  | (with_reducible refine DC_all ?_)
  | (with_reducible refine DC_any ?_)
  | (with_reducible refine DC_repr ?_)
  | (with_reducible refine ⟨_, kb_int _, ?_⟩)
  | (with_reducible refine ⟨_, kb_bool _, ?_⟩)
  | (with_reducible refine ⟨_, kb_list _, ?_⟩)
  | (with_reducible refine ⟨_, kb_tuple _, ?_⟩)
  | (with_reducible refine ⟨_, rfl, ?_⟩)
  | (with_reducible refine ⟨_, _, rfl, rfl, ?_⟩)
  | (with_reducible refine DE_callN ?_)
  | (with_reducible refine DE_callX ?_)
  | (with_reducible refine DR_notB ?_)
  | (with_reducible refine DE_emp ?_)
  | (with_reducible refine DE_new (DL_lst ?_))
  | (with_reducible refine DE_new (DL_sl ?_))
  | (with_reducible refine DE_slT ?_)
  | (with_reducible refine DC_list ?_)
  | ((with_reducible refine' DE_callT ?k1 ?_); (case k1 => exact rfl))
  | ((with_reducible refine' DE_var ?k1 ?_); (case k1 => exact rfl))
  | ((with_reducible refine' DE_varO ?k1 ?_); (case k1 => exact rfl))
  | ((with_reducible refine' DE_varN ?k1 ?_); (case k1 => exact rfl)))


/-! ### the flow bounds the weight -/
/-! one has it -/
end Cf
namespace Cf
open PySem PySem.Spec PyProof.Rows L2
open Evl (Ex)
local macro_rules | `(tactic| walk_at "d") => `(tactic| first
  | (with_reducible refine DS_seq ?_)
  | (with_reducible refine DS_if ?_)
  | (with_reducible refine DS_ret ?_)
  | (with_reducible refine DS_next ?_)
  | (with_reducible refine DS_retN ?_)
  | (with_reducible refine DS_set ?_)
  | (with_reducible refine DS_drop ?_)
  | (with_reducible refine DS_unpack ?_)
  | (with_reducible refine DS_par ?_)
  | (with_reducible refine DE_int ?_)
  | (with_reducible refine DE_bl ?_)
  | (with_reducible refine DE_non ?_)
  | (with_reducible refine DE_str ?_)
  | (with_reducible refine DE_isi ?_)
  | (with_reducible refine DE_and ?_)
  | (with_reducible refine DE_or ?_)
  | (with_reducible refine DE_not ?_)
  | (with_reducible refine DE_if ?_)
  | (with_reducible refine DE_chain ?_)
  | (with_reducible refine DE_tyIs ?_)
  | (with_reducible refine DE_tyNot ?_)
  | (with_reducible refine DE_call ?_)
  | ((with_reducible refine' DE_lenOw ?k1 ?_); (case k1 => exact rfl))
  | (with_reducible refine DE_cb ?_)
  | (with_reducible refine DE_new (DL_rep (DL_lst ?_)))
  | (with_reducible refine DE_op ?_)
  | (with_reducible refine DE_un ?_)
  | (with_reducible refine DE_tup ?_)
  | (with_reducible refine DT_test ?_)
  | (with_reducible refine DT_B ?_)
  | (with_reducible refine DT_and ?_)
  | (with_reducible refine DT_or ?_)
  | (with_reducible refine DT_not ?_)
  | (with_reducible refine DT_yes ?_)
  | (with_reducible refine DA_nil ?_)
  | (with_reducible refine DA_cons ?_)
  | (with_reducible refine DO_no ?_)
  | (with_reducible refine DO_at ?_)
  | (with_reducible refine DR_minus ?_)
  | (with_reducible refine DR_mod ?_)
  | (with_reducible refine DR_div ?_)
  | (with_reducible refine DR_pow ?_)
  | (with_reducible refine DR_lt ?_)
  | (with_reducible refine DR_le ?_)
  | (with_reducible refine DR_gt ?_)
  | (with_reducible refine DR_ge ?_)
  | (with_reducible refine DR_eq ?_)
  | (with_reducible refine DR_ne ?_)
  | (with_reducible refine DR_isN ?_)
  | (with_reducible refine DR_notN ?_)
  | (with_reducible refine DU_neg ?_)
  | (with_reducible refine DC_len ?_)
  | (with_reducible refine DC_int ?_)
  | (with_reducible refine DC_abs ?_)
  | (with_reducible refine DC_max2 ?_)
  | (with_reducible refine DC_min2 ?_)
  | (with_reducible refine DC_sum ?_)
  | (with_reducible refine DC_all ?_)
  | (with_reducible refine DC_any ?_)
  | (with_reducible refine DC_repr ?_)
  | (with_reducible refine ⟨_, kb_int _, ?_⟩)
  | (with_reducible refine ⟨_, kb_bool _, ?_⟩)
  | (with_reducible refine ⟨_, kb_list _, ?_⟩)
  | (with_reducible refine ⟨_, kb_tuple _, ?_⟩)
  | (with_reducible refine ⟨_, rfl, ?_⟩)
  | (with_reducible refine ⟨_, _, rfl, rfl, ?_⟩)
  | (with_reducible refine DE_callN ?_)
  | (with_reducible refine DE_callX ?_)
  | (with_reducible refine DR_notB ?_)
  | (with_reducible refine DE_emp ?_)
  | (with_reducible refine DE_new (DL_lst ?_))
  | (with_reducible refine DE_new (DL_sl ?_))
  | (with_reducible refine DE_slT ?_)
  | (with_reducible refine DC_list ?_)
  | ((with_reducible refine' DE_callT ?k1 ?_); (case k1 => exact rfl))
  | ((with_reducible refine' DE_var ?k1 ?_); (case k1 => exact rfl))
  | ((with_reducible refine' DE_varO ?k1 ?_); (case k1 => exact rfl))
  | ((with_reducible refine' DE_varN ?k1 ?_); (case k1 => exact rfl)))


/-! ### a ring has the greatest mean -/
end Cf
namespace Cf
open PySem PySem.Spec PyProof.Rows L2
open Evl (Ex)
local macro_rules | `(tactic| walk_at "d") => `(tactic| first
  | (with_reducible refine DS_seq ?_)
  | (with_reducible refine DS_if ?_)
  | (with_reducible refine DS_ret ?_)
  | (with_reducible refine DS_next ?_)
  | (with_reducible refine DS_retN ?_)
  | (with_reducible refine DS_set ?_)
  | (with_reducible refine DS_drop ?_)
  | (with_reducible refine DS_unpack ?_)
  | (with_reducible refine DS_par ?_)
  | (with_reducible refine DE_int ?_)
  | (with_reducible refine DE_bl ?_)
  | (with_reducible refine DE_non ?_)
  | (with_reducible refine DE_str ?_)
  | (with_reducible refine DE_isi ?_)
  | (with_reducible refine DE_and ?_)
  | (with_reducible refine DE_or ?_)
  | (with_reducible refine DE_not ?_)
  | (with_reducible refine DE_if ?_)
  | (with_reducible refine DE_chain ?_)
  | (with_reducible refine DE_tyIs ?_)
  | (with_reducible refine DE_tyNot ?_)
  | (with_reducible refine DE_call ?_)
  | ((with_reducible refine' DE_lenOw ?k1 ?_); (case k1 => exact rfl))
  | (with_reducible refine DE_cb ?_)
  | (with_reducible refine DE_new (DL_rep (DL_lst ?_)))
  | (with_reducible refine DE_op ?_)
  | (with_reducible refine DE_un ?_)
  | (with_reducible refine DE_tup ?_)
  | (with_reducible refine DT_test ?_)
  | (with_reducible refine DT_B ?_)
  | (with_reducible refine DT_and ?_)
  | (with_reducible refine DT_or ?_)
  | (with_reducible refine DT_not ?_)
  | (with_reducible refine DT_yes ?_)
  | (with_reducible refine DA_nil ?_)
  | (with_reducible refine DA_cons ?_)
  | (with_reducible refine DO_no ?_)
  | (with_reducible refine DO_at ?_)
  | (with_reducible refine DR_minus ?_)
  | (with_reducible refine DR_mod ?_)
  | (with_reducible refine DR_div ?_)
  | (with_reducible refine DR_pow ?_)
  | (with_reducible refine DR_lt ?_)
  | (with_reducible refine DR_le ?_)
  | (with_reducible refine DR_gt ?_)
  | (with_reducible refine DR_ge ?_)
  | (with_reducible refine DR_eq ?_)
  | (with_reducible refine DR_ne ?_)
  | (with_reducible refine DR_isN ?_)
  | (with_reducible refine DR_notN ?_)
  | (with_reducible refine DU_neg ?_)
  | (with_reducible refine DC_len ?_)
  | (with_reducible refine DC_int ?_)
  | (with_reducible refine DC_abs ?_)
  | (with_reducible refine DC_max2 ?_)
  | (with_reducible refine DC_min2 ?_)
  | (with_reducible refine DC_sum ?_)
  | (with_reducible refine DC_all ?_)
  | (with_reducible refine DC_any ?_)
  | (with_reducible refine DC_repr ?_)
  | (with_reducible refine ⟨_, kb_int _, ?_⟩)
  | (with_reducible refine ⟨_, kb_bool _, ?_⟩)
  | (with_reducible refine ⟨_, kb_list _, ?_⟩)
  | (with_reducible refine ⟨_, kb_tuple _, ?_⟩)
  | (with_reducible refine ⟨_, rfl, ?_⟩)
  | (with_reducible refine ⟨_, _, rfl, rfl, ?_⟩)
  | (with_reducible refine DE_callN ?_)
  | (with_reducible refine DR_notB ?_)
  | (with_reducible refine DE_emp ?_)
  | (with_reducible refine DE_new (DL_lst ?_))
  | (with_reducible refine DE_new (DL_sl ?_))
  | (with_reducible refine DE_slT ?_)
  | (with_reducible refine DC_list ?_)
  | ((with_reducible refine' DE_callT ?k1 ?_); (case k1 => exact rfl))
  | ((with_reducible refine' DE_var ?k1 ?_); (case k1 => exact rfl))
  | ((with_reducible refine' DE_varO ?k1 ?_); (case k1 => exact rfl))
  | ((with_reducible refine' DE_varN ?k1 ?_); (case k1 => exact rfl)))


def W_sums_behind_zeros (ds : List PyData) (R : PyData → Prop) : Prop := ∃ (s : Int) (l : Nat) (vs : List Int), ds = [wtD s (l + 1) vs] ∧ Wt s (l + 1) vs ∧ R (LI ((List.range (s ^ l).toNat).map fun (n : Nat) => hts s vs l n))
def t_sums_behind_zeros (K : PySem.W.Frag) : TS :=
  (tSeq (tAsg (tVar 0) (gTup K 3 (gNames [1, 2, 3])))
    (tSeq (tAsg (tLst tNil) (gName 4))
    (tSeq (tFor (iRg1 (tCons (tOp rDivI (tCB (rLenA K) (tCons (tVar 3) tNil)) (tVar 1)) tNil)) (gName 5)
    (tSeq (tAsg (tC (.int 0)) (gName 6))
    (tSeq (tAsg (tVar 5) (gName 7))
    (tSeq (tFor (iRg1 (tCons (tOp rMinus (tVar 2) (tC (.int 1))) tNil)) (gName 8)
    (tSeq (tAsg (tOp (rPlus K) (tVar 6) (tOp (rIx K) (tVar 3) (tVar 7))) (gName 6))
    (tAsg (tOp rDivI (tVar 7) (tVar 1)) (gName 7))))
    (tDrop (tBM K "list" rAppend (tVar 4) (tCons (tVar 6) tNil)))))))
    (tRet (tVar 4)))))
theorem ds_sums_behind_zeros : Keeps W_sums_behind_zeros 9 t_sums_behind_zeros := by
  intro K ds R h
  obtain ⟨s, l, vs, rfl, hw, q⟩ := h
  have s2 := hw.s2
  have s4 := hw.s4
  have hp : 0 < s := by omega
  have pl := pow_pos' hp l
  have ln := hw.ln
  have le := hw.le
  have e1 : s ^ (l + 1) = s ^ l * s := Int.pow_succ ..
  have dv : (vs.length : Int) / s = s ^ l := by rw [← ln, e1, Int.mul_ediv_cancel _ (by omega)]
  have lt : s ^ l ≤ vs.length := by
    rw [← ln, e1]
    have : s ^ l * 1 ≤ s ^ l * s := Int.mul_le_mul_of_nonneg_left (by omega) (Int.le_of_lt pl)
    omega
  refine ⟨by simp, ?_⟩
  show DS K _ (t_sums_behind_zeros K) [.sh (wtD s (l + 1) vs), .no, .no, .no, .no, .no, .no, .no, .no] _ _ _ _
  unfold t_sums_behind_zeros
  refine DS_seq (DS_unpack ?_)
  repeat walk_at "d"
  refine ⟨rfl, rfl, ?_⟩
  refine DS_seq (DS_setOw (DL_lst (DA_nil ⟨by decide, ?_⟩)))
  refine DS_seq (DS_forR1 ?_)
  repeat walk_at "d"
  refine ⟨wide_div (b := 8) (by omega) (by omega) (by decide) (by decide), ?_⟩
  rw [List.length_map, dv]
  repeat walk_at "d"
  refine ⟨fun k ρ => ∃ z5 z6 z7 z8, ρ = [.sh (wtD s (l + 1) vs), .sh (.int s), .sh (.int ((l + 1 : Nat) : Int)), .sh (LI vs), .ow (((List.range k).map fun (n : Nat) => hts s vs l n).map .int), z5, z6, z7, z8], ⟨_, _, _, _, rfl⟩, fun k ρ hk hI => ?_, fun ρ hI => ?_⟩
  · obtain ⟨z5, z6, z7, z8, rfl⟩ := hI
    have hk : (k : Int) < s ^ l := by omega
    refine DS_seq (DS_set (DE_int ?_))
    refine DS_seq (DS_set (DE_var (by rfl) ?_))
    refine DS_seq (DS_forR1 ?_)
    repeat walk_at "d"
    rw [show (((l + 1 : Nat) : Int) - 1).toNat = l by omega, Int.zero_add]
    refine ⟨fun j ρ => ∃ (tot m : Int) (z : Sl), tot + hts s vs (l - j) m = hts s vs l k ∧ 0 ≤ m ∧ m ≤ k ∧ ρ = [.sh (wtD s (l + 1) vs), .sh (.int s), .sh (.int ((l + 1 : Nat) : Int)), .sh (LI vs), .ow (((List.range k).map fun (n : Nat) => hts s vs l n).map .int), .sh (.int k), .sh (.int tot), .sh (.int m), z], ⟨0, k, z8, by rw [Int.zero_add]; rfl, by omega, by omega, rfl⟩, fun j ρ hj hI => ?_, fun ρ hI => ?_⟩
    · obtain ⟨tot, m, z, ht, m0, m1, rfl⟩ := hI
      repeat walk_at "d"
      refine DR_ix (.inl ⟨_, _, _, rfl, rfl, atI_ok m0 (by omega), DR_plusI ⟨_, _, rfl, rfl, ?_⟩⟩)
      repeat walk_at "d"
      refine ⟨wide_div (b := 8) (by omega) (by omega) (by decide) (by decide), tot + itm vs m, m / s, .sh (.int (0 + (j : Int))), ?_, Int.ediv_nonneg m0 (by omega), ?_, rfl⟩
      · rw [← ht, show l - j = (l - (j + 1)) + 1 by omega]
        show tot + itm vs m + hts s vs (l - (j + 1)) (m / s) = tot + (itm vs m + hts s vs (l - (j + 1)) (m / s))
        omega
      · have : m / s ≤ m := Int.ediv_le_self _ m0
        omega
    · obtain ⟨tot, m, z, ht, m0, m1, rfl⟩ := hI
      rw [Nat.sub_self] at ht
      have ht : tot + 0 = hts s vs l k := ht
      refine DS_append (by rfl) (by rw [List.length_map, List.length_map, List.length_range]; omega) ?_
      repeat walk_at "d"
      refine ⟨.sh (.int k), .sh (.int tot), .sh (.int m), z, ?_⟩
      rw [List.range_succ, List.map_append, List.map_append, show tot = hts s vs l k by omega]
      rfl
  · obtain ⟨z5, z6, z7, z8, rfl⟩ := hI
    exact DS_retOw (i := 4) (by rfl) q

/-- whether the last sign plays a part -/
def lastM (s : Int) (vs : List Int) : Bool := (List.range vs.length).any fun (k : Nat) => !(itm vs k == itm vs ((k : Int) - (k : Int) % s))
def W_last_matters (ds : List PyData) (R : PyData → Prop) : Prop := ∃ (s : Int) (vs : List Int), ds = [.int s, LI vs] ∧ 0 < s ∧ vs.length ≤ 50000 ∧ R (.bool (lastM s vs))
def t_last_matters (K : PySem.W.Frag) : TS :=
  (tRet (tCB (rAny K) (tCons (tLc (iEnum K (tCons (tVar 1) tNil)) (gTup K 2 (gNames [2, 3])) tYes (tOp (rNeU K) (tVar 3) (tOp (rIx K) (tVar 1) (tOp rMinus (tVar 2) (tOp rModI (tVar 2) (tVar 0))))) [2, 3]) tNil)))
theorem ds_last_matters : Keeps W_last_matters 4 t_last_matters := by
  intro K ds R h
  obtain ⟨s, vs, rfl, hs, hl, q⟩ := h
  refine ⟨by simp, ?_⟩
  show DS K _ (t_last_matters K) [.sh (.int s), .sh (LI vs), .no, .no] _ _ _ _
  unfold t_last_matters
  refine DS_ret (DE_cb (DA_cons (DE_new (DL_lcE (by decide) ?_))))
  repeat walk_at "d"
  refine ⟨fun k acc => acc = ((List.range k).map fun (k : Nat) => !(itm vs k == itm vs ((k : Int) - (k : Int) % s))).map .bool, rfl, fun k d acc hd e => ?_, fun acc e => ?_⟩
  · obtain ⟨v, hv, rfl⟩ := map_at hd
    have hk : k < vs.length := (List.getElem?_eq_some_iff.mp hv).1
    subst e
    refine ⟨by rw [List.length_map, List.length_map, List.length_range]; omega, DT_yes (iteT ?_)⟩
    repeat walk_at "d"
    refine ⟨hs, ?_⟩
    repeat walk_at "d"
    have b0 := Int.emod_nonneg (k : Int) (show s ≠ 0 by omega)
    have b1 : (k : Int) % s ≤ k := by
      have w1 := Int.mul_ediv_add_emod (k : Int) s
      have w2 : 0 ≤ s * ((k : Int) / s) := Int.mul_nonneg (by omega) (Int.ediv_nonneg (by omega) (by omega))
      omega
    refine DR_ix (.inl ⟨_, _, _, rfl, rfl, atI_ok (by omega) (by omega), DR_ne ⟨shp_int _, shp_int _, ?_⟩⟩)
    show _ = ((List.range (k + 1)).map fun (k : Nat) => !(itm vs k == itm vs ((k : Int) - (k : Int) % s))).map PyData.bool
    rw [List.range_succ, List.map_append, List.map_append]
    have ev : itm vs (k : Int) = v := by
      unfold itm
      rw [Int.toNat_natCast, List.getD_eq_getElem?_getD, hv]
      rfl
    show _ ++ [PyData.bool (!(v == vs.getD ((k : Int) - (k : Int) % s).toNat 0))] = _ ++ [PyData.bool (!(itm vs k == itm vs ((k : Int) - (k : Int) % s)))]
    rw [ev]
    rfl
  · subst e
    repeat walk_at "d"
    rw [List.length_map]
    have e : ((List.range vs.length).map fun (k : Nat) => !(itm vs k == itm vs ((k : Int) - (k : Int) % s))).any id = lastM s vs := by
      unfold lastM
      rw [List.any_map]
      rfl
    rw [e]
    exact q
end Cf
namespace Cf
open PySem PySem.Spec PyProof.Rows L2
open Evl (Ex)
local macro_rules | `(tactic| walk_at "d") => `(tactic| first
  | (with_reducible refine DS_seq ?_)
  | (with_reducible refine DS_if ?_)
  | (with_reducible refine DS_ret ?_)
  | (with_reducible refine DS_next ?_)
  | (with_reducible refine DS_retN ?_)
  | (with_reducible refine DS_set ?_)
  | (with_reducible refine DS_drop ?_)
  | (with_reducible refine DS_unpack ?_)
  | (with_reducible refine DS_par ?_)
  | (with_reducible refine DE_int ?_)
  | (with_reducible refine DE_bl ?_)
  | (with_reducible refine DE_non ?_)
  | (with_reducible refine DE_str ?_)
  | (with_reducible refine DE_isi ?_)
  | (with_reducible refine DE_and ?_)
  | (with_reducible refine DE_or ?_)
  | (with_reducible refine DE_not ?_)
  | (with_reducible refine DE_if ?_)
  | (with_reducible refine DE_chain ?_)
  | (with_reducible refine DE_tyIs ?_)
  | (with_reducible refine DE_tyNot ?_)
  | (with_reducible refine DE_call ?_)
  | ((with_reducible refine' DE_lenOw ?k1 ?_); (case k1 => exact rfl))
  | (with_reducible refine DE_cb ?_)
  | (with_reducible refine DE_new (DL_rep (DL_lst ?_)))
  | (with_reducible refine DE_op ?_)
  | (with_reducible refine DE_un ?_)
  | (with_reducible refine DE_tup ?_)
  | (with_reducible refine DT_test ?_)
  | (with_reducible refine DT_B ?_)
  | (with_reducible refine DT_and ?_)
  | (with_reducible refine DT_or ?_)
  | (with_reducible refine DT_not ?_)
  | (with_reducible refine DT_yes ?_)
  | (with_reducible refine DA_nil ?_)
  | (with_reducible refine DA_cons ?_)
  | (with_reducible refine DO_no ?_)
  | (with_reducible refine DO_at ?_)
  | (with_reducible refine DR_minus ?_)
  | (with_reducible refine DR_mod ?_)
  | (with_reducible refine DR_div ?_)
  | (with_reducible refine DR_pow ?_)
  | (with_reducible refine DR_lt ?_)
  | (with_reducible refine DR_le ?_)
  | (with_reducible refine DR_gt ?_)
  | (with_reducible refine DR_ge ?_)
  | (with_reducible refine DR_eq ?_)
  | (with_reducible refine DR_ne ?_)
  | (with_reducible refine DR_isN ?_)
  | (with_reducible refine DR_notN ?_)
  | (with_reducible refine DU_neg ?_)
  | (with_reducible refine DC_len ?_)
  | (with_reducible refine DC_int ?_)
  | (with_reducible refine DC_abs ?_)
  | (with_reducible refine DC_max2 ?_)
  | (with_reducible refine DC_min2 ?_)
  | (with_reducible refine DC_sum ?_)
  | (with_reducible refine DC_all ?_)
  | (with_reducible refine DC_any ?_)
  | (with_reducible refine DC_repr ?_)
  | (with_reducible refine ⟨_, kb_int _, ?_⟩)
  | (with_reducible refine ⟨_, kb_bool _, ?_⟩)
  | (with_reducible refine ⟨_, kb_list _, ?_⟩)
  | (with_reducible refine ⟨_, kb_tuple _, ?_⟩)
  | (with_reducible refine ⟨_, rfl, ?_⟩)
  | (with_reducible refine ⟨_, _, rfl, rfl, ?_⟩)
  | (with_reducible refine DE_callN ?_)
  | (with_reducible refine DR_notB ?_)
  | (with_reducible refine DE_emp ?_)
  | (with_reducible refine DE_new (DL_lst ?_))
  | (with_reducible refine DE_new (DL_sl ?_))
  | (with_reducible refine DE_slT ?_)
  | (with_reducible refine DC_list ?_)
  | ((with_reducible refine' DE_callT ?k1 ?_); (case k1 => exact rfl))
  | ((with_reducible refine' DE_var ?k1 ?_); (case k1 => exact rfl))
  | ((with_reducible refine' DE_varO ?k1 ?_); (case k1 => exact rfl))
  | ((with_reducible refine' DE_varN ?k1 ?_); (case k1 => exact rfl)))




theorem stepV_map {α : Type} (f : α → PyData) (k : Int) (xs : List α) : stepV k (xs.map f) = (stepV k xs).map f := by
  unfold stepV
  rw [List.length_map, List.map_filterMap]
  congr 1
  funext i
  rw [List.getElem?_map]
/-- as long as the last sign plays no part it is left out -/
def red (s : Int) : Nat → List Int → Nat × List Int
  | 0, vs => (0, vs)
  | 1, vs => (1, vs)
  | l + 2, vs => if lastM s vs = true then (l + 2, vs) else red s (l + 1) (stepV s vs)
def plainOf (s : Int) (l : Nat) (vs : List Int) : Nat × List Int := red s l (shiftT s (l - 1) vs (hts s vs (l - 1)))
def W_plain (ds : List PyData) (R : PyData → Prop) : Prop := ∃ (s : Int) (l : Nat) (vs : List Int), ds = [wtD s l vs] ∧ Wt s l vs ∧ R (wtD s (plainOf s l vs).1 (plainOf s l vs).2)
def t_plain (K : PySem.W.Frag) : TS :=
  (tSeq (tDrop (tCall (spP K W_check_weight) [] E0 (tCons (tVar 0) tNil)))
    (tSeq (tAsg (tVar 0) (gTup K 3 (gNames [1, 2, 3])))
    (tSeq (tAsg (tCall (spP K W_sums_behind_zeros) [] E0 (tCons (tVar 0) tNil)) (gName 4))
    (tSeq (tAsg (tLc (iEnum K (tCons (tVar 3) tNil)) (gTup K 2 (gNames [6, 7])) tYes (tOp rMinus (tOp (rPlus K) (tVar 7) (tOp (rIx K) (tVar 4) (tOp rDivI (tVar 6) (tVar 1)))) (tOp (rIx K) (tVar 4) (tOp rModI (tVar 6) (tCB (rLenA K) (tCons (tVar 4) tNil))))) [6, 7]) (gName 5))
    (tSeq (tWhile (tAnd (tTest (tOp rGtI (tVar 2) (tC (.int 1)))) (tNot (tB (tCall (spP K W_last_matters) [] E0 (tCons (tVar 1) (tCons (tVar 5) tNil))))))
    (tSeq (tAsg (tStepL K (tVar 5) (tVar 1)) (gName 5))
    (tAsg (tOp rMinus (tVar 2) (tC (.int 1))) (gName 2))))
    (tRet (tTup (tCons (tVar 1) (tCons (tVar 2) (tCons (tVar 5) tNil))))))))))
theorem ds_plain : KeepsN W_plain 8 t_plain := by
  intro K ds R h
  obtain ⟨s, l, vs, rfl, hw, q⟩ := h
  have s2 := hw.s2
  have s4 := hw.s4
  have hp : 0 < s := by omega
  have hl := hw.len
  obtain ⟨m, rfl⟩ : ∃ m, l = m + 1 := ⟨l - 1, by have := hw.l1; omega⟩
  have pl := pow_pos' hp m
  have ln := hw.ln
  have e1 : s ^ (m + 1) = s ^ m * s := Int.pow_succ ..
  refine ⟨by simp, ?_⟩
  show DSN K (t_plain K) [.sh (wtD s (m + 1) vs), .no, .no, .no, .no, .no, .no, .no] _
  unfold t_plain
  refine DSN_seq ?_
  repeat walk_at "d"
  refine ⟨_, rfl, wt_short hw, wt_is hw, DSN_seq ?_⟩
  repeat walk_at "d"
  refine ⟨rfl, rfl, DSN_seq ?_⟩
  repeat walk_at "d"
  refine ⟨s, m, vs, rfl, hw, ?_⟩
  refine DSN_seq (DS_setNw (DL_lcE (by decide) ?_))
  repeat walk_at "d"
  refine ⟨fun k acc => acc = ((List.range k).map fun (n : Nat) => itm vs n + hts s vs m ((n : Int) / s) - hts s vs m ((n : Int) % s ^ m)).map .int, rfl, fun k d acc hd e => ?_, fun acc e => ?_⟩
  · obtain ⟨v, hv, rfl⟩ := map_at hd
    have hk : k < vs.length := (List.getElem?_eq_some_iff.mp hv).1
    have hk' : (k : Int) < s ^ m * s := by omega
    subst e
    refine ⟨by rw [List.length_map, List.length_map, List.length_range]; omega, DT_yes (iteT ?_)⟩
    have q0 : (0 : Int) ≤ k / s := Int.ediv_nonneg (by omega) (by omega)
    have q1 : (k : Int) / s < s ^ m := Int.ediv_lt_of_lt_mul hp hk'
    have r0 := Int.emod_nonneg (k : Int) (show s ^ m ≠ 0 by omega)
    have r1 := Int.emod_lt_of_pos (k : Int) pl
    have at_h : ∀ z : Int, 0 ≤ z → z < s ^ m → atI (((List.range (s ^ m).toNat).map fun (n : Nat) => hts s vs m n).map PyData.int) z = some (.int (hts s vs m z)) := fun z z0 z1 => by
      rw [atI_ok z0 (by rw [List.length_map, List.length_range]; omega)]
      have := itm_map (f := fun (n : Nat) => hts s vs m n) (m := (s ^ m).toNat) z0 (by omega)
      unfold itm at this
      rw [this]
      congr 3
      omega
    repeat walk_at "d"
    refine ⟨wide_div (b := 8) (by omega) (by omega) (by decide) (by decide), DR_ix (.inl ⟨_, _, _, rfl, rfl, at_h _ q0 q1, DR_plusI ⟨_, _, rfl, rfl, ?_⟩⟩)⟩
    repeat walk_at "d"
    rw [List.length_map, List.length_map, List.length_range, show (((s ^ m).toNat : Nat) : Int) = s ^ m by omega]
    refine ⟨pl, DR_ix (.inl ⟨_, _, _, rfl, rfl, at_h _ r0 r1, ?_⟩)⟩
    repeat walk_at "d"
    show _ = ((List.range (k + 1)).map fun (n : Nat) => itm vs n + hts s vs m ((n : Int) / s) - hts s vs m ((n : Int) % s ^ m)).map PyData.int
    rw [List.range_succ, List.map_append, List.map_append]
    have ev : itm vs (k : Int) = v := by
      unfold itm
      rw [Int.toNat_natCast, List.getD_eq_getElem?_getD, hv]
      rfl
    show _ = _ ++ [PyData.int (itm vs (k : Int) + hts s vs m ((k : Int) / s) - hts s vs m ((k : Int) % s ^ m))]
    rw [ev]
  · subst e
    rw [List.length_map]
    have lsh : (shiftT s m vs (hts s vs m)).length = vs.length := by
      unfold shiftT
      rw [List.length_map, List.length_range]
    refine ⟨by rw [List.length_map, List.length_map, List.length_range]; omega, ?_⟩
    refine DSN_seq (DS_while (fun k ρ => ∃ (us : List Int), 1 ≤ k ∧ us.length ≤ 1024 ∧ red s k us = plainOf s (m + 1) vs ∧ ∃ z6 z7, ρ = [.sh (wtD s (m + 1) vs), .sh (.int s), .sh (.int (k : Int)), .sh (LI vs), .sh (LI ((List.range (s ^ m).toNat).map fun (n : Nat) => hts s vs m n)), .nw (LI us), z6, z7]) (m + 1) ⟨shiftT s m vs (hts s vs m), by omega, by omega, rfl, .no, .no, by rw [show (vs.map PyData.int).length = vs.length from List.length_map ..]; rfl⟩ fun k ρ hI => ?_)
    obtain ⟨us, k1, lu, hr, z6, z7, rfl⟩ := hI
    have fin : (k = 1 ∨ lastM s us = true) → DSN K (tRet (tTup (tCons (tVar 1) (tCons (tVar 2) (tCons (tVar 5) tNil))))) [.sh (wtD s (m + 1) vs), .sh (.int s), .sh (.int (k : Int)), .sh (LI vs), .sh (LI ((List.range (s ^ m).toNat).map fun (n : Nat) => hts s vs m n)), .nw (LI us), z6, z7] R := fun hk => by
      have er : red s k us = (k, us) := by
        match k, k1, hk with
        | 1, _, _ => rfl
        | j + 2, _, hk =>
          rcases hk with hk | hk
          · omega
          · show (if lastM s us = true then _ else _) = _
            rw [if_pos hk]
      rw [← hr, er] at q
      refine DSN_ret (DAN_cons (DE_var (by rfl) (DAN_cons (DE_var (by rfl) (DAN_last (by rfl) ⟨by simp, q⟩)))))
    repeat walk_at "d"
    refine ite2 (fun h => ?_) fun h => ?_
    · have h : (1 : Int) < k := of_decide_eq_true h
      repeat walk_at "d"
      refine ⟨s, us, rfl, hp, by omega, _, rfl, ?_⟩
      cases hm : lastM s us with
      | true => exact iteF (fin (.inr hm))
      | false =>
        refine iteT ?_
        refine DS_seq (DS_setNw (DL_step (DE_varN (by rfl) (DE_var (by rfl) ⟨_, _, rfl, rfl, hp, ?_⟩))))
        rw [stepV_map]
        have ls := step_len s hp us
        refine ⟨by rw [List.length_map]; omega, ?_⟩
        repeat walk_at "d"
        obtain ⟨j, rfl⟩ : ∃ j, k = j + 2 := ⟨k - 2, by omega⟩
        refine ⟨j + 1, by omega, stepV s us, by omega, by omega, ?_, z6, z7, ?_⟩
        · rw [← hr]
          show _ = (if lastM s us = true then _ else _)
          rw [if_neg (by rw [hm]; exact Bool.false_ne_true)]
        · have : (((j + 2 : Nat) : Int) - 1) = ((j + 1 : Nat) : Int) := by omega
          rw [this]
          rfl
    · exact fin (.inl (by
        have : ¬ (1 : Int) < k := fun z => h (decide_eq_true z)
        omega))
end Cf
namespace Cf
open PySem PySem.Spec PyProof.Rows L2
open Evl (Ex)
local macro_rules | `(tactic| walk_at "d") => `(tactic| first
  | (with_reducible refine DS_seq ?_)
  | (with_reducible refine DS_if ?_)
  | (with_reducible refine DS_ret ?_)
  | (with_reducible refine DS_next ?_)
  | (with_reducible refine DS_retN ?_)
  | (with_reducible refine DS_set ?_)
  | (with_reducible refine DS_drop ?_)
  | (with_reducible refine DS_unpack ?_)
  | (with_reducible refine DS_par ?_)
  | (with_reducible refine DE_int ?_)
  | (with_reducible refine DE_bl ?_)
  | (with_reducible refine DE_non ?_)
  | (with_reducible refine DE_str ?_)
  | (with_reducible refine DE_isi ?_)
  | (with_reducible refine DE_and ?_)
  | (with_reducible refine DE_or ?_)
  | (with_reducible refine DE_not ?_)
  | (with_reducible refine DE_if ?_)
  | (with_reducible refine DE_chain ?_)
  | (with_reducible refine DE_tyIs ?_)
  | (with_reducible refine DE_tyNot ?_)
  | (with_reducible refine DE_call ?_)
  | ((with_reducible refine' DE_lenOw ?k1 ?_); (case k1 => exact rfl))
  | (with_reducible refine DE_cb ?_)
  | (with_reducible refine DE_new (DL_rep (DL_lst ?_)))
  | (with_reducible refine DE_op ?_)
  | (with_reducible refine DE_un ?_)
  | (with_reducible refine DE_tup ?_)
  | (with_reducible refine DT_test ?_)
  | (with_reducible refine DT_B ?_)
  | (with_reducible refine DT_and ?_)
  | (with_reducible refine DT_or ?_)
  | (with_reducible refine DT_not ?_)
  | (with_reducible refine DT_yes ?_)
  | (with_reducible refine DA_nil ?_)
  | (with_reducible refine DA_cons ?_)
  | (with_reducible refine DO_no ?_)
  | (with_reducible refine DO_at ?_)
  | (with_reducible refine DR_minus ?_)
  | (with_reducible refine DR_mod ?_)
  | (with_reducible refine DR_div ?_)
  | (with_reducible refine DR_pow ?_)
  | (with_reducible refine DR_lt ?_)
  | (with_reducible refine DR_le ?_)
  | (with_reducible refine DR_gt ?_)
  | (with_reducible refine DR_ge ?_)
  | (with_reducible refine DR_eq ?_)
  | (with_reducible refine DR_ne ?_)
  | (with_reducible refine DR_isN ?_)
  | (with_reducible refine DR_notN ?_)
  | (with_reducible refine DU_neg ?_)
  | (with_reducible refine DC_len ?_)
  | (with_reducible refine DC_int ?_)
  | (with_reducible refine DC_abs ?_)
  | (with_reducible refine DC_max2 ?_)
  | (with_reducible refine DC_min2 ?_)
  | (with_reducible refine DC_sum ?_)
  | (with_reducible refine DC_all ?_)
  | (with_reducible refine DC_any ?_)
  | (with_reducible refine DC_repr ?_)
  | (with_reducible refine ⟨_, kb_int _, ?_⟩)
  | (with_reducible refine ⟨_, kb_bool _, ?_⟩)
  | (with_reducible refine ⟨_, kb_list _, ?_⟩)
  | (with_reducible refine ⟨_, kb_tuple _, ?_⟩)
  | (with_reducible refine ⟨_, rfl, ?_⟩)
  | (with_reducible refine ⟨_, _, rfl, rfl, ?_⟩)
  | (with_reducible refine DE_callN ?_)
  | (with_reducible refine DR_notB ?_)
  | (with_reducible refine DE_emp ?_)
  | (with_reducible refine DE_new (DL_lst ?_))
  | (with_reducible refine DE_new (DL_sl ?_))
  | (with_reducible refine DE_slT ?_)
  | (with_reducible refine DC_list ?_)
  | ((with_reducible refine' DE_callT ?k1 ?_); (case k1 => exact rfl))
  | ((with_reducible refine' DE_var ?k1 ?_); (case k1 => exact rfl))
  | ((with_reducible refine' DE_varO ?k1 ?_); (case k1 => exact rfl))
  | ((with_reducible refine' DE_varN ?k1 ?_); (case k1 => exact rfl)))




/-- the values for longer words -/
def wideV (s : Int) : Nat → List Int → List Int
  | 0, vs => vs
  | k + 1, vs => (List.range ((wideV s k vs).length * s.toNat)).map fun (n : Nat) => itm (wideV s k vs) ((n : Int) / s)
theorem wide_len {s : Int} (h : 0 < s) {l : Nat} {vs : List Int} (hl : s ^ l = (vs.length : Int)) : ∀ k : Nat, s ^ (l + k) = ((wideV s k vs).length : Int)
  | 0 => hl
  | k + 1 => by
    show _ = (((List.range ((wideV s k vs).length * s.toNat)).map fun (n : Nat) => itm (wideV s k vs) ((n : Int) / s)).length : Int)
    rw [List.length_map, List.length_range, ← Nat.add_assoc, Int.pow_succ, wide_len h hl k]
    push_cast
    rw [Int.toNat_of_nonneg (by omega)]
def W_values_at_span (ds : List PyData) (R : PyData → Prop) : Prop := ∃ (s : Int) (l : Nat) (vs : List Int) (L : Nat), ds = [wtD s l vs, .int L] ∧ Wt s l vs ∧ l ≤ L ∧ s ^ L ≤ 1024 ∧ R (LI (wideV s (L - l) vs))
def t_values_at_span (K : PySem.W.Frag) : TS :=
  (tSeq (tAsg (tVar 0) (gTup K 3 (gNames [2, 3, 4])))
    (tSeq (tFor (iRg1 (tCons (tOp rMinus (tVar 1) (tVar 3)) tNil)) (gName 5)
    (tAsg (tLc (iRg1 (tCons (tOp rTimes (tCB (rLenA K) (tCons (tVar 4) tNil)) (tVar 2)) tNil)) (gName 6) tYes (tOp (rIx K) (tVar 4) (tOp rDivI (tVar 6) (tVar 2))) [6]) (gName 4)))
    (tRet (tVar 4))))
theorem ds_values_at_span : Keeps W_values_at_span 7 t_values_at_span := by
  intro K ds R h
  obtain ⟨s, l, vs, L, rfl, hw, hL, hle, q⟩ := h
  have s2 := hw.s2
  have s4 := hw.s4
  have hp : 0 < s := by omega
  refine ⟨by simp, ?_⟩
  show DS K _ (t_values_at_span K) [.sh (wtD s l vs), .sh (.int L), .no, .no, .no, .no, .no] _ _ _ _
  unfold t_values_at_span
  repeat walk_at "d"
  refine ⟨rfl, rfl, ?_⟩
  refine DS_seq (DS_forR1 ?_)
  repeat walk_at "d"
  rw [show ((L : Int) - l).toNat = L - l by omega]
  refine ⟨fun k ρ => ∃ z5 z6, ρ = [.sh (wtD s l vs), .sh (.int L), .sh (.int s), .sh (.int l), .sh (LI (wideV s k vs)), z5, z6], ⟨.no, .no, rfl⟩, fun k ρ hk hI => ?_, fun ρ hI => ?_⟩
  · obtain ⟨z5, z6, rfl⟩ := hI
    have lk := wide_len hp hw.ln k
    have lk1 := wide_len hp hw.ln (k + 1)
    have pk := pow_pos' hp (l + k)
    have mono : s ^ (l + (k + 1)) ≤ 1024 := Int.le_trans (pow_mono (by omega) (by omega)) hle
    have ek : s ^ (l + (k + 1)) = s ^ (l + k) * s := by rw [← Nat.add_assoc, Int.pow_succ]
    have wl : (wideV s (k + 1) vs).length = (wideV s k vs).length * s.toNat := by
      show ((List.range ((wideV s k vs).length * s.toNat)).map fun (n : Nat) => itm (wideV s k vs) ((n : Int) / s)).length = _
      rw [List.length_map, List.length_range]
    repeat walk_at "d"
    refine DE_new (DL_mapR1 (f := fun (n : Nat) => .int (itm (wideV s k vs) ((n : Int) / s))) ?_)
    repeat walk_at "d"
    rw [List.length_map]
    refine DR_timesI ⟨_, _, rfl, rfl, .inr ⟨by omega, by omega⟩, ?_⟩
    repeat walk_at "d"
    have en : ((wideV s k vs).length : Int) * s = (((wideV s k vs).length * s.toNat : Nat) : Int) := by
      push_cast
      rw [Int.toNat_of_nonneg (by omega)]
    rw [en]
    refine ⟨_, rfl, by omega, fun n hn => ?_, .sh (.int (0 + (k : Int))), z6, ?_⟩
    · have hn' : (n : Int) < ((wideV s k vs).length : Int) * s := by omega
      have q0 : (0 : Int) ≤ n / s := Int.ediv_nonneg (by omega) (by omega)
      have q1 : (n : Int) / s < ((wideV s k vs).length : Int) := Int.ediv_lt_of_lt_mul hp hn'
      repeat walk_at "d"
      exact ⟨wide_div (b := 8) (by omega) (by omega) (by decide) (by decide), DR_ix (.inl ⟨_, _, _, rfl, rfl, atI_ok q0 q1, rfl⟩)⟩
    · have e : (List.range ((wideV s k vs).length * s.toNat)).map (fun (n : Nat) => PyData.int (itm (wideV s k vs) ((n : Int) / s))) = (wideV s (k + 1) vs).map .int := by
        show _ = ((List.range ((wideV s k vs).length * s.toNat)).map fun (n : Nat) => itm (wideV s k vs) ((n : Int) / s)).map PyData.int
        rw [List.map_map]
        rfl
      rw [e]
      rfl
  · obtain ⟨z5, z6, rfl⟩ := hI
    repeat walk_at "d"
    exact q
end Cf
namespace Cf
open PySem PySem.Spec PyProof.Rows L2
open Evl (Ex)
local macro_rules | `(tactic| walk_at "d") => `(tactic| first
  | (with_reducible refine DS_seq ?_)
  | (with_reducible refine DS_if ?_)
  | (with_reducible refine DS_ret ?_)
  | (with_reducible refine DS_next ?_)
  | (with_reducible refine DS_retN ?_)
  | (with_reducible refine DS_set ?_)
  | (with_reducible refine DS_drop ?_)
  | (with_reducible refine DS_unpack ?_)
  | (with_reducible refine DS_par ?_)
  | (with_reducible refine DE_int ?_)
  | (with_reducible refine DE_bl ?_)
  | (with_reducible refine DE_non ?_)
  | (with_reducible refine DE_str ?_)
  | (with_reducible refine DE_isi ?_)
  | (with_reducible refine DE_and ?_)
  | (with_reducible refine DE_or ?_)
  | (with_reducible refine DE_not ?_)
  | (with_reducible refine DE_if ?_)
  | (with_reducible refine DE_chain ?_)
  | (with_reducible refine DE_tyIs ?_)
  | (with_reducible refine DE_tyNot ?_)
  | (with_reducible refine DE_call ?_)
  | ((with_reducible refine' DE_lenOw ?k1 ?_); (case k1 => exact rfl))
  | (with_reducible refine DE_cb ?_)
  | (with_reducible refine DE_new (DL_rep (DL_lst ?_)))
  | (with_reducible refine DE_op ?_)
  | (with_reducible refine DE_un ?_)
  | (with_reducible refine DE_tup ?_)
  | (with_reducible refine DT_test ?_)
  | (with_reducible refine DT_B ?_)
  | (with_reducible refine DT_and ?_)
  | (with_reducible refine DT_or ?_)
  | (with_reducible refine DT_not ?_)
  | (with_reducible refine DT_yes ?_)
  | (with_reducible refine DA_nil ?_)
  | (with_reducible refine DA_cons ?_)
  | (with_reducible refine DO_no ?_)
  | (with_reducible refine DO_at ?_)
  | (with_reducible refine DR_minus ?_)
  | (with_reducible refine DR_mod ?_)
  | (with_reducible refine DR_div ?_)
  | (with_reducible refine DR_pow ?_)
  | (with_reducible refine DR_lt ?_)
  | (with_reducible refine DR_le ?_)
  | (with_reducible refine DR_gt ?_)
  | (with_reducible refine DR_ge ?_)
  | (with_reducible refine DR_eq ?_)
  | (with_reducible refine DR_ne ?_)
  | (with_reducible refine DR_isN ?_)
  | (with_reducible refine DR_notN ?_)
  | (with_reducible refine DU_neg ?_)
  | (with_reducible refine DC_len ?_)
  | (with_reducible refine DC_int ?_)
  | (with_reducible refine DC_abs ?_)
  | (with_reducible refine DC_max2 ?_)
  | (with_reducible refine DC_min2 ?_)
  | (with_reducible refine DC_sum ?_)
  | (with_reducible refine DC_all ?_)
  | (with_reducible refine DC_any ?_)
  | (with_reducible refine DC_repr ?_)
  | (with_reducible refine ⟨_, kb_int _, ?_⟩)
  | (with_reducible refine ⟨_, kb_bool _, ?_⟩)
  | (with_reducible refine ⟨_, kb_list _, ?_⟩)
  | (with_reducible refine ⟨_, kb_tuple _, ?_⟩)
  | (with_reducible refine ⟨_, rfl, ?_⟩)
  | (with_reducible refine ⟨_, _, rfl, rfl, ?_⟩)
  | (with_reducible refine DE_callN ?_)
  | (with_reducible refine DE_callX ?_)
  | (with_reducible refine DR_notB ?_)
  | (with_reducible refine DE_emp ?_)
  | (with_reducible refine DE_new (DL_lst ?_))
  | (with_reducible refine DE_new (DL_sl ?_))
  | (with_reducible refine DE_slT ?_)
  | (with_reducible refine DC_list ?_)
  | ((with_reducible refine' DE_callT ?k1 ?_); (case k1 => exact rfl))
  | ((with_reducible refine' DE_var ?k1 ?_); (case k1 => exact rfl))
  | ((with_reducible refine' DE_varO ?k1 ?_); (case k1 => exact rfl))
  | ((with_reducible refine' DE_varN ?k1 ?_); (case k1 => exact rfl)))


/-! ### plain weights, longer words: what rings have -/
theorem wide_val {s : Int} (h : 0 < s) {l : Nat} {vs r : List Int} (hl : s ^ l = (vs.length : Int)) (hr : r ≠ []) (hs : Signs s r) (z : Int) : ∀ k : Nat, val s (l + k) (wideV s k vs) r z = val s l vs r z
  | 0 => rfl
  | k + 1 => by
    rw [← wide_val h hl hr hs z k]
    show itm (wideV s (k + 1) vs) (num s (win r z (l + (k + 1)))) = itm (wideV s k vs) (num s (win r z (l + k)))
    have b := num_bound h (win r z (l + (k + 1))) (win_signs hr hs)
    rw [win_length, wide_len h hl (k + 1)] at b
    have e : (wideV s (k + 1) vs).length = (wideV s k vs).length * s.toNat := by
      show ((List.range ((wideV s k vs).length * s.toNat)).map fun (n : Nat) => itm (wideV s k vs) ((n : Int) / s)).length = _
      rw [List.length_map, List.length_range]
    show itm ((List.range ((wideV s k vs).length * s.toNat)).map fun (n : Nat) => itm (wideV s k vs) ((n : Int) / s)) _ = _
    rw [itm_map b.1 (by omega), Int.toNat_of_nonneg b.1]
    have : num s (win r z (l + (k + 1))) / s = num s (win r z (l + k)) := num_div h hr hs z (l + k)
    rw [this]
theorem ringSum_wide {s : Int} (h : 0 < s) {l : Nat} {vs r : List Int} (hl : s ^ l = (vs.length : Int)) (hr : r ≠ []) (hs : Signs s r) (k : Nat) : ringSum s (l + k) (wideV s k vs) r = ringSum s l vs r := by
  rw [ringSum_val, ringSum_val]
  congr 1
  exact List.map_congr_left fun c _ => wide_val h hl hr hs c k
/-! every so many-th value -/
theorem stepV_eq {S m : Nat} (hS : 0 < S) {vs : List Int} (hl : vs.length = m * S) : stepV (S : Int) vs = (List.range m).map fun (n : Nat) => itm vs ((n : Int) * S) := by
  unfold stepV stepIx
  have e : (if (0 : Int) < vs.length then ((vs.length : Int) - 0 + S - 1) / S else 0).toNat = m := by
    rw [hl]
    by_cases hm : m = 0
    · subst hm
      simp
    · have : 0 < m * S := Nat.mul_pos (by omega) hS
      rw [if_pos (by omega)]
      have e : ((m * S : Nat) : Int) - 0 + S - 1 = ((S : Int) - 1) + S * m := by
        push_cast
        rw [Int.mul_comm (m : Int)]
        omega
      rw [e, Int.add_mul_ediv_left _ _ (by omega), Int.ediv_eq_zero_of_lt (by omega) (by omega)]
      omega
  rw [e, List.filterMap_map]
  have g : ∀ ks : List Nat, (∀ k ∈ ks, k < m) → ks.filterMap ((fun i => vs[i]?) ∘ fun (i : Nat) => (0 + (S : Int) * (i : Int)).toNat) = ks.map fun (n : Nat) => itm vs ((n : Int) * S) := fun ks => by
    induction ks with
    | nil => intro _; rfl
    | cons k ks ih =>
      intro hk
      have h0 := hk k List.mem_cons_self
      have hb : k * S < m * S := Nat.mul_lt_mul_of_pos_right h0 hS
      have e1 : (0 + (S : Int) * (k : Int)).toNat = k * S := by
        rw [Int.zero_add, Int.mul_comm]
        exact_mod_cast Int.toNat_natCast (k * S)
      have e2 : ((fun i => vs[i]?) ∘ fun (i : Nat) => (0 + (S : Int) * (i : Int)).toNat) k = some (itm vs ((k : Int) * S)) := by
        show vs[(0 + (S : Int) * (k : Int)).toNat]? = _
        rw [e1, List.getElem?_eq_getElem (by omega)]
        unfold itm
        have e3 : ((k : Int) * (S : Int)).toNat = k * S := by exact_mod_cast Int.toNat_natCast (k * S)
        rw [e3, List.getD_eq_getElem?_getD, List.getElem?_eq_getElem (by omega)]
        rfl
      rw [List.filterMap_cons, e2, List.map_cons, ih fun x hx => hk x (List.mem_cons_of_mem _ hx)]
  exact g _ fun k hk => List.mem_range.mp hk
theorem step_ln {s : Int} (h : 0 < s) {l : Nat} {vs : List Int} (hl : s ^ (l + 1) = (vs.length : Int)) : s ^ l = ((stepV s vs).length : Int) ∧ ∀ n : Int, 0 ≤ n → n < s ^ l → itm (stepV s vs) n = itm vs (n * s) := by
  have hs : (s.toNat : Int) = s := Int.toNat_of_nonneg (by omega)
  have pl := pow_pos' h l
  have e : vs.length = (s ^ l).toNat * s.toNat := by
    have : (vs.length : Int) = (((s ^ l).toNat * s.toNat : Nat) : Int) := by
      push_cast
      rw [hs, Int.toNat_of_nonneg (by omega), ← hl, Int.pow_succ]
    exact_mod_cast this
  have ev := stepV_eq (S := s.toNat) (m := (s ^ l).toNat) (by omega) e
  rw [hs] at ev
  rw [ev]
  refine ⟨by rw [List.length_map, List.length_range]; omega, fun n h0 h1 => ?_⟩
  rw [itm_map h0 (by omega), Int.toNat_of_nonneg h0]
theorem last_no {s : Int} {vs : List Int} (h : lastM s vs = false) {n : Int} (h0 : 0 ≤ n) (h1 : n < vs.length) : itm vs n = itm vs (n - n % s) := by
  unfold lastM at h
  rw [List.any_eq_false] at h
  have := h n.toNat (List.mem_range.mpr (by omega))
  rw [Int.toNat_of_nonneg h0] at this
  have : ¬ ((!(itm vs n == itm vs (n - n % s))) = true) := this
  rw [Bool.not_eq_true, Bool.not_eq_false'] at this
  exact eq_of_beq this
/-- words that begin with 0 have the value of the word of zeros -/
def ZeroB (s : Int) (l : Nat) (vs : List Int) : Prop := ∀ n : Int, 0 ≤ n → n < s ^ (l - 1) → itm vs n = itm vs 0
theorem red_ok {s : Int} (h : 0 < s) : ∀ (l : Nat) (vs : List Int), 1 ≤ l → s ^ l = (vs.length : Int) → ZeroB s l vs → 1 ≤ (red s l vs).1 ∧ (red s l vs).1 ≤ l ∧ s ^ (red s l vs).1 = ((red s l vs).2.length : Int) ∧ ZeroB s (red s l vs).1 (red s l vs).2 ∧ ∀ r : List Int, r ≠ [] → Signs s r → ringSum s (red s l vs).1 (red s l vs).2 r = ringSum s l vs r
  | 0, _, h1, _, _ => absurd h1 (by omega)
  | 1, vs, _, hl, hz => ⟨Nat.le_refl _, Nat.le_refl _, hl, hz, fun _ _ _ => rfl⟩
  | l + 2, vs, _, hl, hz => by
    cases hm : lastM s vs with
    | true =>
      have e : red s (l + 2) vs = (l + 2, vs) := by
        show (if lastM s vs = true then _ else _) = _
        rw [if_pos hm]
      rw [e]
      exact ⟨by show 1 ≤ l + 2; omega, Nat.le_refl _, hl, hz, fun _ _ _ => rfl⟩
    | false =>
      have e : red s (l + 2) vs = red s (l + 1) (stepV s vs) := by
        show (if lastM s vs = true then _ else _) = _
        rw [if_neg (by rw [hm]; exact Bool.false_ne_true)]
      obtain ⟨l1, it⟩ := step_ln h (l := l + 1) hl
      have pl := pow_pos' h l
      have pl1 := pow_pos' h (l + 1)
      have e1 : s ^ (l + 1) = s ^ l * s := Int.pow_succ ..
      have e2 : s ^ (l + 2) = s ^ (l + 1) * s := Int.pow_succ ..
      have z2 : ZeroB s (l + 1) (stepV s vs) := fun n h0 h1 => by
        have h1 : n < s ^ l := h1
        have nb : n * s < s ^ (l + 1) := by
          rw [e1]
          exact Int.mul_lt_mul_of_pos_right h1 h
        have le1 : s ^ l ≤ s ^ (l + 1) := pow_mono (by omega) (by omega)
        rw [it n h0 (by omega), it 0 (Int.le_refl _) pl1, Int.zero_mul]
        exact hz (n * s) (Int.mul_nonneg h0 (by omega)) nb
      obtain ⟨a1, a2, a3, a4, a5⟩ := red_ok h (l + 1) (stepV s vs) (by omega) l1 z2
      rw [e]
      refine ⟨a1, by omega, a3, a4, fun r hr hs => ?_⟩
      rw [a5 r hr hs, ringSum_val, ringSum_val]
      congr 1
      refine List.map_congr_left fun c _ => ?_
      show itm (stepV s vs) (num s (win r (c : Int) (l + 1))) = itm vs (num s (win r (c : Int) (l + 2)))
      have b := num_bound h (win r (c : Int) (l + 2)) (win_signs hr hs)
      have b1 := num_bound h (win r (c : Int) (l + 1)) (win_signs hr hs)
      rw [win_length] at b b1
      have q := Int.mul_ediv_add_emod (num s (win r (c : Int) (l + 2))) s
      have nd : num s (win r (c : Int) (l + 2)) / s = num s (win r (c : Int) (l + 1)) := num_div h hr hs c (l + 1)
      rw [it _ b1.1 b1.2, last_no hm b.1 (by rw [← hl]; exact b.2), ← nd]
      congr 1
      rw [Int.mul_comm]
      omega
theorem shift_zero {s : Int} (h : 0 < s) {m : Nat} {vs : List Int} (hl : s ^ (m + 1) = (vs.length : Int)) : ZeroB s (m + 1) (shiftT s m vs (hts s vs m)) := by
  have key : ∀ n : Int, 0 ≤ n → n < s ^ m → itm (shiftT s m vs (hts s vs m)) n = itm vs 0 := fun n h0 h1 => by
    have pm := pow_pos' h m
    have le1 : s ^ m ≤ s ^ (m + 1) := pow_mono (by omega) (by omega)
    unfold shiftT
    rw [itm_map h0 (by omega), Int.toNat_of_nonneg h0, Int.emod_eq_of_lt h0 h1]
    cases m with
    | zero =>
      have : n = 0 := by
        rw [Int.pow_zero] at h1
        omega
      subst this
      show itm vs 0 + 0 - 0 = _
      omega
    | succ k =>
      have hn : n / s < s ^ k := Int.ediv_lt_of_lt_mul h (by rw [← Int.pow_succ]; exact h1)
      have e := hts_more h vs k 1 (n / s) (Int.ediv_nonneg h0 (by omega)) hn
      show itm vs n + hts s vs (k + 1) (n / s) - (itm vs n + hts s vs k (n / s)) = _
      rw [e]
      omega
  exact fun n h0 h1 => by rw [key n h0 h1, key 0 (Int.le_refl _) (pow_pos' h m)]
/-- the plain weight: as many words or fewer, words that begin with 0 have one value, every ring has its sum -/
theorem plain_ok {s : Int} {l : Nat} {vs : List Int} (hw : Wt s l vs) : Wt s (plainOf s l vs).1 (plainOf s l vs).2 ∧ (plainOf s l vs).1 ≤ l ∧ ZeroB s (plainOf s l vs).1 (plainOf s l vs).2 ∧ ∀ r : List Int, r ≠ [] → Signs s r → ringSum s (plainOf s l vs).1 (plainOf s l vs).2 r = ringSum s l vs r := by
  have s2 := hw.s2
  have h : 0 < s := by omega
  obtain ⟨m, rfl⟩ : ∃ m, l = m + 1 := ⟨l - 1, by have := hw.l1; omega⟩
  have e : plainOf s (m + 1) vs = red s (m + 1) (shiftT s m vs (hts s vs m)) := rfl
  have lsh : (shiftT s m vs (hts s vs m)).length = vs.length := by
    unfold shiftT
    rw [List.length_map, List.length_range]
  obtain ⟨a1, a2, a3, a4, a5⟩ := red_ok h (m + 1) (shiftT s m vs (hts s vs m)) (by omega) (by rw [lsh]; exact hw.ln) (shift_zero h hw.ln)
  rw [e]
  refine ⟨⟨s2, hw.s4, a1, ?_, a3⟩, a2, a4, fun r hr hs => ?_⟩
  · exact Int.le_trans (pow_mono (by omega) a2) hw.le
  · rw [a5 r hr hs, ringSum_shift h hw.ln _ hr hs]

end Cf
namespace Cf
open PySem PySem.Spec PyProof.Rows L2
open Evl (Ex)
local macro_rules | `(tactic| walk_at "d") => `(tactic| first
  | (with_reducible refine DS_seq ?_)
  | (with_reducible refine DS_if ?_)
  | (with_reducible refine DS_ret ?_)
  | (with_reducible refine DS_next ?_)
  | (with_reducible refine DS_retN ?_)
  | (with_reducible refine DS_set ?_)
  | (with_reducible refine DS_drop ?_)
  | (with_reducible refine DS_unpack ?_)
  | (with_reducible refine DS_par ?_)
  | (with_reducible refine DE_int ?_)
  | (with_reducible refine DE_bl ?_)
  | (with_reducible refine DE_non ?_)
  | (with_reducible refine DE_str ?_)
  | (with_reducible refine DE_isi ?_)
  | (with_reducible refine DE_and ?_)
  | (with_reducible refine DE_or ?_)
  | (with_reducible refine DE_not ?_)
  | (with_reducible refine DE_if ?_)
  | (with_reducible refine DE_chain ?_)
  | (with_reducible refine DE_tyIs ?_)
  | (with_reducible refine DE_tyNot ?_)
  | (with_reducible refine DE_call ?_)
  | ((with_reducible refine' DE_lenOw ?k1 ?_); (case k1 => exact rfl))
  | (with_reducible refine DE_cb ?_)
  | (with_reducible refine DE_new (DL_rep (DL_lst ?_)))
  | (with_reducible refine DE_op ?_)
  | (with_reducible refine DE_un ?_)
  | (with_reducible refine DE_tup ?_)
  | (with_reducible refine DT_test ?_)
  | (with_reducible refine DT_B ?_)
  | (with_reducible refine DT_and ?_)
  | (with_reducible refine DT_or ?_)
  | (with_reducible refine DT_not ?_)
  | (with_reducible refine DT_yes ?_)
  | (with_reducible refine DA_nil ?_)
  | (with_reducible refine DA_cons ?_)
  | (with_reducible refine DO_no ?_)
  | (with_reducible refine DO_at ?_)
  | (with_reducible refine DR_minus ?_)
  | (with_reducible refine DR_mod ?_)
  | (with_reducible refine DR_div ?_)
  | (with_reducible refine DR_pow ?_)
  | (with_reducible refine DR_lt ?_)
  | (with_reducible refine DR_le ?_)
  | (with_reducible refine DR_gt ?_)
  | (with_reducible refine DR_ge ?_)
  | (with_reducible refine DR_eq ?_)
  | (with_reducible refine DR_ne ?_)
  | (with_reducible refine DR_isN ?_)
  | (with_reducible refine DR_notN ?_)
  | (with_reducible refine DU_neg ?_)
  | (with_reducible refine DC_len ?_)
  | (with_reducible refine DC_int ?_)
  | (with_reducible refine DC_abs ?_)
  | (with_reducible refine DC_max2 ?_)
  | (with_reducible refine DC_min2 ?_)
  | (with_reducible refine DC_sum ?_)
  | (with_reducible refine DC_all ?_)
  | (with_reducible refine DC_any ?_)
  | (with_reducible refine DC_repr ?_)
  | (with_reducible refine ⟨_, kb_int _, ?_⟩)
  | (with_reducible refine ⟨_, kb_bool _, ?_⟩)
  | (with_reducible refine ⟨_, kb_list _, ?_⟩)
  | (with_reducible refine ⟨_, kb_tuple _, ?_⟩)
  | (with_reducible refine ⟨_, rfl, ?_⟩)
  | (with_reducible refine ⟨_, _, rfl, rfl, ?_⟩)
  | (with_reducible refine DE_callN ?_)
  | (with_reducible refine DE_callX ?_)
  | (with_reducible refine DR_notB ?_)
  | (with_reducible refine DE_emp ?_)
  | (with_reducible refine DE_new (DL_lst ?_))
  | (with_reducible refine DE_new (DL_sl ?_))
  | (with_reducible refine DE_slT ?_)
  | (with_reducible refine DC_list ?_)
  | ((with_reducible refine' DE_callT ?k1 ?_); (case k1 => exact rfl))
  | ((with_reducible refine' DE_var ?k1 ?_); (case k1 => exact rfl))
  | ((with_reducible refine' DE_varO ?k1 ?_); (case k1 => exact rfl))
  | ((with_reducible refine' DE_varN ?k1 ?_); (case k1 => exact rfl)))


/-! ### divisors, lowest terms, weights added: what rings have -/
/-! weights added -/
def addV (xs ys : List Int) (t : Int) : List Int := (List.range xs.length).map fun (n : Nat) => itm xs n + t * itm ys n
theorem addV_length (xs ys : List Int) (t : Int) : (addV xs ys t).length = xs.length := by simp [addV]
theorem ringSum_add {s : Int} (h : 0 < s) {l : Nat} {xs ys r : List Int} (hl : s ^ l = (xs.length : Int)) (t : Int) (hr : r ≠ []) (hs : Signs s r) : ringSum s l (addV xs ys t) r = ringSum s l xs r + t * ringSum s l ys r := by
  rw [ringSum_val, ringSum_val, ringSum_val]
  have g : ∀ ks : List Nat, (ks.map fun (c : Nat) => val s l (addV xs ys t) r c).sum = (ks.map fun (c : Nat) => val s l xs r c).sum + t * (ks.map fun (c : Nat) => val s l ys r c).sum := fun ks => by
    induction ks with
    | nil => simp
    | cons c ks ih =>
      rw [List.map_cons, List.map_cons, List.map_cons, List.sum_cons, List.sum_cons, List.sum_cons, ih, Int.mul_add]
      have b := num_bound h (win r (c : Int) l) (win_signs hr hs)
      rw [win_length, hl] at b
      have e : val s l (addV xs ys t) r c = val s l xs r c + t * val s l ys r c := by
        show itm (addV xs ys t) (num s (win r (c : Int) l)) = itm xs (num s (win r (c : Int) l)) + t * itm ys (num s (win r (c : Int) l))
        unfold addV
        rw [itm_map b.1 (by omega), Int.toNat_of_nonneg b.1]
      rw [e]
      omega
  exact g _
/-! divisors -/
def gcdF (g v : Int) : Int := ((Nat.gcd g.natAbs v.natAbs : Nat) : Int)
def gcdL (vs : List Int) : Int := vs.foldl gcdF 0
theorem gcdF_dvd {d g v : Int} : d ∣ gcdF g v ↔ d ∣ g ∧ d ∣ v := by
  unfold gcdF
  rw [← Int.natAbs_dvd, Int.natCast_dvd_natCast, Nat.dvd_gcd_iff, ← Int.natAbs_dvd_natAbs (b := g), ← Int.natAbs_dvd_natAbs (b := v)]
theorem gcd_fold {d : Int} : ∀ (vs : List Int) (g : Int), d ∣ vs.foldl gcdF g ↔ d ∣ g ∧ ∀ v ∈ vs, d ∣ v
  | [], g => ⟨fun h => ⟨h, fun v hv => by cases hv⟩, fun h => h.1⟩
  | x :: vs, g => by
    rw [List.foldl_cons, gcd_fold vs, gcdF_dvd]
    constructor
    · intro h
      refine ⟨h.1.1, fun v hv => ?_⟩
      rcases List.mem_cons.mp hv with rfl | hv
      · exact h.1.2
      · exact h.2 v hv
    · intro h
      exact ⟨⟨h.1, h.2 x List.mem_cons_self⟩, fun v hv => h.2 v (List.mem_cons_of_mem _ hv)⟩
theorem gcdL_dvd {d : Int} {vs : List Int} : d ∣ gcdL vs ↔ ∀ v ∈ vs, d ∣ v := by
  unfold gcdL
  rw [gcd_fold]
  exact ⟨fun h => h.2, fun h => ⟨Int.dvd_zero _, h⟩⟩
theorem gcd_fold_nonneg : ∀ (vs : List Int) (g : Int), 0 ≤ g → 0 ≤ vs.foldl gcdF g
  | [], g, h => h
  | x :: vs, g, h => by
    rw [List.foldl_cons]
    exact gcd_fold_nonneg vs _ (Int.natCast_nonneg _)
theorem gcdL_nonneg (vs : List Int) : 0 ≤ gcdL vs := gcd_fold_nonneg vs 0 (Int.le_refl _)
theorem gcdL_eq {xs ys : List Int} (h1 : ∀ d : Int, (∀ x ∈ xs, d ∣ x) → ∀ y ∈ ys, d ∣ y) (h2 : ∀ d : Int, (∀ y ∈ ys, d ∣ y) → ∀ x ∈ xs, d ∣ x) : gcdL xs = gcdL ys := by
  have a : gcdL xs ∣ gcdL ys := gcdL_dvd.mpr (h1 _ (gcdL_dvd.mp (Int.dvd_refl _)))
  have b : gcdL ys ∣ gcdL xs := gcdL_dvd.mpr (h2 _ (gcdL_dvd.mp (Int.dvd_refl _)))
  exact Int.dvd_antisymm (gcdL_nonneg _) (gcdL_nonneg _) a b
theorem sum_dvd {d : Int} {f : Nat → Int} : ∀ l : List Nat, (∀ c ∈ l, d ∣ f c) → d ∣ (l.map f).sum
  | [], _ => Int.dvd_zero _
  | c :: l, h => by
    rw [List.map_cons, List.sum_cons]
    exact Int.dvd_add (h c List.mem_cons_self) (sum_dvd l fun x hx => h x (List.mem_cons_of_mem _ hx))
theorem ring_dvd {s : Int} (h : 0 < s) {l : Nat} {us r : List Int} {d : Int} (hl : s ^ l = (us.length : Int)) (hr : r ≠ []) (hs : Signs s r) (hd : ∀ v ∈ us, d ∣ v) : d ∣ ringSum s l us r := by
  rw [ringSum_val]
  exact sum_dvd _ fun c _ => hd _ (val_mem h hl hr hs c)

end Cf
namespace Cf
open PySem PySem.Spec PyProof.Rows L2
open Evl (Ex)
local macro_rules | `(tactic| walk_at "d") => `(tactic| first
  | (with_reducible refine DS_seq ?_)
  | (with_reducible refine DS_if ?_)
  | (with_reducible refine DS_ret ?_)
  | (with_reducible refine DS_next ?_)
  | (with_reducible refine DS_retN ?_)
  | (with_reducible refine DS_set ?_)
  | (with_reducible refine DS_drop ?_)
  | (with_reducible refine DS_unpack ?_)
  | (with_reducible refine DS_par ?_)
  | (with_reducible refine DE_int ?_)
  | (with_reducible refine DE_bl ?_)
  | (with_reducible refine DE_non ?_)
  | (with_reducible refine DE_str ?_)
  | (with_reducible refine DE_isi ?_)
  | (with_reducible refine DE_and ?_)
  | (with_reducible refine DE_or ?_)
  | (with_reducible refine DE_not ?_)
  | (with_reducible refine DE_if ?_)
  | (with_reducible refine DE_chain ?_)
  | (with_reducible refine DE_tyIs ?_)
  | (with_reducible refine DE_tyNot ?_)
  | (with_reducible refine DE_call ?_)
  | ((with_reducible refine' DE_lenOw ?k1 ?_); (case k1 => exact rfl))
  | (with_reducible refine DE_cb ?_)
  | (with_reducible refine DE_new (DL_rep (DL_lst ?_)))
  | (with_reducible refine DE_op ?_)
  | (with_reducible refine DE_un ?_)
  | (with_reducible refine DE_tup ?_)
  | (with_reducible refine DT_test ?_)
  | (with_reducible refine DT_B ?_)
  | (with_reducible refine DT_and ?_)
  | (with_reducible refine DT_or ?_)
  | (with_reducible refine DT_not ?_)
  | (with_reducible refine DT_yes ?_)
  | (with_reducible refine DA_nil ?_)
  | (with_reducible refine DA_cons ?_)
  | (with_reducible refine DO_no ?_)
  | (with_reducible refine DO_at ?_)
  | (with_reducible refine DR_minus ?_)
  | (with_reducible refine DR_mod ?_)
  | (with_reducible refine DR_div ?_)
  | (with_reducible refine DR_pow ?_)
  | (with_reducible refine DR_lt ?_)
  | (with_reducible refine DR_le ?_)
  | (with_reducible refine DR_gt ?_)
  | (with_reducible refine DR_ge ?_)
  | (with_reducible refine DR_eq ?_)
  | (with_reducible refine DR_ne ?_)
  | (with_reducible refine DR_isN ?_)
  | (with_reducible refine DR_notN ?_)
  | (with_reducible refine DU_neg ?_)
  | (with_reducible refine DC_len ?_)
  | (with_reducible refine DC_int ?_)
  | (with_reducible refine DC_abs ?_)
  | (with_reducible refine DC_max2 ?_)
  | (with_reducible refine DC_min2 ?_)
  | (with_reducible refine DC_sum ?_)
  | (with_reducible refine DC_all ?_)
  | (with_reducible refine DC_any ?_)
  | (with_reducible refine DC_repr ?_)
  | (with_reducible refine ⟨_, kb_int _, ?_⟩)
  | (with_reducible refine ⟨_, kb_bool _, ?_⟩)
  | (with_reducible refine ⟨_, kb_list _, ?_⟩)
  | (with_reducible refine ⟨_, kb_tuple _, ?_⟩)
  | (with_reducible refine ⟨_, rfl, ?_⟩)
  | (with_reducible refine ⟨_, _, rfl, rfl, ?_⟩)
  | (with_reducible refine DE_callN ?_)
  | (with_reducible refine DE_callX ?_)
  | (with_reducible refine DR_notB ?_)
  | (with_reducible refine DE_emp ?_)
  | (with_reducible refine DE_new (DL_lst ?_))
  | (with_reducible refine DE_new (DL_sl ?_))
  | (with_reducible refine DE_slT ?_)
  | (with_reducible refine DC_list ?_)
  | ((with_reducible refine' DE_callT ?k1 ?_); (case k1 => exact rfl))
  | ((with_reducible refine' DE_var ?k1 ?_); (case k1 => exact rfl))
  | ((with_reducible refine' DE_varO ?k1 ?_); (case k1 => exact rfl))
  | ((with_reducible refine' DE_varN ?k1 ?_); (case k1 => exact rfl)))


/-! ### values told by rings -/
theorem begin0 {s : Int} (h : 0 < s) {l : Nat} {us r : List Int} (h1 : 1 ≤ l) (hz : ZeroB s l us) (hr : r ≠ []) (hs : Signs s r) {z : Int} (h0 : at_ r z = 0) : val s l us r z = itm us 0 := by
  obtain ⟨k, rfl⟩ : ∃ k, l = k + 1 := ⟨l - 1, by omega⟩
  show itm us (num s (win r z (k + 1))) = itm us 0
  have b := num_bound h (win r z (k + 1)) (win_signs hr hs)
  refine hz _ b.1 ?_
  show _ < s ^ k
  rw [win_cons, num_cons, h0, Int.zero_mul, Int.zero_add]
  have b := num_bound h (win r (z + 1) k) (win_signs hr hs)
  rw [win_length] at b
  exact b.2
theorem win_in {r : List Int} {c l : Nat} (hr : r ≠ []) (h : c + l ≤ r.length) : win r (c : Int) l = (r.drop c).take l := by
  have e := win_cut (r := r) (z := 0) (l := r.length) (j := c) (w := l) h
  rw [win_self hr, Int.zero_add] at e
  exact e.symm
theorem at_in {r : List Int} {c : Nat} (h : c < r.length) : at_ r (c : Int) = r.getD c 0 := by
  unfold at_
  rw [Int.emod_eq_of_lt (by omega) (by omega), Int.toNat_natCast]
theorem value_dvd {s : Int} (h : 0 < s) {l : Nat} {us : List Int} {d : Int} (l1 : 1 ≤ l) (hl : s ^ l = (us.length : Int)) (hz : ZeroB s l us) (hd : ∀ r : List Int, r ≠ [] → r.length ≤ 2 * l - 1 → Signs s r → d ∣ ringSum s l us r) : ∀ v ∈ us, d ∣ v := by
  have d0 : d ∣ itm us 0 := by
    have := hd [0] (by simp) (by show 1 ≤ 2 * l - 1; omega) (fun x hx => by rw [List.mem_singleton.mp hx]; omega)
    rw [ringSum_val] at this
    have e : ((List.range [(0 : Int)].length).map fun (c : Nat) => val s l us [0] (c : Int)).sum = itm us 0 := by
      show val s l us [0] ((0 : Nat) : Int) + 0 = _
      rw [begin0 h l1 hz (by simp) (fun x hx => by rw [List.mem_singleton.mp hx]; omega) (z := ((0 : Nat) : Int)) rfl, Int.add_zero]
    rw [e] at this
    exact this
  have dn : ∀ n : Nat, n < us.length → d ∣ itm us (n : Int) := fun n hn => by
    by_cases hb : (n : Int) < s ^ (l - 1)
    · rw [hz n (by omega) hb]
      exact d0
    · obtain ⟨k, rfl⟩ : ∃ k, l = k + 1 := ⟨l - 1, by omega⟩
      have lw := wordOf_length s (k + 1) n
      have sw := wordOf_signs h (k + 1) n
      have nw : num s (wordOf s (k + 1) (n : Int)) = n := by rw [num_wordOf h, Int.emod_eq_of_lt (by omega) (by omega)]
      obtain ⟨a, u, ew⟩ : ∃ a u, wordOf s (k + 1) (n : Int) = a :: u := by
        cases hw : wordOf s (k + 1) (n : Int) with
        | nil => rw [hw] at lw; simp at lw
        | cons a u => exact ⟨a, u, rfl⟩
      rw [ew] at lw sw nw
      have lu : u.length = k := by simpa using lw
      have su : Signs s (u ++ List.replicate k 0) := fun x hx => by
        rcases List.mem_append.mp hx with hx | hx
        · exact sw x (List.mem_cons_of_mem _ hx)
        · rw [List.eq_of_mem_replicate hx]
          omega
      obtain ⟨t, ht⟩ : ∃ t, u ++ List.replicate k 0 = t := ⟨_, rfl⟩
      have lt : t.length = 2 * k := by rw [← ht, List.length_append, List.length_replicate]; omega
      rw [ht] at su
      have s1 : Signs s (a :: t) := fun x hx => by
        rcases List.mem_cons.mp hx with rfl | hx
        · exact sw _ List.mem_cons_self
        · exact su x hx
      have s2 : Signs s (0 :: t) := fun x hx => by
        rcases List.mem_cons.mp hx with rfl | hx
        · omega
        · exact su x hx
      have g1 := hd (a :: t) (by simp) (by rw [List.length_cons]; omega) s1
      have g2 := hd (0 :: t) (by simp) (by rw [List.length_cons]; omega) s2
      have len : ∀ b : Int, (b :: t).length = 2 * k + 1 := fun b => by rw [List.length_cons, lt]
      have split : ∀ b : Int, ringSum s (k + 1) us (b :: t) = val s (k + 1) us (b :: t) ((0 : Nat) : Int) + ((List.range (2 * k)).map fun (c : Nat) => val s (k + 1) us (b :: t) ((c + 1 : Nat) : Int)).sum := fun b => by
        rw [ringSum_val, len, List.range_succ_eq_map, List.map_cons, List.sum_cons, List.map_map]
        rfl
      have same : ∀ c : Nat, c < 2 * k → val s (k + 1) us (a :: t) ((c + 1 : Nat) : Int) = val s (k + 1) us (0 :: t) ((c + 1 : Nat) : Int) := fun c hc => by
        by_cases hk : c < k
        · show itm us (num s (win (a :: t) ((c + 1 : Nat) : Int) (k + 1))) = itm us (num s (win (0 :: t) ((c + 1 : Nat) : Int) (k + 1)))
          rw [win_in (by simp) (by rw [len]; omega), win_in (by simp) (by rw [len]; omega)]
          rfl
        · have at0 : ∀ b : Int, at_ (b :: t) ((c + 1 : Nat) : Int) = 0 := fun b => by
            rw [at_in (by rw [len]; omega)]
            show t.getD c 0 = 0
            rw [← ht, List.getD_eq_getElem?_getD, List.getElem?_append_right (by omega), List.getElem?_replicate]
            split <;> rfl
          rw [begin0 h l1 hz (by simp) s1 (at0 a), begin0 h l1 hz (by simp) s2 (at0 0)]
      have v1 : val s (k + 1) us (a :: t) ((0 : Nat) : Int) = itm us (n : Int) := by
        show itm us (num s (win (a :: t) ((0 : Nat) : Int) (k + 1))) = _
        rw [win_in (by simp) (by rw [len]; omega), List.drop_zero]
        have : (a :: t).take (k + 1) = a :: u := by
          rw [List.take_succ_cons, ← ht, List.take_append_of_le_length (by omega), List.take_of_length_le (by omega)]
        rw [this, nw]
      have v2 : val s (k + 1) us (0 :: t) ((0 : Nat) : Int) = itm us 0 := begin0 h l1 hz (by simp) s2 (by rw [at_in (by rw [len]; omega)]; rfl)
      have es : ((List.range (2 * k)).map fun (c : Nat) => val s (k + 1) us (a :: t) ((c + 1 : Nat) : Int)) = (List.range (2 * k)).map fun (c : Nat) => val s (k + 1) us (0 :: t) ((c + 1 : Nat) : Int) := List.map_congr_left fun c hc => same c (List.mem_range.mp hc)
      rw [split, v1, es] at g1
      rw [split, v2] at g2
      have g3 := Int.dvd_add (Int.dvd_sub g1 g2) d0
      generalize ((List.range (2 * k)).map fun (c : Nat) => val s (k + 1) us (0 :: t) ((c + 1 : Nat) : Int)).sum = S at *
      rw [show itm us (n : Int) + S - (itm us 0 + S) + itm us 0 = itm us (n : Int) by omega] at g3
      exact g3
  intro v hv
  obtain ⟨n, hn, e⟩ := List.getElem_of_mem hv
  have := dn n hn
  unfold itm at this
  rw [Int.toNat_natCast, List.getD_eq_getElem?_getD, List.getElem?_eq_getElem hn, e] at this
  exact this
/-- the divisor of the sums of rings is that of the values -/
theorem gcd_rings {s : Int} (h : 0 < s) {l : Nat} {us ts : List Int} (l1 : 1 ≤ l) (hl : s ^ l = (us.length : Int)) (hz : ZeroB s l us)
    (h1 : ∀ x ∈ ts, ∃ r : List Int, r ≠ [] ∧ Signs s r ∧ x = ringSum s l us r) (h2 : ∀ r : List Int, r ≠ [] → r.length ≤ 2 * l - 1 → Signs s r → ringSum s l us r ∈ ts) : gcdL us = gcdL ts := by
  refine gcdL_eq (fun d hd x hx => ?_) fun d hd => value_dvd h l1 hl hz fun r hr lr sr => hd _ (h2 r hr lr sr)
  obtain ⟨r, hr, hs, rfl⟩ := h1 x hx
  exact ring_dvd h hl hr hs hd

end Cf
namespace Cf
open PySem PySem.Spec PyProof.Rows L2
open Evl (Ex)
local macro_rules | `(tactic| walk_at "d") => `(tactic| first
  | (with_reducible refine DS_seq ?_)
  | (with_reducible refine DS_if ?_)
  | (with_reducible refine DS_ret ?_)
  | (with_reducible refine DS_next ?_)
  | (with_reducible refine DS_retN ?_)
  | (with_reducible refine DS_set ?_)
  | (with_reducible refine DS_drop ?_)
  | (with_reducible refine DS_unpack ?_)
  | (with_reducible refine DS_par ?_)
  | (with_reducible refine DE_int ?_)
  | (with_reducible refine DE_bl ?_)
  | (with_reducible refine DE_non ?_)
  | (with_reducible refine DE_str ?_)
  | (with_reducible refine DE_isi ?_)
  | (with_reducible refine DE_and ?_)
  | (with_reducible refine DE_or ?_)
  | (with_reducible refine DE_not ?_)
  | (with_reducible refine DE_if ?_)
  | (with_reducible refine DE_chain ?_)
  | (with_reducible refine DE_tyIs ?_)
  | (with_reducible refine DE_tyNot ?_)
  | (with_reducible refine DE_call ?_)
  | ((with_reducible refine' DE_lenOw ?k1 ?_); (case k1 => exact rfl))
  | ((with_reducible refine' DE_reprOw ?k1 ?_); (case k1 => exact rfl))
  | ((with_reducible refine' DE_ixOw ?k1 ?_); (case k1 => exact rfl))
  | ((with_reducible refine' DE_lenOw ?k1 ?_); (case k1 => exact rfl))
  | (with_reducible refine DE_cb ?_)
  | (with_reducible refine DE_new (DL_rep (DL_lst ?_)))
  | (with_reducible refine DE_op ?_)
  | (with_reducible refine DE_un ?_)
  | (with_reducible refine DE_tup ?_)
  | (with_reducible refine DT_test ?_)
  | (with_reducible refine DT_B ?_)
  | (with_reducible refine DT_and ?_)
  | (with_reducible refine DT_or ?_)
  | (with_reducible refine DT_not ?_)
  | (with_reducible refine DT_yes ?_)
  | (with_reducible refine DA_nil ?_)
  | (with_reducible refine DA_cons ?_)
  | (with_reducible refine DO_no ?_)
  | (with_reducible refine DO_at ?_)
  | (with_reducible refine DR_minus ?_)
  | (with_reducible refine DR_mod ?_)
  | (with_reducible refine DR_div ?_)
  | (with_reducible refine DR_pow ?_)
  | (with_reducible refine DR_lt ?_)
  | (with_reducible refine DR_le ?_)
  | (with_reducible refine DR_gt ?_)
  | (with_reducible refine DR_ge ?_)
  | (with_reducible refine DR_eq ?_)
  | (with_reducible refine DR_ne ?_)
  | (with_reducible refine DR_isN ?_)
  | (with_reducible refine DR_notN ?_)
  | (with_reducible refine DU_neg ?_)
  | (with_reducible refine DC_len ?_)
  | (with_reducible refine DC_int ?_)
  | (with_reducible refine DC_abs ?_)
  | (with_reducible refine DC_max2 ?_)
  | (with_reducible refine DC_min2 ?_)
  | (with_reducible refine DC_sum ?_)
  | (with_reducible refine DC_all ?_)
  | (with_reducible refine DC_any ?_)
  | (with_reducible refine DC_repr ?_)
  | (with_reducible refine ⟨_, kb_int _, ?_⟩)
  | (with_reducible refine ⟨_, kb_bool _, ?_⟩)
  | (with_reducible refine ⟨_, kb_list _, ?_⟩)
  | (with_reducible refine ⟨_, kb_tuple _, ?_⟩)
  | (with_reducible refine ⟨_, rfl, ?_⟩)
  | (with_reducible refine ⟨_, _, rfl, rfl, ?_⟩)
  | (with_reducible refine DE_callN ?_)
  | (with_reducible refine DE_callX ?_)
  | (with_reducible refine DR_notB ?_)
  | (with_reducible refine DE_emp ?_)
  | (with_reducible refine DE_new (DL_lst ?_))
  | (with_reducible refine DE_new (DL_callF ?_))
  | (with_reducible refine DE_new (DL_sl ?_))
  | (with_reducible refine DE_slT ?_)
  | (with_reducible refine DC_list ?_)
  | ((with_reducible refine' DE_callT ?k1 ?_); (case k1 => exact rfl))
  | ((with_reducible refine' DE_var ?k1 ?_); (case k1 => exact rfl))
  | ((with_reducible refine' DE_varO ?k1 ?_); (case k1 => exact rfl))
  | ((with_reducible refine' DE_varN ?k1 ?_); (case k1 => exact rfl)))


def W_check_ticks (ds : List PyData) (R : PyData → Prop) : Prop := ∃ n m : Int, ds = [.int n, .int m] ∧ 0 ≤ n ∧ n ≤ m ∧ R .none
def t_check_ticks (K : PySem.W.Frag) : TS :=
  (tIfS (tOr (tNot (tB (tCall (spP K W_is_integer) [] E0 (tCons (tVar 0) tNil)))) (tOr (tTest (tOp rLtI (tVar 0) (tC (.int 0)))) (tTest (tOp rGtI (tVar 0) (tVar 1)))))
    tNever
    tNext)
end Cf
namespace Cf
open PySem PySem.Spec PyProof.Rows L2
open Evl (Ex)
local macro_rules | `(tactic| walk_at "d") => `(tactic| first
  | (with_reducible refine DS_seq ?_)
  | (with_reducible refine DS_if ?_)
  | (with_reducible refine DS_ret ?_)
  | (with_reducible refine DS_next ?_)
  | (with_reducible refine DS_retN ?_)
  | (with_reducible refine DS_set ?_)
  | (with_reducible refine DS_drop ?_)
  | (with_reducible refine DS_unpack ?_)
  | (with_reducible refine DS_par ?_)
  | (with_reducible refine DE_int ?_)
  | (with_reducible refine DE_bl ?_)
  | (with_reducible refine DE_non ?_)
  | (with_reducible refine DE_str ?_)
  | (with_reducible refine DE_isi ?_)
  | (with_reducible refine DE_and ?_)
  | (with_reducible refine DE_or ?_)
  | (with_reducible refine DE_not ?_)
  | (with_reducible refine DE_if ?_)
  | (with_reducible refine DE_chain ?_)
  | (with_reducible refine DE_tyIs ?_)
  | (with_reducible refine DE_tyNot ?_)
  | (with_reducible refine DE_call ?_)
  | ((with_reducible refine' DE_lenOw ?k1 ?_); (case k1 => exact rfl))
  | (with_reducible refine DE_cb ?_)
  | (with_reducible refine DE_new (DL_rep (DL_lst ?_)))
  | (with_reducible refine DE_op ?_)
  | (with_reducible refine DE_un ?_)
  | (with_reducible refine DE_tup ?_)
  | (with_reducible refine DT_test ?_)
  | (with_reducible refine DT_B ?_)
  | (with_reducible refine DT_and ?_)
  | (with_reducible refine DT_or ?_)
  | (with_reducible refine DT_not ?_)
  | (with_reducible refine DT_yes ?_)
  | (with_reducible refine DA_nil ?_)
  | (with_reducible refine DA_cons ?_)
  | (with_reducible refine DO_no ?_)
  | (with_reducible refine DO_at ?_)
  | (with_reducible refine DR_minus ?_)
  | (with_reducible refine DR_mod ?_)
  | (with_reducible refine DR_div ?_)
  | (with_reducible refine DR_pow ?_)
  | (with_reducible refine DR_lt ?_)
  | (with_reducible refine DR_le ?_)
  | (with_reducible refine DR_gt ?_)
  | (with_reducible refine DR_ge ?_)
  | (with_reducible refine DR_eq ?_)
  | (with_reducible refine DR_ne ?_)
  | (with_reducible refine DR_isN ?_)
  | (with_reducible refine DR_notN ?_)
  | (with_reducible refine DU_neg ?_)
  | (with_reducible refine DC_len ?_)
  | (with_reducible refine DC_int ?_)
  | (with_reducible refine DC_abs ?_)
  | (with_reducible refine DC_max2 ?_)
  | (with_reducible refine DC_min2 ?_)
  | (with_reducible refine DC_sum ?_)
  | (with_reducible refine DC_all ?_)
  | (with_reducible refine DC_any ?_)
  | (with_reducible refine DC_repr ?_)
  | (with_reducible refine ⟨_, kb_int _, ?_⟩)
  | (with_reducible refine ⟨_, kb_bool _, ?_⟩)
  | (with_reducible refine ⟨_, kb_list _, ?_⟩)
  | (with_reducible refine ⟨_, kb_tuple _, ?_⟩)
  | (with_reducible refine ⟨_, rfl, ?_⟩)
  | (with_reducible refine ⟨_, _, rfl, rfl, ?_⟩)
  | (with_reducible refine DE_callN ?_)
  | (with_reducible refine DE_callX ?_)
  | (with_reducible refine DR_notB ?_)
  | (with_reducible refine DE_emp ?_)
  | (with_reducible refine DE_new (DL_lst ?_))
  | (with_reducible refine DE_new (DL_sl ?_))
  | (with_reducible refine DE_slT ?_)
  | (with_reducible refine DC_list ?_)
  | ((with_reducible refine' DE_callT ?k1 ?_); (case k1 => exact rfl))
  | ((with_reducible refine' DE_var ?k1 ?_); (case k1 => exact rfl))
  | ((with_reducible refine' DE_varO ?k1 ?_); (case k1 => exact rfl))
  | ((with_reducible refine' DE_varN ?k1 ?_); (case k1 => exact rfl)))


def W_check_rule_and_weight (ds : List PyData) (R : PyData → Prop) : Prop := ∃ (s f : Int) (w : Nat) (T : List Int) (l : Nat) (vs : List Int), ds = [rlD s f w T, wtD s l vs] ∧ Rl s f w T ∧ Wt s l vs ∧ R .none
def t_check_rule_and_weight (K : PySem.W.Frag) : TS :=
  (tSeq (tDrop (tCall (spP K W_check_rule) [] E0 (tCons (tVar 0) tNil)))
    (tSeq (tDrop (tCall (spP K W_check_weight) [] E0 (tCons (tVar 1) tNil)))
    (tDrop (tCall (spP K W_check_like_signs) [] E0 (tCons (tVar 0) (tCons (tVar 1) tNil))))))
def W_check_span (ds : List PyData) (R : PyData → Prop) : Prop := ∃ (s : Int) (L : Nat), ds = [.int s, .int L] ∧ 2 ≤ s ∧ s ≤ 4 ∧ s ^ L ≤ 1024 ∧ R .none
def t_check_span (K : PySem.W.Frag) : TS :=
  (tIfS (tTest (tOp rIsNone (tCall (spP K W_count_words) [] E0 (tCons (tVar 0) (tCons (tVar 1) (tCons (tC (.int 1024)) tNil)))) (tC .non)))
    tNever
    tNext)
def W_part_numbers (ds : List PyData) (R : PyData → Prop) : Prop := ∃ (s : Int) (L a m : Nat), ds = [.int s, .int L, .int a, .int m] ∧ 2 ≤ s ∧ s ≤ 4 ∧ a + m ≤ L ∧ s ^ L ≤ 1024 ∧ R (LI ((List.range (s ^ L).toNat).map fun (n : Nat) => num s (partOf s L n a m)))
def t_part_numbers (K : PySem.W.Frag) : TS :=
  (tSeq (tAsg (tCall (spP K W_count_words) [] E0 (tCons (tVar 0) (tCons (tOp rMinus (tOp rMinus (tVar 1) (tVar 2)) (tVar 3)) (tCons (tC (.int 1024)) tNil)))) (gName 4))
    (tSeq (tAsg (tCall (spP K W_count_words) [] E0 (tCons (tVar 0) (tCons (tVar 3) (tCons (tC (.int 1024)) tNil)))) (gName 5))
    (tRet (tLc (iRg1 (tCons (tCall (spP K W_count_words) [] E0 (tCons (tVar 0) (tCons (tVar 1) (tCons (tC (.int 1024)) tNil)))) tNil)) (gName 6) tYes (tOp rModI (tOp rDivI (tVar 6) (tVar 4)) (tVar 5)) [6]))))
def W_pulled (ds : List PyData) (R : PyData → Prop) : Prop := ∃ (s f : Int) (w : Nat) (T : List Int) (l : Nat) (vs : List Int), ds = [rlD s f w T, wtD s l vs] ∧ Rl s f w T ∧ Wt s l vs ∧ s ^ (w + l - 1) ≤ 1024 ∧ R (wtD s (w + l - 1) (pulT s w T l vs))
def t_pulled (K : PySem.W.Frag) : TS :=
  (tSeq (tDrop (tCall (spP K W_check_rule_and_weight) [] E0 (tCons (tVar 0) (tCons (tVar 1) tNil))))
    (tSeq (tAsg (tVar 1) (gTup K 3 (gNames [2, 3, 4])))
    (tSeq (tDrop (tCall (spP K W_check_span) [] E0 (tCons (tVar 2) (tCons (tOp rMinus (tOp (rPlus K) (tOp (rIx K) (tVar 0) (tC (.int 2))) (tVar 3)) (tC (.int 1))) tNil))))
    (tRet (tTup (tCons (tVar 2) (tCons (tOp rMinus (tOp (rPlus K) (tOp (rIx K) (tVar 0) (tC (.int 2))) (tVar 3)) (tC (.int 1))) (tCons (tLc (iList K (tCall (spP K W_made_numbers) [] E0 (tCons (tVar 0) (tCons (tVar 3) tNil)))) (gName 5) tYes (tOp (rIx K) (tVar 4) (tVar 5)) [5]) tNil))))))))
def W_gain_cells (ds : List PyData) (R : PyData → Prop) : Prop := ∃ (s f : Int) (w : Nat) (T : List Int) (l : Nat) (vs : List Int), ds = [rlD s f w T, wtD s l vs] ∧ R (.tuple [.int (min 0 f), .int (max ((l : Int) - 1) (f + w + l - 2) - min 0 f + 1)])
def t_gain_cells (K : PySem.W.Frag) : TS :=
  (tSeq (tAsg (tVar 0) (gTup K 4 (gNames [2, 3, 4, 2])))
    (tSeq (tAsg (tOp (rIx K) (tVar 1) (tC (.int 1))) (gName 5))
    (tSeq (tAsg (tCB rMin2A (tCons (tC (.int 0)) (tCons (tVar 3) tNil))) (gName 6))
    (tSeq (tAsg (tCB rMax2A (tCons (tOp rMinus (tVar 5) (tC (.int 1))) (tCons (tOp rMinus (tOp (rPlus K) (tOp (rPlus K) (tVar 3) (tVar 4)) (tVar 5)) (tC (.int 2))) tNil))) (gName 7))
    (tRet (tTup (tCons (tVar 6) (tCons (tOp (rPlus K) (tOp rMinus (tVar 7) (tVar 6)) (tC (.int 1))) tNil))))))))
def W_gain (ds : List PyData) (R : PyData → Prop) : Prop := ∃ (s f : Int) (w : Nat) (T : List Int) (l : Nat) (vs : List Int) (L a b : Nat), ds = [rlD s f w T, wtD s l vs] ∧ Rl s f w T ∧ Wt s l vs ∧ (b : Int) = - min 0 f ∧ (a : Int) = f - min 0 f ∧ (L : Int) = max ((l : Int) - 1) (f + w + l - 2) - min 0 f + 1 ∧ s ^ L ≤ 1024 ∧ R (wtD s L (gainT s w T l vs L a b))
def t_gain (K : PySem.W.Frag) : TS :=
  (tSeq (tDrop (tCall (spP K W_check_rule_and_weight) [] E0 (tCons (tVar 0) (tCons (tVar 1) tNil))))
    (tSeq (tAsg (tVar 1) (gTup K 3 (gNames [2, 3, 4])))
    (tSeq (tAsg (tCall (spP K W_gain_cells) [] E0 (tCons (tVar 0) (tCons (tVar 1) tNil))) (gTup K 2 (gNames [5, 6])))
    (tSeq (tDrop (tCall (spP K W_check_span) [] E0 (tCons (tVar 2) (tCons (tVar 6) tNil))))
    (tSeq (tAsg (tCall (spN K W_pulled) [] E0 (tCons (tVar 0) (tCons (tVar 1) tNil))) (gTup K 3 (gNames [7, 8, 9])))
    (tSeq (tAsg (tCall (spP K W_part_numbers) [] E0 (tCons (tVar 2) (tCons (tVar 6) (tCons (tUn rNegI (tVar 5)) (tCons (tVar 3) tNil))))) (gName 10))
    (tSeq (tAsg (tCall (spP K W_part_numbers) [] E0 (tCons (tVar 2) (tCons (tVar 6) (tCons (tOp rMinus (tOp (rIx K) (tVar 0) (tC (.int 1))) (tVar 5)) (tCons (tVar 8) tNil))))) (gName 11))
    (tSeq (tAsg (tLc (iZip K (tCons (tVar 11) (tCons (tVar 10) tNil))) (gTup K 2 (gNames [13, 14])) tYes (tOp rMinus (tOp (rIx K) (tVar 9) (tVar 13)) (tOp (rIx K) (tVar 4) (tVar 14))) [13, 14]) (gName 12))
    (tRet (tTup (tCons (tVar 2) (tCons (tVar 6) (tCons (tVar 12) tNil)))))))))))))
end Cf
namespace Cf
open PySem PySem.Spec PyProof.Rows L2
open Evl (Ex)
local macro_rules | `(tactic| walk_at "d") => `(tactic| first
  | (with_reducible refine DS_seq ?_)
  | (with_reducible refine DS_if ?_)
  | (with_reducible refine DS_ret ?_)
  | (with_reducible refine DS_next ?_)
  | (with_reducible refine DS_retN ?_)
  | (with_reducible refine DS_set ?_)
  | (with_reducible refine DS_drop ?_)
  | (with_reducible refine DS_unpack ?_)
  | (with_reducible refine DS_par ?_)
  | (with_reducible refine DE_int ?_)
  | (with_reducible refine DE_bl ?_)
  | (with_reducible refine DE_non ?_)
  | (with_reducible refine DE_str ?_)
  | (with_reducible refine DE_isi ?_)
  | (with_reducible refine DE_and ?_)
  | (with_reducible refine DE_or ?_)
  | (with_reducible refine DE_not ?_)
  | (with_reducible refine DE_if ?_)
  | (with_reducible refine DE_chain ?_)
  | (with_reducible refine DE_tyIs ?_)
  | (with_reducible refine DE_tyNot ?_)
  | (with_reducible refine DE_call ?_)
  | (with_reducible refine DE_cb ?_)
  | (with_reducible refine DE_op ?_)
  | (with_reducible refine DE_un ?_)
  | (with_reducible refine DE_tup ?_)
  | (with_reducible refine DT_test ?_)
  | (with_reducible refine DT_B ?_)
  | (with_reducible refine DT_and ?_)
  | (with_reducible refine DT_or ?_)
  | (with_reducible refine DT_not ?_)
  | (with_reducible refine DT_yes ?_)
  | (with_reducible refine DA_nil ?_)
  | (with_reducible refine DA_cons ?_)
  | (with_reducible refine DO_no ?_)
  | (with_reducible refine DO_at ?_)
  | (with_reducible refine DR_minus ?_)
  | (with_reducible refine DR_mod ?_)
  | (with_reducible refine DR_div ?_)
  | (with_reducible refine DR_pow ?_)
  | (with_reducible refine DR_lt ?_)
  | (with_reducible refine DR_le ?_)
  | (with_reducible refine DR_gt ?_)
  | (with_reducible refine DR_ge ?_)
  | (with_reducible refine DR_eq ?_)
  | (with_reducible refine DR_ne ?_)
  | (with_reducible refine DR_isN ?_)
  | (with_reducible refine DR_notN ?_)
  | (with_reducible refine DU_neg ?_)
  | (with_reducible refine DC_len ?_)
  | (with_reducible refine DC_int ?_)
  | (with_reducible refine DC_abs ?_)
  | (with_reducible refine DC_max2 ?_)
  | (with_reducible refine DC_min2 ?_)
  | (with_reducible refine DC_sum ?_)
  | (with_reducible refine DC_all ?_)
  | (with_reducible refine DC_any ?_)
  | (with_reducible refine DC_repr ?_)
  | (with_reducible refine ⟨_, kb_int _, ?_⟩)
  | (with_reducible refine ⟨_, kb_bool _, ?_⟩)
  | (with_reducible refine ⟨_, kb_list _, ?_⟩)
  | (with_reducible refine ⟨_, kb_tuple _, ?_⟩)
  | (with_reducible refine ⟨_, rfl, ?_⟩)
  | (with_reducible refine ⟨_, _, rfl, rfl, ?_⟩)
  | (with_reducible refine DE_callN ?_)
  | (with_reducible refine DR_notB ?_)
  | (with_reducible refine DE_emp ?_)
  | (with_reducible refine DE_new (DL_lst ?_))
  | (with_reducible refine DE_new (DL_sl ?_))
  | (with_reducible refine DE_slT ?_)
  | (with_reducible refine DC_list ?_)
  | ((with_reducible refine' DE_callT ?k1 ?_); (case k1 => exact rfl))
  | ((with_reducible refine' DE_var ?k1 ?_); (case k1 => exact rfl))
  | ((with_reducible refine' DE_varO ?k1 ?_); (case k1 => exact rfl))
  | ((with_reducible refine' DE_varN ?k1 ?_); (case k1 => exact rfl)))


theorem shw_fits {n k : Nat} {d : PyData} (h : Shw n k d) (hn : n ≤ 300000) (hk : k ≤ 60) : d.showable = true ∧ d.shown.length ≤ sizeLine ∧ d.depth ≤ 60 :=
  ⟨h.sb, by rw [sizeLine_eq]; exact Nat.le_trans h.ln (by omega), Nat.le_trans h.dp hk⟩
def W__law_both_right (ds : List PyData) (R : PyData → Prop) : Prop := ∃ (s f1 : Int) (w1 : Nat) (T1 : List Int) (f2 : Int) (w2 : Nat) (T2 : List Int), ds = [rlD s f1 w1 T1, rlD s f2 w2 T2] ∧ Rl s f1 w1 T1 ∧ Rl s f2 w2 T2 ∧ s ^ (w1 + w2 - 1) ≤ 1024 ∧ R (.bool true)
def t__law_both_right (K : PySem.W.Frag) : TS :=
  (tSeq (tPar 3 4 (tCons (tCall (spP K W__law_copied) [] E0 (tCons (tVar 1) tNil)) (tCons (tCall (spP K W__law_copied) [] E0 (tCons (tVar 2) tNil)) tNil)))
    (tSeq (tAsg (tCall (spP K W__law_composed) [] E0 (tCons (tVar 1) (tCons (tVar 2) tNil))) (gName 5))
    (tSeq (tIfS (tOr (tTest (tOp rLtI (tOp (rIx K) (tVar 5) (tC (.int 1))) (tUn rNegI (tC (.int 100))))) (tTest (tOp rGtI (tOp (rPlus K) (tOp (rIx K) (tVar 5) (tC (.int 1))) (tOp (rIx K) (tVar 5) (tC (.int 2)))) (tC (.int 101)))))
    (tRet (tC (.bl true)))
    tNext)
    (tSeq (tAsg (tCall (spN K W_composed) [] E0 (tCons (tVar 3) (tCons (tVar 4) tNil))) (gName 6))
    (tSeq (tIfS (tOr (tTest (tOp (rNeU K) (tCB (rReprD K) (tCons (tVar 6) tNil)) (tCB (rReprD K) (tCons (tVar 5) tNil)))) (tOr (tTest (tOp (rNeU K) (tVar 3) (tVar 1))) (tOr (tTest (tOp (rNeU K) (tVar 4) (tVar 2))) (tTest (tOp rNotB (tCall (spP K W_is_rule) [] E0 (tCons (tVar 6) tNil)) (tC (.bl true)))))))
    (tRet (tC (.bl false)))
    tNext)
    (tSeq (tFor (iList K (tLst (tCons (tC (.int 12)) (tCons (tC (.int 60)) tNil)))) (gName 7)
    (tSeq (tAsg (tCall (spT K W__law_ring) [] E0 (tCons (tVar 0) (tCons (tOp (rIx K) (tVar 1) (tC (.int 0))) (tCons (tVar 7) tNil)))) (gName 8))
    (tIfS (tTest (tOp (rNeU K) (tCall (spP K W__law_ticked) [] E0 (tCons (tVar 6) (tCons (tVar 8) tNil))) (tCall (spP K W__law_ticked) [] E0 (tCons (tVar 2) (tCons (tCall (spP K W__law_ticked) [] E0 (tCons (tVar 1) (tCons (tVar 8) tNil))) tNil)))))
    (tRet (tC (.bl false)))
    tNext)))
    (tSeq (tDrop (tBM K "list" rAppend (tOp (rIx K) (tVar 6) (tC (.int 3))) (tCons (tC (.int 0)) tNil)))
    (tRet (tOp (rEqU K) (tCB (rReprD K) (tCons (tCall (spN K W_composed) [] E0 (tCons (tVar 3) (tCons (tVar 4) tNil))) tNil)) (tCB (rReprD K) (tCons (tVar 5) tNil)))))))))))
def W__law_mirrored_right (ds : List PyData) (R : PyData → Prop) : Prop := ∃ (s f : Int) (w : Nat) (T : List Int), ds = [rlD s f w T] ∧ Rl s f w T ∧ R (.bool true)
def t__law_mirrored_right (K : PySem.W.Frag) : TS :=
  (tSeq (tPar 2 3 (tCons (tCall (spP K W__law_copied) [] E0 (tCons (tVar 1) tNil)) (tCons (tCall (spP K W__law_mirrored) [] E0 (tCons (tVar 1) tNil)) tNil)))
    (tSeq (tAsg (tCall (spN K W_mirrored) [] E0 (tCons (tVar 2) tNil)) (gName 4))
    (tSeq (tIfS (tOr (tTest (tOp (rNeU K) (tCB (rReprD K) (tCons (tVar 4) tNil)) (tCB (rReprD K) (tCons (tVar 3) tNil)))) (tOr (tTest (tOp (rNeU K) (tVar 2) (tVar 1))) (tOr (tTest (tOp rNotB (tCall (spP K W_is_rule) [] E0 (tCons (tVar 4) tNil)) (tC (.bl true)))) (tTest (tOp (rNeU K) (tCall (spN K W_mirrored) [] E0 (tCons (tVar 4) tNil)) (tVar 1))))))
    (tRet (tC (.bl false)))
    tNext)
    (tSeq (tFor (iList K (tLst (tCons (tC (.int 12)) (tCons (tC (.int 60)) tNil)))) (gName 5)
    (tSeq (tAsg (tCall (spT K W__law_ring) [] E0 (tCons (tVar 0) (tCons (tOp (rIx K) (tVar 1) (tC (.int 0))) (tCons (tVar 5) tNil)))) (gName 6))
    (tIfS (tTest (tOp (rNeU K) (tCall (spP K W__law_ticked) [] E0 (tCons (tVar 4) (tCons (tRevL K (tVar 6)) tNil))) (tRevL K (tCall (spP K W__law_ticked) [] E0 (tCons (tVar 1) (tCons (tVar 6) tNil))))))
    (tRet (tC (.bl false)))
    tNext)))
    (tSeq (tDrop (tBM K "list" rAppend (tOp (rIx K) (tVar 4) (tC (.int 3))) (tCons (tC (.int 0)) tNil)))
    (tRet (tOp (rEqU K) (tCB (rReprD K) (tCons (tCall (spN K W_mirrored) [] E0 (tCons (tVar 2) tNil)) tNil)) (tCB (rReprD K) (tCons (tVar 3) tNil)))))))))
end Cf
namespace Cf
open PySem PySem.Spec PyProof.Rows L2
open Evl (Ex)
local macro_rules | `(tactic| walk_at "d") => `(tactic| first
  | (with_reducible refine DS_seq ?_)
  | (with_reducible refine DS_if ?_)
  | (with_reducible refine DS_ret ?_)
  | (with_reducible refine DS_next ?_)
  | (with_reducible refine DS_retN ?_)
  | (with_reducible refine DS_set ?_)
  | (with_reducible refine DS_drop ?_)
  | (with_reducible refine DS_unpack ?_)
  | (with_reducible refine DS_par ?_)
  | (with_reducible refine DE_int ?_)
  | (with_reducible refine DE_bl ?_)
  | (with_reducible refine DE_non ?_)
  | (with_reducible refine DE_str ?_)
  | (with_reducible refine DE_isi ?_)
  | (with_reducible refine DE_and ?_)
  | (with_reducible refine DE_or ?_)
  | (with_reducible refine DE_not ?_)
  | (with_reducible refine DE_if ?_)
  | (with_reducible refine DE_chain ?_)
  | (with_reducible refine DE_tyIs ?_)
  | (with_reducible refine DE_tyNot ?_)
  | (with_reducible refine DE_call ?_)
  | ((with_reducible refine' DE_lenOw ?k1 ?_); (case k1 => exact rfl))
  | (with_reducible refine DE_cb ?_)
  | (with_reducible refine DE_new (DL_rep (DL_lst ?_)))
  | (with_reducible refine DE_op ?_)
  | (with_reducible refine DE_un ?_)
  | (with_reducible refine DE_tup ?_)
  | (with_reducible refine DT_test ?_)
  | (with_reducible refine DT_B ?_)
  | (with_reducible refine DT_and ?_)
  | (with_reducible refine DT_or ?_)
  | (with_reducible refine DT_not ?_)
  | (with_reducible refine DT_yes ?_)
  | (with_reducible refine DA_nil ?_)
  | (with_reducible refine DA_cons ?_)
  | (with_reducible refine DO_no ?_)
  | (with_reducible refine DO_at ?_)
  | (with_reducible refine DR_minus ?_)
  | (with_reducible refine DR_mod ?_)
  | (with_reducible refine DR_div ?_)
  | (with_reducible refine DR_pow ?_)
  | (with_reducible refine DR_lt ?_)
  | (with_reducible refine DR_le ?_)
  | (with_reducible refine DR_gt ?_)
  | (with_reducible refine DR_ge ?_)
  | (with_reducible refine DR_eq ?_)
  | (with_reducible refine DR_ne ?_)
  | (with_reducible refine DR_isN ?_)
  | (with_reducible refine DR_notN ?_)
  | (with_reducible refine DU_neg ?_)
  | (with_reducible refine DC_len ?_)
  | (with_reducible refine DC_int ?_)
  | (with_reducible refine DC_abs ?_)
  | (with_reducible refine DC_max2 ?_)
  | (with_reducible refine DC_min2 ?_)
  | (with_reducible refine DC_sum ?_)
  | (with_reducible refine DC_all ?_)
  | (with_reducible refine DC_any ?_)
  | (with_reducible refine DC_repr ?_)
  | (with_reducible refine ⟨_, kb_int _, ?_⟩)
  | (with_reducible refine ⟨_, kb_bool _, ?_⟩)
  | (with_reducible refine ⟨_, kb_list _, ?_⟩)
  | (with_reducible refine ⟨_, kb_tuple _, ?_⟩)
  | (with_reducible refine ⟨_, rfl, ?_⟩)
  | (with_reducible refine ⟨_, _, rfl, rfl, ?_⟩)
  | (with_reducible refine DE_callN ?_)
  | (with_reducible refine DE_callX ?_)
  | (with_reducible refine DR_notB ?_)
  | (with_reducible refine DE_emp ?_)
  | (with_reducible refine DE_new (DL_lst ?_))
  | (with_reducible refine DE_new (DL_sl ?_))
  | (with_reducible refine DE_slT ?_)
  | (with_reducible refine DC_list ?_)
  | ((with_reducible refine' DE_callT ?k1 ?_); (case k1 => exact rfl))
  | ((with_reducible refine' DE_var ?k1 ?_); (case k1 => exact rfl))
  | ((with_reducible refine' DE_varO ?k1 ?_); (case k1 => exact rfl))
  | ((with_reducible refine' DE_varN ?k1 ?_); (case k1 => exact rfl)))


/-! ### gains of rings: the program's -/
def W_check_total (ds : List PyData) (R : PyData → Prop) : Prop := ∃ n : Int, ds = [.int n] ∧ R .none
def t_check_total (K : PySem.W.Frag) : TS :=
  (tIfS (tNot (tB (tCall (spP K W_is_integer) [] E0 (tCons (tVar 0) tNil))))
    tNever
    tNext)
theorem ds_check_total : Keeps W_check_total 1 t_check_total := by
  intro K ds R h
  obtain ⟨n, rfl, q⟩ := h
  refine ⟨by simp, ?_⟩
  show DS K _ (t_check_total K) [.sh (.int n)] _ _ _ _
  unfold t_check_total
  repeat walk_at "d"
  refine ⟨_, rfl, _, rfl, iteF ?_⟩
  repeat walk_at "d"
  exact q
def W_added (ds : List PyData) (R : PyData → Prop) : Prop := ∃ (s : Int) (a b : Nat) (xs ys : List Int) (t : Int), ds = [wtD s a xs, wtD s b ys, .int t] ∧ Wt s a xs ∧ Wt s b ys ∧ ((-(2 ^ 64) < t ∧ t < 2 ^ 64) ∨ t.natAbs < 2 ^ 1000 ∧ ∀ v ∈ ys, v.natAbs < 2 ^ 1000) ∧ R (wtD s (max a b) (addV (wideV s (max a b - a) xs) (wideV s (max a b - b) ys) t))
def t_added (K : PySem.W.Frag) : TS :=
  (tSeq (tDrop (tCall (spP K W_check_weight) [] E0 (tCons (tVar 0) tNil)))
    (tSeq (tDrop (tCall (spP K W_check_weight) [] E0 (tCons (tVar 1) tNil)))
    (tSeq (tDrop (tCall (spP K W_check_total) [] E0 (tCons (tVar 2) tNil)))
    (tSeq (tDrop (tCall (spP K W_check_like_signs) [] E0 (tCons (tVar 0) (tCons (tVar 1) tNil))))
    (tSeq (tAsg (tCB rMax2A (tCons (tOp (rIx K) (tVar 0) (tC (.int 1))) (tCons (tOp (rIx K) (tVar 1) (tC (.int 1))) tNil))) (gName 3))
    (tSeq (tAsg (tCall (spP K W_values_at_span) [] E0 (tCons (tVar 0) (tCons (tVar 3) tNil))) (gName 4))
    (tSeq (tAsg (tCall (spP K W_values_at_span) [] E0 (tCons (tVar 1) (tCons (tVar 3) tNil))) (gName 5))
    (tRet (tTup (tCons (tOp (rIx K) (tVar 0) (tC (.int 0))) (tCons (tVar 3) (tCons (tLc (iZip K (tCons (tVar 4) (tCons (tVar 5) tNil))) (gTup K 2 (gNames [6, 7])) tYes (tOp (rPlus K) (tVar 6) (tOp rTimes (tVar 2) (tVar 7))) [6, 7]) tNil))))))))))))
theorem wide_mem {s : Int} (h : 0 < s) {l : Nat} {vs : List Int} (hl : s ^ l = (vs.length : Int)) : ∀ k : Nat, ∀ v ∈ wideV s k vs, v ∈ vs
  | 0, v, hv => hv
  | k + 1, v, hv => by
    obtain ⟨n, hn, rfl⟩ := List.mem_map.mp hv
    have hn := List.mem_range.mp hn
    have e : ((s.toNat : Nat) : Int) = s := by omega
    refine wide_mem h hl k _ (itm_mem (Int.ediv_nonneg (by omega) (by omega)) (Int.ediv_lt_of_lt_mul h ?_))
    have : ((wideV s k vs).length * s.toNat : Nat) = ((wideV s k vs).length : Int) * s := by rw [Int.natCast_mul, e]
    omega
theorem ds_added : KeepsN W_added 8 t_added := by
  intro K ds R h
  obtain ⟨s, a, b, xs, ys, t, rfl, ha, hb, ht, q⟩ := h
  have s2 := ha.s2
  have hp : 0 < s := by omega
  have lm : s ^ (max a b) ≤ 1024 := by
    rcases Nat.le_total a b with h | h
    · rw [Nat.max_eq_right h]
      exact hb.le
    · rw [Nat.max_eq_left h]
      exact ha.le
  have la := wide_len hp ha.ln (max a b - a)
  have lb := wide_len hp hb.ln (max a b - b)
  rw [show a + (max a b - a) = max a b by omega] at la
  rw [show b + (max a b - b) = max a b by omega] at lb
  refine ⟨by simp, ?_⟩
  show DSN K (t_added K) [.sh (wtD s a xs), .sh (wtD s b ys), .sh (.int t), .no, .no, .no, .no, .no] _
  unfold t_added
  refine DSN_seq ?_
  repeat walk_at "d"
  refine ⟨_, rfl, wt_short ha, wt_is ha, DSN_seq ?_⟩
  repeat walk_at "d"
  refine ⟨_, rfl, wt_short hb, wt_is hb, DSN_seq ?_⟩
  repeat walk_at "d"
  refine ⟨t, rfl, DSN_seq ?_⟩
  repeat walk_at "d"
  refine ⟨s, _, _, rfl, DSN_seq ?_⟩
  repeat walk_at "d"
  refine DR_ix (.inr ⟨_, 1, _, rfl, rfl, rfl, ?_⟩)
  repeat walk_at "d"
  refine DR_ix (.inr ⟨_, 1, _, rfl, rfl, rfl, ?_⟩)
  repeat walk_at "d"
  have em : max (a : Int) (b : Int) = ((max a b : Nat) : Int) := by omega
  refine ⟨_, _, rfl, ?_⟩
  rw [em]
  refine DSN_seq ?_
  repeat walk_at "d"
  refine ⟨s, a, xs, max a b, rfl, ha, by omega, lm, DSN_seq ?_⟩
  repeat walk_at "d"
  refine ⟨s, b, ys, max a b, rfl, hb, by omega, lm, DSN_ret (DAN_cons ?_)⟩
  repeat walk_at "d"
  refine DR_ix (.inr ⟨_, 0, _, rfl, rfl, rfl, DAN_cons ?_⟩)
  repeat walk_at "d"
  obtain ⟨X, hX⟩ : ∃ X, wideV s (max a b - a) xs = X := ⟨_, rfl⟩
  obtain ⟨Y, hY⟩ : ∃ Y, wideV s (max a b - b) ys = Y := ⟨_, rfl⟩
  rw [hX] at la
  rw [hY] at lb
  rw [hX, hY] at q
  rw [hX, hY]
  refine DAN_new (DL_lcZ (by decide) ?_)
  repeat walk_at "d"
  refine ⟨_, _, rfl, by rw [List.length_map, List.length_map]; omega, fun k acc => acc = ((List.range k).map fun (n : Nat) => itm X n + t * itm Y n).map .int, rfl, fun k d e acc hd he h => ?_, fun acc h => ?_⟩
  · obtain ⟨x, hx, rfl⟩ := map_at hd
    obtain ⟨y, hy, rfl⟩ := map_at he
    have hk : k < X.length := (List.getElem?_eq_some_iff.mp hx).1
    have ex : itm X (k : Int) = x := by
      unfold itm
      rw [Int.toNat_natCast, List.getD_eq_getElem?_getD, hx]
      rfl
    have ey : itm Y (k : Int) = y := by
      unfold itm
      rw [Int.toNat_natCast, List.getD_eq_getElem?_getD, hy]
      rfl
    subst h
    refine ⟨by rw [List.length_map, List.length_map, List.length_range]; omega, DT_yes (iteT ?_)⟩
    repeat walk_at "d"
    have ht2 : ∀ Q : PyData → Prop, Q (.int (t * y)) → DR K rTimes (.int t) (.int y) Q := fun Q hq => by
      rcases ht with ht | ⟨t1, t2⟩
      · exact DR_timesI ⟨_, _, rfl, rfl, .inl ht, hq⟩
      · exact DR_timesW ⟨_, _, rfl, rfl, wide_mul (a := 1000) (b := 1000) t1 (t2 y (wide_mem hp hb.ln _ y (by rw [hY]; exact List.mem_of_getElem? hy))) (by decide) (by decide) (by decide), hq⟩
    refine ht2 _ (DR_plusI ⟨_, _, rfl, rfl, ?_⟩)
    show _ = ((List.range (k + 1)).map fun (n : Nat) => itm X n + t * itm Y n).map PyData.int
    rw [range_take, List.map_append, ex, ey]
    rfl
  · rw [List.length_map] at h
    subst h
    refine ⟨by rw [List.length_map, List.length_map, List.length_range]; omega, by simp, q⟩

def W_divisor (ds : List PyData) (R : PyData → Prop) : Prop := ∃ (s : Int) (l : Nat) (vs : List Int), ds = [wtD s l vs] ∧ Wt s l vs ∧ R (.int (gcdL (plainOf s l vs).2))
def t_divisor (K : PySem.W.Frag) : TS :=
  (tSeq (tAsg (tC (.int 0)) (gName 1))
    (tSeq (tFor (iList K (tOp (rIx K) (tCall (spN K W_plain) [] E0 (tCons (tVar 0) tNil)) (tC (.int 2)))) (gName 2)
    (tAsg (tCB rGcd (tCons (tVar 1) (tCons (tVar 2) tNil))) (gName 1)))
    (tRet (tVar 1))))
theorem ds_divisor : Keeps W_divisor 3 t_divisor := by
  intro K ds R h
  obtain ⟨s, l, vs, rfl, hw, q⟩ := h
  refine ⟨by simp, ?_⟩
  show DS K _ (t_divisor K) [.sh (wtD s l vs), .no, .no] _ _ _ _
  unfold t_divisor
  repeat walk_at "d"
  refine DS_forL ?_
  repeat walk_at "d"
  refine ⟨s, l, vs, rfl, hw, ?_⟩
  obtain ⟨G, hG⟩ : ∃ G, plainOf s l vs = G := ⟨_, rfl⟩
  rw [hG] at q
  rw [hG]
  repeat walk_at "d"
  refine DR_ix (.inr ⟨_, 2, _, rfl, rfl, rfl, ?_⟩)
  refine ⟨_, rfl, fun k ρ => ∃ z, ρ = [.sh (wtD s l vs), .sh (.int ((G.2.take k).foldl gcdF 0)), z], ⟨_, rfl⟩, fun k d ρ hd hI => ?_, fun ρ hI => ?_⟩
  · obtain ⟨z, rfl⟩ := hI
    obtain ⟨v, hv, rfl⟩ := map_at hd
    repeat walk_at "d"
    refine DC_gcd ⟨_, _, rfl, .sh (.int v), ?_⟩
    rw [take_snoc hv, List.foldl_append]
    rfl
  · obtain ⟨z, rfl⟩ := hI
    repeat walk_at "d"
    rw [List.length_map, List.take_of_length_le (Nat.le_refl _)]
    exact q

def pulN (s : Int) (w : Nat) (T : List Int) (l : Nat) (vs : List Int) : Nat → Nat × List Int
  | 0 => (l, vs)
  | k + 1 => (w + (pulN s w T l vs k).1 - 1, pulT s w T (pulN s w T l vs k).1 (pulN s w T l vs k).2)
def tickN (s f : Int) (w : Nat) (T r : List Int) : Nat → List Int
  | 0 => r
  | k + 1 => tick s f w T (tickN s f w T r k)
def gainP (s : Int) (w : Nat) (T : List Int) (l : Nat) (vs : List Int) (n : Nat) : Nat × List Int := plainOf s (pulN s w T l vs n).1 (addV (pulN s w T l vs n).2 (wideV s ((pulN s w T l vs n).1 - l) vs) (-1))
def W_ring_gain (ds : List PyData) (R : PyData → Prop) : Prop := ∃ (s f : Int) (w : Nat) (T : List Int) (l : Nat) (vs : List Int) (n : Nat), ds = [rlD s f w T, wtD s l vs, .int n] ∧ Rl s f w T ∧ Wt s l vs ∧ n ≤ 8 ∧ s ^ (l + n * (w - 1)) ≤ 1024 ∧ R (wtD s (gainP s w T l vs n).1 (gainP s w T l vs n).2)
def t_ring_gain (K : PySem.W.Frag) : TS :=
  (tSeq (tDrop (tCall (spP K W_check_rule) [] E0 (tCons (tVar 0) tNil)))
    (tSeq (tDrop (tCall (spP K W_check_weight) [] E0 (tCons (tVar 1) tNil)))
    (tSeq (tDrop (tCall (spP K W_check_ticks) [] E0 (tCons (tVar 2) (tCons (tC (.int 8)) tNil))))
    (tSeq (tDrop (tCall (spP K W_check_like_signs) [] E0 (tCons (tVar 0) (tCons (tVar 1) tNil))))
    (tSeq (tAsg (tVar 1) (gName 3))
    (tSeq (tFor (iRg1 (tCons (tVar 2) tNil)) (gName 4)
    (tAsg (tCall (spN K W_pulled) [] E0 (tCons (tVar 0) (tCons (tVar 3) tNil))) (gName 3)))
    (tRet (tCall (spN K W_plain) [] E0 (tCons (tCall (spN K W_added) [] E0 (tCons (tVar 3) (tCons (tVar 1) (tCons (tUn rNegI (tC (.int 1))) tNil)))) tNil)))))))))
end Cf
/-! a list's truth, stores into a list of its own, extend, comprehensions over pairs, wide powers -/
namespace Cf
open PySem PySem.Spec PyProof.Rows L2
open Evl (Ex)
/-- ** of ints below 2 ^ 9000, up to the tenth power -/
def CPowW (i j : Int) : Prop := 0 ≤ j ∧ j ≤ 100 ∧ i.natAbs < 2 ^ 9000
def rPowW : R2 := rI CPowW fun i j => .int (i ^ j.toNat)
def tTru (K : PySem.W.Frag) (ta : TE) : TT := fun σ H Q => ta σ H fun x H' => ∃ k, TruV K x H' k ∧ Q k H'
section
variable {K : PySem.W.Frag} {t : Option Addr} {ρ : Rho} {i j : Nat} {d : PyData} {te ti tl : TE} {t1 t2 : TS} {N B C : Rho → Prop} {R : PyData → Prop}
/-- xs.extend(a new list), xs a list of its own -/
theorem DS_extend {ds : List PyData} (h : ρ[i]? = some (.ow ds)) (he : DL K t te ρ fun es => ds.length + es.length ≤ 100000 ∧ N (ρ.set i (.ow (ds ++ es)))) : DS K t (tDrop (tBM K "list" rExtend (tVar i) (tCons te tNil))) ρ N R B C :=
  fun F0 H0 F H σ D A kn kr kb kc => by
    obtain ⟨p, xs, e, h1, h2, h3, h4, h5⟩ := A.own h
    refine ⟨.ref p, e, .inl ⟨rfl, xs, .inl (.inl h1)⟩, he F0 H0 F H σ A _ fun es b zs F1 H1 hq s1 n n1 n2 z => ?_⟩
    have A1 := A.step s1
    obtain ⟨hl, q⟩ := hq
    obtain ⟨p', xs', e', g1, g2, g3, g4, g5⟩ := A1.own h
    rw [e] at e'
    cases e'
    exact ⟨p, b, xs', zs, rfl, rfl, g1, n2, Evl.sz_of (by rw [g5.len, z.len]; exact hl), kn _ F1 _ σ q (A1.put h e (g5.app z)) s1.ff⟩
/-- repr of a list of its own -/
theorem DE_reprOw {ds : List PyData} {Q : PyData → Prop} (h : ρ[i]? = some (.ow ds)) (q : (PyData.list ds).showable = true ∧ (PyData.list ds).shown.length ≤ sizeLine ∧ (PyData.list ds).depth ≤ 60 ∧ Q (.str (PyData.list ds).shown)) : DE K t (tCB (rReprD K) (tCons (tVar i) tNil)) ρ Q := fun F0 H0 F H σ A QK k => by
  obtain ⟨p, xs, e, h1, h2, h3, h4, h5⟩ := A.own h
  exact ⟨.ref p, e, .ref p, .list ds, rfl, .lst (.inl (.inl h1)) (h5.up A.fh), q.1, q.2.1, q.2.2.1, k _ _ F H q.2.2.2 A.rfl (.str _)⟩
/-! ### defs that return a list of their own -/
def DSG (K : PySem.W.Frag) (ts : TS) (ρ : Rho) (R : List PyData → Prop) : Prop := ∀ (F0 H0 F H : Hp) (σ : L2.St) (D : Ends), At K none F0 H0 F H σ ρ →
  (∀ es p xs F' H', R es → Gr none F0 H0 F' H' → H0 p = none → F' p = none → H' p = some (.lst xs) → Dqs K F' es xs → D.rt (.ref p) H') → ts D σ H
abbrev KeepsG (W : List PyData → (List PyData → Prop) → Prop) (n : Nat) (tb : PySem.W.Frag → TS) : Prop :=
  ∀ (K : PySem.W.Frag) (ds : List PyData) (R : List PyData → Prop), W ds R → ds.length ≤ n ∧ DSG K (tb K) (ds.map Sl.sh ++ List.replicate (n - ds.length) Sl.no) R
end
end Cf
namespace Cf
open PySem PySem.Spec PyProof.Rows L2
open Evl (Ex)
section
variable {K : PySem.W.Frag} {t : Option Addr} {ρ : Rho} {i j : Nat} {d : PyData} {te ta tb tl : TE} {t1 t2 : TS} {N B C : Rho → Prop} {R : PyData → Prop}
end
end Cf
/-! dicts of a def's own: keys that are ints, keys that are tuples of ints -/
namespace Cf
open PySem PySem.Spec PyProof.Rows L2
open Evl (Ex)
theorem unit1 {n m : Nat} (h : n + 64 < m) : n + 1 < m := by omega
/-! ### {k: v} with a tuple as its key -/
def tDispT (tk tv : TE) : TE := fun σ H Q => ∀ p, H p = none → tPairs [(tk, tv)] σ (upd H p (.dT [])) fun ps H2 => H2 p = some (.dT []) ∧ ∃ (b : Addr) (k : List Key) (v : V), ps = [(.ref b, v)] ∧ H2 b = some (.tup (k.map kV)) ∧ Q (.ref p) (upd H2 p (.dT [(k, v)]))
section
variable {κ : Type} [DecidableEq κ]
def valD (kvs : List (κ × PyData)) (k : κ) : Option PyData := (kvs.find? fun kv => decide (kv.1 = k)).map (·.2)
def putD (kvs : List (κ × PyData)) (k : κ) (d : PyData) : List (κ × PyData) :=
  if (kvs.any fun kv => decide (kv.1 = k)) = true then kvs.map (fun kv => if kv.1 = k then (kv.1, d) else kv) else kvs ++ [(k, d)]
variable {K : PySem.W.Frag} {F : Hp}
theorem Dkv.val : ∀ {kvs : List (κ × PyData)} {xs : List (κ × V)} (k : κ), Dkv K F kvs xs → (valD kvs k = none ∧ valV xs k = none) ∨ ∃ d v, valD kvs k = some d ∧ valV xs k = some v ∧ Dq K F d v
  | [], _, k, .nil => .inl ⟨rfl, rfl⟩
  | (k', d) :: kvs, (_, v) :: xs, k, .cons h1 h2 => by
    by_cases e : k' = k
    · exact .inr ⟨d, v, by simp [valD, List.find?_cons, e], by simp [valV, List.find?_cons, e], h1⟩
    · rcases Dkv.val k h2 with ⟨a, b⟩ | ⟨d', v', a, b, c⟩
      · exact .inl ⟨by rw [← a]; simp [valD, List.find?_cons, e], by rw [← b]; simp [valV, List.find?_cons, e]⟩
      · exact .inr ⟨d', v', by rw [← a]; simp [valD, List.find?_cons, e], by rw [← b]; simp [valV, List.find?_cons, e], c⟩
theorem Dkv.len : ∀ {kvs : List (κ × PyData)} {xs : List (κ × V)}, Dkv K F kvs xs → xs.length = kvs.length
  | [], _, .nil => rfl
  | _ :: _, _ :: _, .cons _ h => congrArg (· + 1) (Dkv.len h)
theorem Dkv.any : ∀ {kvs : List (κ × PyData)} {xs : List (κ × V)} (k : κ), Dkv K F kvs xs → (xs.any fun kv => decide (kv.1 = k)) = kvs.any fun kv => decide (kv.1 = k)
  | [], _, k, .nil => rfl
  | (k', d) :: kvs, (_, v) :: xs, k, .cons _ h => by
    rw [List.any_cons, List.any_cons, Dkv.any k h]
theorem Dkv.snoc : ∀ {kvs : List (κ × PyData)} {xs : List (κ × V)} {k : κ} {d : PyData} {v : V}, Dkv K F kvs xs → Dq K F d v → Dkv K F (kvs ++ [(k, d)]) (xs ++ [(k, v)])
  | [], _, _, _, _, .nil, q => .cons q .nil
  | _ :: _, _ :: _, _, _, _, .cons h1 h2, q => .cons h1 (Dkv.snoc h2 q)
theorem Dkv.repl : ∀ {kvs : List (κ × PyData)} {xs : List (κ × V)} {k : κ} {d : PyData} {v : V}, Dkv K F kvs xs → Dq K F d v → Dkv K F (kvs.map fun kv => if kv.1 = k then (kv.1, d) else kv) (xs.map fun kv => if kv.1 = k then (kv.1, v) else kv)
  | [], _, _, _, _, .nil, _ => .nil
  | (k', d') :: kvs, (_, v') :: xs, k, d, v, .cons h1 h2, q => by
    rw [List.map_cons, List.map_cons]
    by_cases e : k' = k
    · rw [if_pos e, if_pos e]
      exact .cons q (Dkv.repl h2 q)
    · rw [if_neg e, if_neg e]
      exact .cons h1 (Dkv.repl h2 q)
theorem Dkv.put {kvs : List (κ × PyData)} {xs : List (κ × V)} {k : κ} {d : PyData} {v : V} (h : Dkv K F kvs xs) (q : Dq K F d v) : Dkv K F (putD kvs k d) (putK xs k v) := by
  unfold putD putK
  rw [h.any k]
  split
  · exact h.repl q
  · exact h.snoc q
theorem valD_put (kvs : List (κ × PyData)) (k k' : κ) (d : PyData) : valD (putD kvs k d) k' = if k' = k then some d else valD kvs k' := by
  unfold putD
  split
  · rename_i h
    by_cases e : k' = k
    · subst e
      rw [if_pos rfl]
      induction kvs with
      | nil => simp at h
      | cons p r ih =>
        rw [List.map_cons]
        by_cases e2 : p.1 = k'
        · simp [valD, List.find?_cons, e2]
        · rw [if_neg e2]
          have h' : (r.any fun kv => decide (kv.1 = k')) = true := by simpa [e2] using h
          have := ih h'
          simpa [valD, List.find?_cons, e2] using this
    · rw [if_neg e]
      clear h
      induction kvs with
      | nil => rfl
      | cons p r ih =>
        rw [List.map_cons]
        by_cases e2 : p.1 = k
        · have e3 : ¬ k = k' := fun z => e z.symm
          simp only [e2, if_true, valD, List.find?_cons, e3, decide_false]
          simpa [valD] using ih
        · rw [if_neg e2]
          by_cases e3 : p.1 = k'
          · simp [valD, List.find?_cons, e3]
          · simp only [valD, List.find?_cons, e3, decide_false]
            simpa [valD] using ih
  · rename_i h
    have hn : ∀ kv ∈ kvs, kv.1 ≠ k := fun kv hk e => by
      simp at h
      exact h kv.2 (by rw [← e]; exact hk)
    clear h
    induction kvs with
    | nil =>
      by_cases e : k' = k
      · subst e
        simp [valD]
      · have e3 : ¬ k = k' := fun z => e z.symm
        simp [valD, e, e3]
    | cons p r ih =>
      have ih := ih fun kv h => hn kv (List.mem_cons_of_mem _ h)
      by_cases e3 : p.1 = k'
      · have : ¬ k' = k := fun z => hn p List.mem_cons_self (e3.trans z)
        rw [if_neg this]
        simp [valD, List.find?_cons, e3]
      · simp only [List.cons_append, valD, List.find?_cons, e3, decide_false]
        simpa [valD] using ih
theorem putD_length (kvs : List (κ × PyData)) (k : κ) (d : PyData) : (putD kvs k d).length ≤ kvs.length + 1 := by
  unfold putD
  split <;> simp
end
section
variable {K : PySem.W.Frag} {t : Option Addr} {ρ : Rho} {i j : Nat} {d : PyData} {te ta tb tl : TE} {t1 t2 : TS} {N B C : Rho → Prop} {R : PyData → Prop}
/-- an object that no slot tells is changed -/
theorem At.poke {F0 H0 F H : Hp} {σ : L2.St} {p : Addr} {o : HO} (A : At K t F0 H0 F H σ ρ) (hF : F p = none) (h0 : H0 p = none) (hl : ∀ xs, H p ≠ some (.lst xs)) (ht : t ≠ some p) (hd : ∀ (j : Nat), (∀ kvs, ρ[j]? ≠ some (.dk p kvs)) ∧ ∀ kvs, ρ[j]? ≠ some (.dt p kvs)) : At K t F0 H0 F (upd H p o) σ ρ where
  gr := ⟨A.gr.ff, fun a u n q => by
    rw [upd_ne (fun z => by rw [z, h0] at q; cases q)]
    exact A.gr.hh a u n q, fun a u q => by
    rw [upd_ne (fun z => by rw [z, hF] at q; cases q)]
    exact A.fh a u q, A.gr.nw⟩
  len := A.len
  sl := fun j o' s h1 h2 => by
    have w := A.sl j o' s h1 h2
    cases s with
    | no => trivial
    | sh d => exact w
    | ow ds =>
      obtain ⟨q, xs, e, w1, w2⟩ := w
      exact ⟨q, xs, e, by rw [upd_ne (fun z => hl xs (by rw [← z]; exact w1))]; exact w1, w2⟩
    | tp => exact w
    | vl v => exact w
    | od d => exact w
    | nw d => exact w
    | dk q kvs =>
      obtain ⟨e, ⟨xs, w1, wq⟩, w2⟩ := w
      exact ⟨e, ⟨xs, by rw [upd_ne (fun z => (hd j).1 kvs (by rw [← z]; exact h2))]; exact w1, wq⟩, w2⟩
    | dt q kvs =>
      obtain ⟨e, ⟨xs, w1, wq⟩, w2⟩ := w
      exact ⟨e, ⟨xs, by rw [upd_ne (fun z => (hd j).2 kvs (by rw [← z]; exact h2))]; exact w1, wq⟩, w2⟩
  ap := A.ap
  tp := fun a q => by
    obtain ⟨w1, x, y, z, w2, w3⟩ := A.tp a q
    exact ⟨w1, x, y, z, by rw [upd_ne (fun z => ht (by rw [q, z]))]; exact w2, w3⟩
theorem At.nodict {F0 H0 F H : Hp} {σ : L2.St} {p : Addr} (A : At K t F0 H0 F H σ ρ) (n : H p = none) : ∀ (j : Nat), (∀ kvs, ρ[j]? ≠ some (.dk p kvs)) ∧ ∀ kvs, ρ[j]? ≠ some (.dt p kvs) := fun j => by
  refine ⟨fun kvs h => ?_, fun kvs h => ?_⟩
  · obtain ⟨o, e, _, ⟨xs, w1, _⟩, _⟩ := A.slot h
    rw [n] at w1
    cases w1
  · obtain ⟨o, e, _, ⟨xs, w1, _⟩, _⟩ := A.slot h
    rw [n] at w1
    cases w1
end
end Cf
/-! dicts of a def's own whose keys are ints and texts -/
namespace Cf
open PySem PySem.Spec PyProof.Rows L2
open Evl (Ex)
def kD : Key → PyData
  | .inl i => .int i
  | .inr s => .str s
section
variable {K : PySem.W.Frag} {t : Option Addr} {ρ : Rho} {i j : Nat} {d : PyData} {te ta tb tl : TE} {t1 t2 : TS} {N B C : Rho → Prop} {R : PyData → Prop}
end
end Cf
/-! rings of few signs have unlike texts -/
namespace Cf
open PySem
def digs : List Int → List Str
  | [] => []
  | d :: r => ⟨#[48 + d.toNat]⟩ :: digs r
def sep (n : Nat) : List Nat := if n > 0 then [44, 32] else []
def bod : Nat → List Int → List Nat
  | _, [] => []
  | n, d :: r => sep n ++ (48 + d.toNat) :: bod (n + 1) r
end Cf
/-! k in d, k not in d, divmod -/
namespace Cf
open PySem PySem.Spec PyProof.Rows L2
open Evl (Ex)
def rDivmod : List V → Hp → VK → Prop := fun xs H Q => ∃ i j, xs = [.int i, .int j] ∧ CDiv i j ∧ ∀ (p : Addr), H p = none → Q (.ref p) (upd H p (.tup [.int (i / j), .int (i % j)]))
section
variable {K : PySem.W.Frag} {t : Option Addr} {ρ : Rho} {i j : Nat} {d : PyData} {te : TE}
end
end Cf
/-! k07, k08: heights of words, kept in a dict by a def that calls itself -/
namespace Cf
open PySem PySem.Spec PyProof.Rows L2
open Evl (Ex)
def htn (s : Int) (m : Nat) (vs : List Int) (n : Int) : Int := hts s vs m n - m * itm vs 0
theorem htn_zero (s : Int) (m : Nat) (vs : List Int) : htn s m vs 0 = 0 := by
  unfold htn
  rw [hts_zero]
  omega
theorem htn_step {s : Int} (h : 0 < s) {m : Nat} {vs : List Int} {n : Int} (n0 : 0 ≤ n) (n1 : n < s ^ m) : htn s m vs n = itm vs n - itm vs 0 + htn s m vs (n / s) := by
  cases m with
  | zero =>
    have : n = 0 := by
      rw [Int.pow_zero] at n1
      omega
    subst this
    rw [Int.zero_ediv, htn_zero]
    omega
  | succ k =>
    have q0 : 0 ≤ n / s := Int.ediv_nonneg n0 (by omega)
    have q1 : n / s < s ^ k := Int.ediv_lt_of_lt_mul h (by rw [← Int.pow_succ]; exact n1)
    have e := hts_more h vs k 1 (n / s) q0 q1
    unfold htn
    rw [e]
    show itm vs n + hts s vs k (n / s) - _ = _
    omega
/-- the entries for the numbers L -/
def htK (s : Int) (m : Nat) (vs L : List Int) : List (Key × V) := L.map fun n => ((.inl n : Key), V.int (htn s m vs n))
theorem htK_in {s : Int} {m : Nat} {vs : List Int} {n : Int} : ∀ {L : List Int}, n ∈ L → valV (htK s m vs L) (.inl n) = some (.int (htn s m vs n))
  | x :: L, h => by
    unfold htK
    rw [List.map_cons]
    by_cases e : x = n
    · subst e
      exact valV_pos rfl
    · rw [valV_neg (fun z => e (Sum.inl.inj z))]
      rcases List.mem_cons.mp h with z | z
      · exact absurd z.symm e
      · exact htK_in z
theorem htK_no {s : Int} {m : Nat} {vs : List Int} {n : Int} : ∀ {L : List Int}, n ∉ L → valV (htK s m vs L) (.inl n) = none
  | [], _ => rfl
  | x :: L, h => by
    unfold htK
    rw [List.map_cons, valV_neg (fun z => h (by rw [Sum.inl.inj z]; exact List.mem_cons_self))]
    exact htK_no fun z => h (List.mem_cons_of_mem _ z)
theorem htK_put {s : Int} {m : Nat} {vs : List Int} {n : Int} {L : List Int} (h : n ∉ L) : putK (htK s m vs L) (.inl n) (.int (htn s m vs n)) = htK s m vs (L ++ [n]) := by
  unfold putK
  rw [valV_any, htK_no h, if_neg (by simp)]
  unfold htK
  rw [List.map_append]
  rfl
/-- the promise of _law_height for numbers of up to d signs: entries come to the dict alone -/
def spHt (K : PySem.W.Frag) (d : Nat) : Sp := fun vs H Q _ => ∃ (F : Hp) (s : Int) (m : Nat) (xs : List Int) (v : V) (p : Addr) (n : Int) (L : List Int), vs = [v, .ref p, .int n] ∧ Ex F H ∧ Dq K F (wtD s (m + 1) xs) v ∧ F p = none ∧ H p = some (.dK (htK s m xs L)) ∧
  Wt s (m + 1) xs ∧ 0 ≤ n ∧ n < s ^ m ∧ n < s ^ d ∧ 0 ∈ L ∧ L.length + d ≤ 100000 ∧ ∀ L', 0 ∈ L' → L'.length ≤ L.length + d → Q (.int (htn s m xs n)) (upd H p (.dK (htK s m xs L')))
def spHtI (K : PySem.W.Frag) : Nat → Sp
  | 0 => fun _ _ _ _ => False
  | d + 1 => spHt K d
def t__law_height (K : PySem.W.Frag) (sp : Sp) : TS :=
  (tSeq (tIfS (tB (tDNotIn (tVar 2) (tVar 1)))
    (tSeq (tAsg (tOp (rIx K) (tVar 0) (tC (.int 2))) (gName 3))
    (sDPut (tVar 1) (tVar 2) (tOp (rPlus K) (tOp rMinus (tOp (rIx K) (tVar 3) (tVar 2)) (tOp (rIx K) (tVar 3) (tC (.int 0)))) (tCall sp [] E0 (tCons (tVar 0) (tCons (tVar 1) (tCons (tOp rDivI (tVar 2) (tOp (rIx K) (tVar 0) (tC (.int 0)))) tNil)))))))
    tNext)
    (tRet (tDGet (tVar 1) (tVar 2))))
theorem upd_id {H : Hp} {p : Addr} {o : HO} (h : H p = some o) : upd H p o = H := by
  funext b
  unfold upd
  split
  · rename_i e
    rw [e, h]
  · rfl
theorem run_ht {K : PySem.W.Frag} {d : Nat} {vs : List V} {H : Hp} {Q : VK} {E : XK} (h : spHt K d vs H Q E) : t__law_height K (spHtI K d) { nx := fun _ H' => Q .non H', rt := Q } (L2.start ["weight", "known", "number", "values"] vs) H := by
  obtain ⟨F, s, m, xs, v, p, n, L, rfl, e, zw, fp, hp, hw, n0, nm, nd, hk, hl, k⟩ := h
  have s2 := hw.s2
  have s4 := hw.s4
  have hs : 0 < s := by omega
  have ln := hw.ln
  have le := hw.le
  have pm := pow_pos' hs m
  have m1 : s ^ m ≤ s ^ (m + 1) := pow_mono (by omega) (by omega)
  have zw0 := zw
  cases zw with
  | @tup a ys _ s1 s2' =>
  obtain ⟨y0, r0, rfl, q0, s3⟩ : ∃ y r, ys = y :: r ∧ Dq K F (.int s) y ∧ Dqs K F [.int ((m + 1 : Nat) : Int), LI xs] r := by cases s2' with | cons a b => exact ⟨_, _, rfl, a, b⟩
  obtain ⟨y1, r1, rfl, q1, s4⟩ : ∃ y r, r0 = y :: r ∧ Dq K F (.int ((m + 1 : Nat) : Int)) y ∧ Dqs K F [LI xs] r := by cases s3 with | cons a b => exact ⟨_, _, rfl, a, b⟩
  obtain ⟨y2, r2, rfl, q2, s5⟩ : ∃ y r, r1 = y :: r ∧ Dq K F (LI xs) y ∧ Dqs K F [] r := by cases s4 with | cons a b => exact ⟨_, _, rfl, a, b⟩
  cases s5
  cases q0
  cases q2 with
  | @lst b zs _ s6 s7 =>
  have ez := Dqs.ints s7
  subst ez
  have nl : n < xs.length := by omega
  have at_ : ∀ z : Int, 0 ≤ z → z < xs.length → atI (xs.map V.int) z = some (.int (itm xs z)) := fun z z0 z1 => by
    obtain ⟨j, rfl⟩ := Int.eq_ofNat_of_zero_le z0
    refine atI_nat ?_
    rw [List.getElem?_map, List.getElem?_eq_getElem (by omega)]
    show some (V.int xs[j]) = _
    unfold itm
    rw [Int.toNat_natCast, List.getD_eq_getElem?_getD, List.getElem?_eq_getElem (by omega)]
    rfl
  -- behind the if
  have back : ∀ (H' : Hp) (L' : List Int) (w3 : Option V), H' = upd H p (.dK (htK s m xs L')) → 0 ∈ L' → n ∈ L' → L'.length ≤ L.length + d → tRet (tDGet (tVar 1) (tVar 2)) { nx := fun _ H' => Q .non H', rt := Q } [some (.ref a), some (.ref p), some (.int n), w3] H' := by
    intro H' L' w3 eH hk' hv hl'
    have hp' : H' p = some (.dK (htK s m xs L')) := by rw [eH, upd_same]
    refine ⟨.ref p, rfl, .int n, rfl, p, .int (htn s m xs n), rfl, ?_, ?_⟩
    · rw [← htK_in hv]
      exact DGet.k (k := .inl n) hp'
    · rw [eH]
      exact k L' hk' hl'
  show tSeq _ _ _ [some (.ref a), some (.ref p), some (.int n), none] H
  refine ⟨.int n, rfl, .ref p, rfl, p, valV (htK s m xs L) (.inl n), rfl, DGet.k (k := .inl n) hp, ?_⟩
  refine ⟨_, rfl, ?_⟩
  by_cases ho : n ∈ L
  · rw [htK_in ho]
    show if (!(some (V.int (htn s m xs n))).isSome) = true then _ else _
    rw [if_neg (by simp)]
    exact back H L none (upd_id hp).symm hk ho (by omega)
  · rw [htK_no ho]
    have nz : n ≠ 0 := fun e => ho (by rw [e]; exact hk)
    obtain ⟨d, rfl⟩ : ∃ d', d = d' + 1 := ⟨d - 1, by
      cases d with
      | zero =>
        rw [Int.pow_zero] at nd
        omega
      | succ d => omega⟩
    have q0 : 0 ≤ n / s := Int.ediv_nonneg n0 (by omega)
    have q1 : n / s < s ^ d := Int.ediv_lt_of_lt_mul hs (by rw [← Int.pow_succ]; exact nd)
    have qn : n / s ≤ n := Int.ediv_le_self _ n0
    show if (!(none : Option V).isSome) = true then _ else _
    rw [if_pos (by rfl)]
    refine ⟨.ref a, rfl, .inr (.inl ⟨a, _, 2, .ref b, rfl, rfl, Evl.ex_t e s1, rfl, ?_⟩)⟩
    refine ⟨.ref b, rfl, .int n, rfl, .inl ⟨b, _, n, _, rfl, rfl, Evl.ex_l e s6, at_ n n0 nl, ?_⟩⟩
    refine ⟨.ref b, rfl, .inl ⟨b, _, 0, _, rfl, rfl, Evl.ex_l e s6, at_ 0 (Int.le_refl _) (by omega), ?_⟩⟩
    refine ⟨_, _, rfl, rfl, ?_⟩
    refine ⟨.ref a, rfl, .ref p, rfl, .int n, rfl, .ref a, rfl, .inr (.inl ⟨a, _, 0, _, rfl, rfl, Evl.ex_t e s1, rfl, ?_⟩)⟩
    refine ⟨n, s, rfl, rfl, wide_div (b := 8) (by omega) (by omega) (by decide) (by decide), ?_⟩
    refine ⟨F, s, m, xs, .ref a, p, n / s, L, rfl, e, zw0, fp, hp, hw, q0, by omega, q1, hk, by omega, fun L' hk' hl' => ?_⟩
    refine .inl ⟨_, _, rfl, rfl, ?_⟩
    have hp' : (upd H p (.dK (htK s m xs L'))) p = some (.dK (htK s m xs L')) := upd_same
    refine ⟨.ref p, rfl, .int n, rfl, p, _, rfl, DPut.k (k := .inl n) hp' (Evl.sz_lt (by unfold htK; rw [List.length_map]; omega)), ?_⟩
    have ev : itm xs n - itm xs 0 + htn s m xs (n / s) = htn s m xs n := (htn_step hs n0 nm).symm
    show tRet (tDGet (tVar 1) (tVar 2)) { nx := fun _ H' => Q .non H', rt := Q } [some (.ref a), some (.ref p), some (.int n), some (.ref b)] _
    have ev2 : (fun i j => V.int (i + j)) (itm xs n - itm xs 0) (htn s m xs (n / s)) = V.int (htn s m xs n) := congrArg V.int ev
    rw [ev2]
    by_cases h2 : n ∈ L'
    · have es : putK (htK s m xs L') (.inl n) (.int (htn s m xs n)) = htK s m xs L' := by
        unfold putK
        rw [valV_any, htK_in h2, if_pos (by simp)]
        unfold htK
        rw [List.map_map]
        refine List.map_congr_left fun x _ => ?_
        show (if (Sum.inl x : Key) = Sum.inl n then _ else _) = _
        split
        · rename_i w
          rw [Sum.inl.inj w]
        · rfl
      rw [es]
      exact back _ L' _ upd_upd hk' h2 (by omega)
    · rw [htK_put h2]
      exact back _ (L' ++ [n]) _ upd_upd (List.mem_append_left _ hk') (List.mem_append_right _ (List.mem_singleton.mpr rfl)) (by rw [List.length_append]; simp; omega)
end Cf
/-! k07, k08: two heights asked in one statement; {0: 0} beside a value; a tap of a def's own -/
namespace Cf
open PySem PySem.Spec PyProof.Rows L2
open Evl (Ex)
def htD (s : Int) (m : Nat) (vs L : List Int) : List (Key × PyData) := L.map fun n => ((.inl n : Key), PyData.int (htn s m vs n))
theorem htD_to {K : PySem.W.Frag} {F : Hp} {s : Int} {m : Nat} {vs : List Int} : ∀ {L : List Int} {ys : List (Key × V)}, Dkv K F (htD s m vs L) ys → ys = htK s m vs L
  | [], ys, h => by
    generalize e : htD s m vs [] = l at h
    cases h with
    | nil => rfl
    | cons => cases e
  | x :: L, ys, h => by
    have h : Dkv K F (((.inl x : Key), PyData.int (htn s m vs x)) :: htD s m vs L) ys := h
    cases h with
    | cons h1 h2 =>
      cases h1
      rw [htD_to h2]
      rfl
theorem htD_of {K : PySem.W.Frag} {F : Hp} {s : Int} {m : Nat} {vs : List Int} : ∀ {L : List Int}, Dkv K F (htD s m vs L) (htK s m vs L)
  | [] => .nil
  | _ :: L => .cons (.int _) (htD_of (L := L))
section
variable {K : PySem.W.Frag} {t : Option Addr} {ρ : Rho} {i j : Nat} {d : PyData} {te ea eb : TE} {t1 t2 : TS} {N B C : Rho → Prop} {R : PyData → Prop}
theorem At.newDk {F0 H0 F H : Hp} {σ : L2.St} {p : Addr} {kvs kvs' : List (Key × PyData)} (A : At K t F0 H0 F H σ ρ) (h : ρ[i]? = some (.dk p kvs)) (hu : ∀ j kvs', ρ[j]? = some (.dk p kvs') → j = i) {xs ys : List (Key × V)} (v1 : H p = some (.dK xs)) (z : Dkv K F kvs' ys) : At K t F0 H0 F (upd H p (.dK ys)) σ (ρ.set i (.dk p kvs')) := by
  obtain ⟨o', e, rfl, _, v2, v3, v4⟩ := A.slot h
  have hi := (List.getElem?_eq_some_iff.mp h).1
  have A4 := (A.forget i).poke (p := p) (o := .dK ys) v2 v3 (fun ys e => by rw [v1] at e; cases e) v4 (fun j => by
    refine ⟨fun kvs' hj => ?_, fun kvs' hj => ?_⟩
    · by_cases y : i = j
      · subst y
        rw [List.getElem?_set_self hi] at hj
        cases hj
      · rw [List.getElem?_set_ne y] at hj
        exact y (hu j kvs' hj).symm
    · by_cases y : i = j
      · subst y
        rw [List.getElem?_set_self hi] at hj
        cases hj
      · rw [List.getElem?_set_ne y] at hj
        obtain ⟨_, _, _, ⟨_, m1, _⟩, _⟩ := A.slot hj
        rw [v1] at m1
        cases m1)
  have A5 := A4.set (i := i) (o := some (.ref p)) (s := .dk p kvs') ⟨Eq.refl _, ⟨_, upd_same, z⟩, v2, v3, v4⟩ fun _ e => by cases e
  rw [List.set_set] at A5
  have es : σ.set i (some (.ref p)) = σ := by
    apply List.ext_getElem?
    intro m
    by_cases y : i = m
    · subst y
      rw [List.getElem?_set_self (by rw [A.len]; exact hi), e]
    · rw [List.getElem?_set_ne y]
  rw [es] at A5
  exact A5
theorem pow10 {s : Int} {m : Nat} (h2 : 2 ≤ s) (h4 : s ≤ 4) (h : s ^ (m + 1) ≤ 1024) : s ^ m ≤ s ^ 10 := by
  have : m ≤ 10 := by
    by_cases w : m ≤ 10
    · exact w
    · exfalso
      have h1 : s ^ 11 ≤ s ^ (m + 1) := pow_mono (by omega) (by omega)
      have h3 : (2048 : Int) ≤ s ^ 11 := by
        have : s = 2 ∨ s = 3 ∨ s = 4 := by omega
        rcases this with rfl | rfl | rfl <;> decide
      omega
  exact pow_mono (by omega) this
theorem DS_heights {iw ik im : Nat} {s : Int} {m : Nat} {xs L : List Int} {p : Addr} (hw : ρ[iw]? = some (.sh (wtD s (m + 1) xs))) (hk : ρ[ik]? = some (.dk p (htD s m xs L))) (hu : ∀ j kvs', ρ[j]? = some (.dk p kvs') → j = ik) (wt : Wt s (m + 1) xs) (h0 : 0 ∈ L) (hl : L.length ≤ 90000)
    (h : DE K t ea ρ fun x => ∃ a : Int, x = .int a ∧ 0 ≤ a ∧ a < s ^ m ∧ ∀ L1 : List Int, DE K t eb (ρ.set ik (.dk p (htD s m xs L1))) fun y => ∃ b : Int, y = .int b ∧ 0 ≤ b ∧ b < s ^ m ∧ ∀ L2 : List Int, 0 ∈ L2 → L2.length ≤ L.length + 20 → N ((ρ.set ik (.dk p (htD s m xs L2))).set im (.sh (.int (htn s m xs a - htn s m xs b))))) :
    DS K t (tAsg (tOp rMinus (tCall (spHt K 10) [] E0 (tCons (tVar iw) (tCons (tVar ik) (tCons ea tNil)))) (tCall (spHt K 10) [] E0 (tCons (tVar iw) (tCons (tVar ik) (tCons eb tNil))))) (gName im)) ρ N R B C := fun F0 H0 F H σ D A kn kr kb kc => by
  have p10 := pow10 wt.s2 wt.s4 wt.le
  obtain ⟨vw, ew, zw⟩ := A.var hw
  obtain ⟨o, eo, rfl, _⟩ := A.slot hk
  refine ⟨vw, ew, .ref p, eo, h F0 H0 F H σ A _ fun x v F1 H1 hq e1 z => ?_⟩
  obtain ⟨a, rfl, a0, a1, hb⟩ := hq
  cases z
  have A1 := A.step e1
  obtain ⟨_, _, _, ⟨ys, hp, dk⟩, fp, _⟩ := A1.slot hk
  have ey := htD_to dk
  subst ey
  refine ⟨F1, s, m, xs, vw, p, a, L, rfl, A1.fh, zw.up e1.ff, fp, hp, wt, a0, a1, by omega, h0, by omega, fun L1 h01 hl1 => ?_⟩
  have A2 := A1.newDk (kvs' := htD s m xs L1) hk hu hp htD_of
  have hi := (List.getElem?_eq_some_iff.mp hk).1
  have hk2 : (ρ.set ik (.dk p (htD s m xs L1)))[ik]? = some (.dk p (htD s m xs L1)) := List.getElem?_set_self hi
  have hu2 : ∀ j kvs', (ρ.set ik (.dk p (htD s m xs L1)))[j]? = some (.dk p kvs') → j = ik := fun j kvs' hj => by
    by_cases y : ik = j
    · exact y.symm
    · rw [List.getElem?_set_ne y] at hj
      exact hu j kvs' hj
  refine ⟨vw, ew, .ref p, eo, hb L1 F0 H0 F1 _ σ A2 _ fun y v F2 H2 hq e2 z => ?_⟩
  obtain ⟨b, rfl, b0, b1, q⟩ := hq
  cases z
  have A3 := A2.step e2
  obtain ⟨_, _, _, ⟨ys, hp3, dk3⟩, fp3, _⟩ := A3.slot hk2
  have ey := htD_to dk3
  subst ey
  refine ⟨F2, s, m, xs, vw, p, b, L1, rfl, A3.fh, (zw.up e1.ff).up e2.ff, fp3, hp3, wt, b0, b1, by omega, h01, by omega, fun L2 h02 hl2 => ?_⟩
  have A4 := A3.newDk (kvs' := htD s m xs L2) hk2 hu2 hp3 htD_of
  rw [List.set_set] at A4
  refine ⟨_, _, rfl, rfl, ?_⟩
  exact kn _ F2 _ _ (q L2 h02 (by omega)) (A4.set (i := im) (s := .sh (.int (htn s m xs a - htn s m xs b))) ⟨_, rfl, .int _⟩ fun _ e => by cases e) (e1.ff.trans e2.ff)
/-- a, d = x, {0: 0} -/
theorem DS_parZero (h : DE K t te ρ fun d => ∀ p, (∀ (j : Nat) (kvs : List (Key × PyData)), ρ[j]? ≠ some (.dk p kvs)) → N ((ρ.set i (.sh d)).set j (.dk p [(.inl 0, .int 0)]))) : DS K t (tPar i j (tCons te (tCons (tDisp [(tC (.int 0), tC (.int 0))]) tNil))) ρ N R B C := fun F0 H0 F H σ D A kn kr kb kc =>
  h F0 H0 F H σ A _ fun d v F1 H1 hq e1 z p hp => by
    have A1 := A.step e1
    have f := A1.fs hp
    have nd := A1.nodict hp
    have A2 := A1.call (Gr.free A1.fh (o := .dK [(.inl 0, .int 0)]) hp)
    have fp := ex_none A1.fh hp
    refine ⟨upd_same, [(.inl 0, .int 0)], rfl, by decide, ?_⟩
    have e : upd (upd H1 p (.dK [])) p (.dK (mergeK [] [((.inl 0 : Key), V.int 0)])) = upd H1 p (.dK [(.inl 0, .int 0)]) := upd_upd
    rw [e]
    refine ⟨v, .ref p, rfl, kn _ F1 _ _ (hq p fun j kvs => (nd j).1 kvs) ?_ e1.ff⟩
    exact (A2.set (i := i) (s := .sh d) (o := some v) ⟨v, rfl, z⟩ fun _ e => by cases e).set (i := j) (s := .dk p [(.inl 0, .int 0)]) (o := some (.ref p)) ⟨rfl, ⟨_, upd_same, .cons (.int 0) .nil⟩, fp, f.old, f.tap⟩ fun _ e => by cases e
end
/-- a tap made within a def: what follows draws from it -/
theorem DS_tapSeq {K : PySem.W.Frag} {ρ : Rho} {i : Nat} {tl : TE} {t2 : TS} {N B C : Rho → Prop} {R : PyData → Prop} (h : DL K none tl ρ fun ds => ∃ x y z : Int, ds = [.int x, .int y, .int z] ∧ Tap x y z ∧ ∀ p : Addr, DS K (some p) t2 (ρ.set i .tp) NoR R NoR NoR) : DS K none (tSeq (tAsg tl (gName i)) t2) ρ N R B C := fun F0 H0 F H σ D A kn kr kb kc =>
  h F0 H0 F H σ A _ fun ds p xs F1 H1 hq e1 n n1 n2 z => by
    obtain ⟨x, y, w, rfl, tp, q⟩ := hq
    have ez := Dqs.ints (ns := [x, y, w]) z
    subst ez
    have A1 := A.step e1
    have f := A.fs n
    have tok : TpOk (some p) F1 H1 := fun a ha => by
      cases ha
      exact ⟨n1, x, y, w, n2, tp⟩
    have A2 : At K (some p) F0 H0 F1 H1 σ ρ := by
      refine ⟨A1.gr.any, A1.len, fun j o s h1 h2 => ?_, A1.ap, tok⟩
      have q1 := A1.sl j o s h1 h2
      have q0 := A.sl j o s h1 h2
      cases s with
      | no => trivial
      | sh d => exact q1
      | ow es =>
        obtain ⟨p1, ys, e, a1, a2, a3, a4, a5⟩ := q1
        obtain ⟨p2, zs, e2, b1, _⟩ := q0
        rw [e] at e2
        cases e2
        exact ⟨p1, ys, e, a1, a2, a3, (fun w => by cases w; rw [n] at b1; cases b1), a5⟩
      | tp =>
        obtain ⟨a, w, _⟩ := q1
        cases w
      | vl v => exact q1
      | od d => exact q1
      | nw d => exact q1
      | dk p1 kvs =>
        obtain ⟨e, a1, a2, a3, a4⟩ := q1
        obtain ⟨_, ⟨zs, b1, _⟩, _⟩ := q0
        exact ⟨e, a1, a2, a3, fun w => by cases w; rw [n] at b1; cases b1⟩
      | dt p1 kvs =>
        obtain ⟨e, a1, a2, a3, a4⟩ := q1
        obtain ⟨_, ⟨zs, b1, _⟩, _⟩ := q0
        exact ⟨e, a1, a2, a3, fun w => by cases w; rw [n] at b1; cases b1⟩
    have A3 := A2.set (i := i) (s := .tp) (o := some (.ref p)) ⟨p, rfl, rfl⟩ fun _ e => by cases e
    exact q p F0 H0 F1 H1 _ D A3 (fun _ _ _ _ h => h.elim) (fun d v F' H' hr g _ zd => kr d v F' H' hr ⟨g.ff, fun a o _ h => g.hh a o (fun w => by cases w; rw [f.old] at h; cases h) h, g.fh, g.nw⟩ (fun a w => by cases w) zd) (fun _ _ _ _ h => h.elim) fun _ _ _ _ h => h.elim
end Cf
namespace Cf
open PySem PySem.Spec PyProof.Rows L2
open Evl (Ex)
local macro_rules | `(tactic| walk_at "d") => `(tactic| first
  | (with_reducible refine DS_seq ?_)
  | (with_reducible refine DS_if ?_)
  | (with_reducible refine DS_ret ?_)
  | (with_reducible refine DS_next ?_)
  | (with_reducible refine DS_retN ?_)
  | (with_reducible refine DS_set ?_)
  | (with_reducible refine DS_drop ?_)
  | (with_reducible refine DS_unpack ?_)
  | (with_reducible refine DS_par ?_)
  | (with_reducible refine DE_int ?_)
  | (with_reducible refine DE_bl ?_)
  | (with_reducible refine DE_non ?_)
  | (with_reducible refine DE_str ?_)
  | (with_reducible refine DE_isi ?_)
  | (with_reducible refine DE_and ?_)
  | (with_reducible refine DE_or ?_)
  | (with_reducible refine DE_not ?_)
  | (with_reducible refine DE_if ?_)
  | (with_reducible refine DE_chain ?_)
  | (with_reducible refine DE_tyIs ?_)
  | (with_reducible refine DE_tyNot ?_)
  | (with_reducible refine DE_call ?_)
  | ((with_reducible refine' DE_lenOw ?k1 ?_); (case k1 => exact rfl))
  | ((with_reducible refine' DE_reprOw ?k1 ?_); (case k1 => exact rfl))
  | ((with_reducible refine' DE_ixOw ?k1 ?_); (case k1 => exact rfl))
  | ((with_reducible refine' DE_lenOw ?k1 ?_); (case k1 => exact rfl))
  | (with_reducible refine DE_cb ?_)
  | (with_reducible refine DE_new (DL_rep (DL_lst ?_)))
  | (with_reducible refine DE_op ?_)
  | (with_reducible refine DE_un ?_)
  | (with_reducible refine DE_tup ?_)
  | (with_reducible refine DT_test ?_)
  | (with_reducible refine DT_B ?_)
  | (with_reducible refine DT_and ?_)
  | (with_reducible refine DT_or ?_)
  | (with_reducible refine DT_not ?_)
  | (with_reducible refine DT_yes ?_)
  | (with_reducible refine DA_nil ?_)
  | (with_reducible refine DA_cons ?_)
  | (with_reducible refine DO_no ?_)
  | (with_reducible refine DO_at ?_)
  | (with_reducible refine DR_minus ?_)
  | (with_reducible refine DR_mod ?_)
  | (with_reducible refine DR_div ?_)
  | (with_reducible refine DR_pow ?_)
  | (with_reducible refine DR_lt ?_)
  | (with_reducible refine DR_le ?_)
  | (with_reducible refine DR_gt ?_)
  | (with_reducible refine DR_ge ?_)
  | (with_reducible refine DR_eq ?_)
  | (with_reducible refine DR_ne ?_)
  | (with_reducible refine DR_isN ?_)
  | (with_reducible refine DR_notN ?_)
  | (with_reducible refine DU_neg ?_)
  | (with_reducible refine DC_len ?_)
  | (with_reducible refine DC_int ?_)
  | (with_reducible refine DC_abs ?_)
  | (with_reducible refine DC_max2 ?_)
  | (with_reducible refine DC_min2 ?_)
  | (with_reducible refine DC_sum ?_)
  | (with_reducible refine DC_all ?_)
  | (with_reducible refine DC_any ?_)
  | (with_reducible refine DC_repr ?_)
  | (with_reducible refine ⟨_, kb_int _, ?_⟩)
  | (with_reducible refine ⟨_, kb_bool _, ?_⟩)
  | (with_reducible refine ⟨_, kb_list _, ?_⟩)
  | (with_reducible refine ⟨_, kb_tuple _, ?_⟩)
  | (with_reducible refine ⟨_, rfl, ?_⟩)
  | (with_reducible refine ⟨_, _, rfl, rfl, ?_⟩)
  | (with_reducible refine DE_callN ?_)
  | (with_reducible refine DE_callX ?_)
  | (with_reducible refine DR_notB ?_)
  | (with_reducible refine DE_emp ?_)
  | (with_reducible refine DE_new (DL_lst ?_))
  | (with_reducible refine DE_new (DL_callF ?_))
  | (with_reducible refine DE_new (DL_sl ?_))
  | (with_reducible refine DE_slT ?_)
  | (with_reducible refine DC_list ?_)
  | ((with_reducible refine' DE_callT ?k1 ?_); (case k1 => exact rfl))
  | ((with_reducible refine' DE_var ?k1 ?_); (case k1 => exact rfl))
  | ((with_reducible refine' DE_varO ?k1 ?_); (case k1 => exact rfl))
  | ((with_reducible refine' DE_varN ?k1 ?_); (case k1 => exact rfl)))


/-! k07, k08: the law's plain weight -/
def W__law_uneven (ds : List PyData) (R : PyData → Prop) : Prop := ∃ (s : Int) (vs : List Int), ds = [.int s, LI vs] ∧ 0 < s ∧ vs.length ≤ 50000 ∧ ∀ U : List PyData, decide (U = []) = !lastM s vs → R (.list U)
def t__law_uneven (K : PySem.W.Frag) : TS :=
  (tRet (tLc (iRg1 (tCons (tCB (rLenA K) (tCons (tVar 1) tNil)) tNil)) (gName 2) (tTest (tOp (rNeU K) (tOp (rIx K) (tVar 1) (tVar 2)) (tOp (rIx K) (tVar 1) (tOp rMinus (tVar 2) (tOp rModI (tCB rIntA (tCons (tVar 2) tNil)) (tVar 0)))))) (tVar 2) [2]))
theorem eqv_ints (a b : Int) : PyData.eqv (.int a) (.int b) = decide (a = b) := by
  simp [PyData.eqv]
  rfl
def unevenAt (s : Int) (vs : List Int) (k : Nat) : Bool := !(itm vs k == itm vs ((k : Int) - (k : Int) % s))
theorem ds__law_uneven : Keeps W__law_uneven 3 t__law_uneven := by
  intro K ds R h
  obtain ⟨s, vs, rfl, hp, hl, q⟩ := h
  refine ⟨by simp, ?_⟩
  show DS K _ (t__law_uneven K) [.sh (.int s), .sh (LI vs), .no] _ _ _ _
  unfold t__law_uneven
  refine DS_ret (DE_new (DL_lcR1 ?_))
  repeat walk_at "d"
  rw [List.length_map]
  refine ⟨fun k acc => acc = ((List.range k).filter (unevenAt s vs)).map fun (n : Nat) => PyData.int n, rfl, ?_, ?_⟩
  · rintro k acc hk rfl
    have hk : k < vs.length := by omega
    have lf : (((List.range k).filter (unevenAt s vs)).map fun (n : Nat) => PyData.int n).length < 100000 := by
      rw [List.length_map]
      have := List.length_filter_le (unevenAt s vs) (List.range k)
      rw [List.length_range] at this
      omega
    have m0 := Int.emod_nonneg (k : Int) (show s ≠ 0 by omega)
    have m1 : (k : Int) % s ≤ k := by
      have e := Int.mul_ediv_add_emod (k : Int) s
      have := Int.mul_nonneg (show 0 ≤ s by omega) (Int.ediv_nonneg (show (0 : Int) ≤ k by omega) (show 0 ≤ s by omega))
      omega
    refine ⟨lf, ?_⟩
    rw [Int.zero_add]
    repeat walk_at "d"
    refine DR_ix (.inl ⟨_, _, _, rfl, rfl, atI_ok (by omega) (by omega), ?_⟩)
    repeat walk_at "d"
    refine .inl ⟨_, rfl, ?_⟩
    repeat walk_at "d"
    refine ⟨hp, ?_⟩
    repeat walk_at "d"
    refine DR_ix (.inl ⟨_, _, _, rfl, rfl, atI_ok (by omega) (by omega), ?_⟩)
    refine DR_ne ⟨shp_int _, shp_int _, _, rfl, ?_⟩
    rw [eqv_ints]
    have ex : unevenAt s vs k = !(decide (vs.getD (k : Int).toNat 0 = vs.getD ((k : Int) - (k : Int) % s).toNat 0)) := by
      show (!(_ == _)) = _
      rfl
    rw [← ex]
    refine ite2 (fun h => ?_) fun h => ?_
    · refine DE_var (by rfl) ?_
      show _ = ((List.range (k + 1)).filter (unevenAt s vs)).map fun (n : Nat) => PyData.int n
      rw [List.range_succ, List.filter_append, List.map_append]
      simp [h]
    · show _ = ((List.range (k + 1)).filter (unevenAt s vs)).map fun (n : Nat) => PyData.int n
      rw [List.range_succ, List.filter_append, List.map_append]
      have h : unevenAt s vs k = false := by simpa using h
      simp [h]
  · rintro acc rfl
    refine q _ ?_
    rw [Int.toNat_natCast]
    have e : lastM s vs = (List.range vs.length).any (unevenAt s vs) := rfl
    rw [e]
    rw [Bool.eq_iff_iff, decide_eq_true_iff, Bool.not_eq_true', List.any_eq_false, List.map_eq_nil_iff, List.filter_eq_nil_iff]

def W__law_plain (ds : List PyData) (R : PyData → Prop) : Prop := ∃ (s : Int) (l : Nat) (vs : List Int), ds = [wtD s l vs] ∧ Wt s l vs ∧ R (wtD s (plainOf s l vs).1 (plainOf s l vs).2)
def t__law_plain (K : PySem.W.Frag) : TS :=
  (tSeq (tAsg (tVar 0) (gTup K 3 (gNames [1, 2, 3])))
    (tSeq (tPar 4 5 (tCons (tCall (spP K W__law_many) [] E0 (tCons (tVar 1) (tCons (tOp rMinus (tVar 2) (tC (.int 1))) tNil))) (tCons (tDisp [((tC (.int 0)), (tC (.int 0)))]) tNil)))
    (tSeq (tAsg (tLst tNil) (gName 6))
    (tSeq (tFor (iRg1 (tCons (tCB (rLenA K) (tCons (tVar 3) tNil)) tNil)) (gName 7)
    (tSeq (tAsg (tOp rMinus (tCall (spHt K 10) [] E0 (tCons (tVar 0) (tCons (tVar 5) (tCons (tOp rDivI (tVar 7) (tVar 1)) tNil)))) (tCall (spHt K 10) [] E0 (tCons (tVar 0) (tCons (tVar 5) (tCons (tOp rModI (tCB rIntA (tCons (tVar 7) tNil)) (tVar 4)) tNil))))) (gName 8))
    (tDrop (tBM K "list" rAppend (tVar 6) (tCons (tOp (rPlus K) (tOp (rIx K) (tVar 3) (tVar 7)) (tVar 8)) tNil)))))
    (tSeq (tWhile (tAnd (tTest (tOp rGtI (tVar 2) (tC (.int 1)))) (tTest (tOp (rEqU K) (tCall (spP K W__law_uneven) [] E0 (tCons (tVar 1) (tCons (tVar 6) tNil))) (tLst tNil))))
    (tPar 6 2 (tCons (tStepL K (tVar 6) (tVar 1)) (tCons (tOp rMinus (tVar 2) (tC (.int 1))) tNil))))
    (tRet (tTup (tCons (tVar 1) (tCons (tVar 2) (tCons (tVar 6) tNil))))))))))
theorem ds__law_plain : Keeps W__law_plain 9 t__law_plain := by
  intro K ds R h
  obtain ⟨s, l, vs, rfl, hw, q⟩ := h
  have s2 := hw.s2
  have s4 := hw.s4
  have hp : 0 < s := by omega
  have hl := hw.len
  have le := hw.le
  obtain ⟨m, rfl⟩ : ∃ m, l = m + 1 := ⟨l - 1, by have := hw.l1; omega⟩
  have pl := pow_pos' hp m
  have ln := hw.ln
  have e1 : s ^ (m + 1) = s ^ m * s := Int.pow_succ ..
  have vl : vs.length ≤ 1024 := by omega
  refine ⟨by simp, ?_⟩
  show DS K _ (t__law_plain K) [.sh (wtD s (m + 1) vs), .no, .no, .no, .no, .no, .no, .no, .no] _ _ _ _
  unfold t__law_plain
  repeat walk_at "d"
  refine ⟨rfl, rfl, ?_⟩
  refine DS_seq (DS_parZero ?_)
  repeat walk_at "d"
  refine ⟨s, ((m + 1 : Nat) : Int) - 1, rfl, s2, s4, ?_⟩
  rw [show (((m + 1 : Nat) : Int) - 1).toNat = m by omega]
  intro p hp'
  have ez : [((.inl 0 : Key), PyData.int 0)] = htD s m vs [0] := by
    show _ = [((.inl 0 : Key), PyData.int (htn s m vs 0))]
    rw [htn_zero]
  rw [ez]
  show DS K none _ [.sh (wtD s (m + 1) vs), .sh (.int s), .sh (.int ((m + 1 : Nat) : Int)), .sh (LI vs), .sh (.int (s ^ m)), .dk p (htD s m vs [0]), .no, .no, .no] _ _ _ _
  refine DS_seq (DS_setOw (DL_lst (DA_nil ⟨by simp, ?_⟩)))
  refine DS_seq (DS_forR1 ?_)
  repeat walk_at "d"
  rw [List.length_map]
  refine ⟨fun k ρ => ∃ (L : List Int) (z7 z8 : Sl), 0 ∈ L ∧ L.length ≤ 1 + 20 * k ∧ (∀ kvs, z7 ≠ .dk p kvs) ∧ (∀ kvs, z8 ≠ .dk p kvs) ∧ ρ = [.sh (wtD s (m + 1) vs), .sh (.int s), .sh (.int ((m + 1 : Nat) : Int)), .sh (LI vs), .sh (.int (s ^ m)), .dk p (htD s m vs L), .ow (((List.range k).map fun (n : Nat) => itm vs n + hts s vs m ((n : Int) / s) - hts s vs m ((n : Int) % s ^ m)).map .int), z7, z8], ⟨[0], .no, .no, by simp, by simp, (fun _ e => by cases e), (fun _ e => by cases e), rfl⟩, ?_, ?_⟩
  · rintro k ρ hk ⟨L, z7, z8, h0, hL, n7, n8, rfl⟩
    have hk : k < vs.length := by omega
    have hk' : (k : Int) < s ^ m * s := by omega
    have q0 : (0 : Int) ≤ k / s := Int.ediv_nonneg (by omega) (by omega)
    have q1 : (k : Int) / s < s ^ m := Int.ediv_lt_of_lt_mul hp hk'
    have r0 := Int.emod_nonneg (k : Int) (show s ^ m ≠ 0 by omega)
    have r1 := Int.emod_lt_of_pos (k : Int) pl
    show DS K none _ [.sh (wtD s (m + 1) vs), .sh (.int s), .sh (.int ((m + 1 : Nat) : Int)), .sh (LI vs), .sh (.int (s ^ m)), .dk p (htD s m vs L), .ow (((List.range k).map fun (n : Nat) => itm vs n + hts s vs m ((n : Int) / s) - hts s vs m ((n : Int) % s ^ m)).map .int), .sh (.int (0 + (k : Int))), z8] _ _ _ _
    rw [Int.zero_add]
    refine DS_seq (DS_heights (iw := 0) (ik := 5) (im := 8) (L := L) (by rfl) (by rfl) ?_ hw h0 (by omega) ?_)
    · intro j kvs' hj
      match j, hj with
      | 0, hj => cases hj
      | 1, hj => cases hj
      | 2, hj => cases hj
      | 3, hj => cases hj
      | 4, hj => cases hj
      | 5, _ => rfl
      | 6, hj => cases hj
      | 7, hj => cases hj
      | 8, hj =>
        have e : z8 = .dk p kvs' := Option.some.inj hj
        exact absurd e (n8 kvs')
      | j + 9, hj => simp at hj
    repeat walk_at "d"
    refine ⟨wide_div (b := 8) (by omega) (by omega) (by decide) (by decide), ?_⟩
    refine ⟨_, rfl, q0, q1, fun L1 => ?_⟩
    repeat walk_at "d"
    refine .inl ⟨_, rfl, ?_⟩
    repeat walk_at "d"
    refine ⟨pl, ?_⟩
    refine ⟨_, rfl, r0, r1, fun L2 h2 l2 => ?_⟩
    show DS K none _ [.sh (wtD s (m + 1) vs), .sh (.int s), .sh (.int ((m + 1 : Nat) : Int)), .sh (LI vs), .sh (.int (s ^ m)), .dk p (htD s m vs L2), .ow (((List.range k).map fun (n : Nat) => itm vs n + hts s vs m ((n : Int) / s) - hts s vs m ((n : Int) % s ^ m)).map .int), .sh (.int (k : Int)), .sh (.int (htn s m vs ((k : Int) / s) - htn s m vs ((k : Int) % s ^ m)))] _ _ _ _
    refine DS_append (i := 6) (by rfl) (by rw [List.length_map, List.length_map, List.length_range]; omega) ?_
    repeat walk_at "d"
    refine DR_ix (.inl ⟨_, _, _, rfl, rfl, atI_ok (by omega) (by omega), ?_⟩)
    repeat walk_at "d"
    refine DR_plusI ⟨_, _, rfl, rfl, ?_⟩
    refine ⟨L2, .sh (.int (k : Int)), .sh (.int (htn s m vs ((k : Int) / s) - htn s m vs ((k : Int) % s ^ m))), h2, by omega, (fun _ e => by cases e), (fun _ e => by cases e), ?_⟩
    rw [List.range_succ, List.map_append, List.map_append]
    have ev : vs.getD (k : Int).toNat 0 + (htn s m vs ((k : Int) / s) - htn s m vs ((k : Int) % s ^ m)) = itm vs (k : Int) + hts s vs m ((k : Int) / s) - hts s vs m ((k : Int) % s ^ m) := by
      unfold htn
      show itm vs (k : Int) + _ = _
      omega
    rw [ev]
    rfl
  · rintro ρ ⟨L, z7, z8, h0, hL, n7, n8, rfl⟩
    rw [Int.toNat_natCast]
    refine DS_freeze (i := 6) (by rfl) ?_
    have lsh : (shiftT s m vs (hts s vs m)).length = vs.length := by
      unfold shiftT
      rw [List.length_map, List.length_range]
    refine DS_seq (DS_while (fun k ρ => ∃ (us : List Int), 1 ≤ k ∧ us.length ≤ 1024 ∧ red s k us = plainOf s (m + 1) vs ∧ ρ = [.sh (wtD s (m + 1) vs), .sh (.int s), .sh (.int (k : Int)), .sh (LI vs), .sh (.int (s ^ m)), .dk p (htD s m vs L), .sh (LI us), z7, z8]) (m + 1) ⟨shiftT s m vs (hts s vs m), by omega, by omega, rfl, rfl⟩ fun k ρ hI => ?_)
    obtain ⟨us, k1, lu, hr, rfl⟩ := hI
    have fin : (k = 1 ∨ lastM s us = true) → DS K none (tRet (tTup (tCons (tVar 1) (tCons (tVar 2) (tCons (tVar 6) tNil))))) [.sh (wtD s (m + 1) vs), .sh (.int s), .sh (.int (k : Int)), .sh (LI vs), .sh (.int (s ^ m)), .dk p (htD s m vs L), .sh (LI us), z7, z8] (fun _ => R .none) R NoR NoR := fun hk => by
      have er : red s k us = (k, us) := by
        match k, k1, hk with
        | 1, _, _ => rfl
        | j + 2, _, hk =>
          rcases hk with hk | hk
          · omega
          · show (if lastM s us = true then _ else _) = _
            rw [if_pos hk]
      rw [← hr, er] at q
      repeat walk_at "d"
      exact ⟨by simp, q⟩
    repeat walk_at "d"
    refine ite2 (fun h => ?_) fun h => ?_
    · have h : (1 : Int) < k := of_decide_eq_true h
      repeat walk_at "d"
      refine ⟨s, us, rfl, hp, by omega, fun U hU => ?_⟩
      refine DE_lst0 (DR_eqNil ⟨_, rfl, rfl, _, rfl, ?_⟩)
      rw [hU]
      cases hm : lastM s us with
      | true => exact iteF (fin (.inr hm))
      | false =>
        refine iteT ?_
        refine DS_par ?_
        refine DA_cons (DE_new (DL_step (DE_var (by rfl) (DE_var (by rfl) ⟨_, _, rfl, rfl, hp, ?_⟩))))
        rw [stepV_map]
        have ls := step_len s hp us
        repeat walk_at "d"
        obtain ⟨j, rfl⟩ : ∃ j, k = j + 2 := ⟨k - 2, by omega⟩
        refine ⟨_, _, rfl, j + 1, by omega, stepV s us, by omega, by omega, ?_, ?_⟩
        · rw [← hr]
          show _ = (if lastM s us = true then _ else _)
          rw [if_neg (by rw [hm]; simp)]
        · show _ = [_, _, _, _, _, _, _, _, _]
          rw [show (((j + 2 : Nat) : Int) - 1) = ((j + 1 : Nat) : Int) by omega]
          rfl
    · have h : ¬ (1 : Int) < k := fun z => h (decide_eq_true z)
      exact fin (.inl (by omega))

end Cf
namespace Cf
open PySem PySem.Spec PyProof.Rows L2
open Evl (Ex)
local macro_rules | `(tactic| walk_at "d") => `(tactic| first
  | (with_reducible refine DS_seq ?_)
  | (with_reducible refine DS_if ?_)
  | (with_reducible refine DS_ret ?_)
  | (with_reducible refine DS_next ?_)
  | (with_reducible refine DS_retN ?_)
  | (with_reducible refine DS_set ?_)
  | (with_reducible refine DS_drop ?_)
  | (with_reducible refine DS_unpack ?_)
  | (with_reducible refine DS_par ?_)
  | (with_reducible refine DE_int ?_)
  | (with_reducible refine DE_bl ?_)
  | (with_reducible refine DE_non ?_)
  | (with_reducible refine DE_str ?_)
  | (with_reducible refine DE_isi ?_)
  | (with_reducible refine DE_and ?_)
  | (with_reducible refine DE_or ?_)
  | (with_reducible refine DE_not ?_)
  | (with_reducible refine DE_if ?_)
  | (with_reducible refine DE_chain ?_)
  | (with_reducible refine DE_tyIs ?_)
  | (with_reducible refine DE_tyNot ?_)
  | (with_reducible refine DE_call ?_)
  | ((with_reducible refine' DE_lenOw ?k1 ?_); (case k1 => exact rfl))
  | (with_reducible refine DE_cb ?_)
  | (with_reducible refine DE_new (DL_rep (DL_lst ?_)))
  | (with_reducible refine DE_op ?_)
  | (with_reducible refine DE_un ?_)
  | (with_reducible refine DE_tup ?_)
  | (with_reducible refine DT_test ?_)
  | (with_reducible refine DT_B ?_)
  | (with_reducible refine DT_and ?_)
  | (with_reducible refine DT_or ?_)
  | (with_reducible refine DT_not ?_)
  | (with_reducible refine DT_yes ?_)
  | (with_reducible refine DA_nil ?_)
  | (with_reducible refine DA_cons ?_)
  | (with_reducible refine DO_no ?_)
  | (with_reducible refine DO_at ?_)
  | (with_reducible refine DR_minus ?_)
  | (with_reducible refine DR_mod ?_)
  | (with_reducible refine DR_div ?_)
  | (with_reducible refine DR_pow ?_)
  | (with_reducible refine DR_lt ?_)
  | (with_reducible refine DR_le ?_)
  | (with_reducible refine DR_gt ?_)
  | (with_reducible refine DR_ge ?_)
  | (with_reducible refine DR_eq ?_)
  | (with_reducible refine DR_ne ?_)
  | (with_reducible refine DR_isN ?_)
  | (with_reducible refine DR_notN ?_)
  | (with_reducible refine DU_neg ?_)
  | (with_reducible refine DC_len ?_)
  | (with_reducible refine DC_int ?_)
  | (with_reducible refine DC_abs ?_)
  | (with_reducible refine DC_max2 ?_)
  | (with_reducible refine DC_min2 ?_)
  | (with_reducible refine DC_sum ?_)
  | (with_reducible refine DC_all ?_)
  | (with_reducible refine DC_any ?_)
  | (with_reducible refine DC_repr ?_)
  | (with_reducible refine ⟨_, kb_int _, ?_⟩)
  | (with_reducible refine ⟨_, kb_bool _, ?_⟩)
  | (with_reducible refine ⟨_, kb_list _, ?_⟩)
  | (with_reducible refine ⟨_, kb_tuple _, ?_⟩)
  | (with_reducible refine ⟨_, rfl, ?_⟩)
  | (with_reducible refine ⟨_, _, rfl, rfl, ?_⟩)
  | (with_reducible refine DE_callN ?_)
  | (with_reducible refine DE_callX ?_)
  | (with_reducible refine DR_notB ?_)
  | (with_reducible refine DE_emp ?_)
  | (with_reducible refine DE_new (DL_lst ?_))
  | (with_reducible refine DE_new (DL_sl ?_))
  | (with_reducible refine DE_slT ?_)
  | (with_reducible refine DC_list ?_)
  | ((with_reducible refine' DE_callT ?k1 ?_); (case k1 => exact rfl))
  | ((with_reducible refine' DE_var ?k1 ?_); (case k1 => exact rfl))
  | ((with_reducible refine' DE_varO ?k1 ?_); (case k1 => exact rfl))
  | ((with_reducible refine' DE_varN ?k1 ?_); (case k1 => exact rfl)))


section
variable {K : PySem.W.Frag} {t : Option Addr} {ρ : Rho} {i j : Nat} {te : TE} {t1 : TS} {N B C : Rho → Prop} {R : PyData → Prop}
end
/-! ### greatest and least gains -/
abbrev gP (s : Int) (w : Nat) (T : List Int) (l : Nat) (vs : List Int) (n : Nat) : Nat := (s ^ ((gainP s w T l vs n).1 - 1)).toNat
def ggM (s : Int) (w : Nat) (T : List Int) (l : Nat) (vs : List Int) (n : Nat) : Int × Int := greatM s (gP s w T l vs n) (gainP s w T l vs n).2
def lgM (s : Int) (w : Nat) (T : List Int) (l : Nat) (vs : List Int) (n : Nat) : Int × Int := leastM s (gP s w T l vs n) (gainP s w T l vs n).2
abbrev gsR (s f : Int) (w : Nat) (T : List Int) (l : Nat) (vs : List Int) (n : Nat) (r : List Int) : Int := ringSum s l vs (tickN s f w T r n) - ringSum s l vs r
section
variable {s f : Int} {w : Nat} {T : List Int} {l : Nat} {vs : List Int} {n : Nat}
def rmV (s : Int) (w : Nat) (T : List Int) (l : Nat) (vs : List Int) : Int := gcdL (plainOf s (gainP s w T l vs 1).1 (gainP s w T l vs 1).2).2
end
def W_greatest_gain (ds : List PyData) (R : PyData → Prop) : Prop := ∃ (s f : Int) (w : Nat) (T : List Int) (l : Nat) (vs : List Int) (n : Nat), ds = [rlD s f w T, wtD s l vs, .int n] ∧ Rl s f w T ∧ Wt s l vs ∧ n ≤ 8 ∧ s ^ (l + n * (w - 1)) ≤ 1024 ∧ R (mD (ggM s w T l vs n))
def t_greatest_gain (K : PySem.W.Frag) : TS :=
  (tRet (tCall (spP K W_greatest_mean) [] E0 (tCons (tCall (spP K W_ring_gain) [] E0 (tCons (tVar 0) (tCons (tVar 1) (tCons (tVar 2) tNil)))) tNil)))
def W_least_gain (ds : List PyData) (R : PyData → Prop) : Prop := ∃ (s f : Int) (w : Nat) (T : List Int) (l : Nat) (vs : List Int) (n : Nat), ds = [rlD s f w T, wtD s l vs, .int n] ∧ Rl s f w T ∧ Wt s l vs ∧ n ≤ 8 ∧ s ^ (l + n * (w - 1)) ≤ 1024 ∧ R (mD (lgM s w T l vs n))
def t_least_gain (K : PySem.W.Frag) : TS :=
  (tRet (tCall (spP K W_least_mean) [] E0 (tCons (tCall (spP K W_ring_gain) [] E0 (tCons (tVar 0) (tCons (tVar 1) (tCons (tVar 2) tNil)))) tNil)))
def W_remainder (ds : List PyData) (R : PyData → Prop) : Prop := ∃ (s f : Int) (w : Nat) (T : List Int) (l : Nat) (vs : List Int), ds = [rlD s f w T, wtD s l vs] ∧ Rl s f w T ∧ Wt s l vs ∧ s ^ (l + 1 * (w - 1)) ≤ 1024 ∧ R (.int (rmV s w T l vs))
def t_remainder (K : PySem.W.Frag) : TS :=
  (tRet (tCall (spP K W_divisor) [] E0 (tCons (tCall (spP K W_ring_gain) [] E0 (tCons (tVar 0) (tCons (tVar 1) (tCons (tC (.int 1)) tNil)))) tNil)))
def W_is_kept (ds : List PyData) (R : PyData → Prop) : Prop := ∃ (s f : Int) (w : Nat) (T : List Int) (l : Nat) (vs : List Int), ds = [rlD s f w T, wtD s l vs] ∧ Rl s f w T ∧ Wt s l vs ∧ s ^ (l + 1 * (w - 1)) ≤ 1024 ∧ R (.bool (decide (rmV s w T l vs = 0)))
def t_is_kept (K : PySem.W.Frag) : TS :=
  (tRet (tOp (rEqU K) (tCall (spP K W_remainder) [] E0 (tCons (tVar 0) (tCons (tVar 1) tNil))) (tC (.int 0))))
def W_never_grows (ds : List PyData) (R : PyData → Prop) : Prop := ∃ (s f : Int) (w : Nat) (T : List Int) (l : Nat) (vs : List Int), ds = [rlD s f w T, wtD s l vs] ∧ Rl s f w T ∧ Wt s l vs ∧ s ^ (l + 1 * (w - 1)) ≤ 1024 ∧ R (.bool (decide ((ggM s w T l vs 1).1 ≤ 0)))
def t_never_grows (K : PySem.W.Frag) : TS :=
  (tRet (tOp rLeI (tOp (rIx K) (tCall (spP K W_greatest_gain) [] E0 (tCons (tVar 0) (tCons (tVar 1) (tCons (tC (.int 1)) tNil)))) (tC (.int 0))) (tC (.int 0))))
end Cf
/-! runs: rings told by many equal cells, one behind the other -/
namespace Cf
open PySem
abbrev Run := Int × Int
/-- the ring -/
def roll (rs : List Run) : List Int := rs.flatMap fun p => List.replicate p.2.toNat p.1
def cutS (L : Int) (rs : List Run) : List Run := rs.map fun p => (p.1, min p.2 L)
structure Ru (s : Int) (rs : List Run) : Prop where
  ne : rs ≠ []
  ok : ∀ p ∈ rs, 0 ≤ p.1 ∧ p.1 < s ∧ 1 ≤ p.2
theorem Ru.cut {s L : Int} {rs : List Run} (h : Ru s rs) (hL : 1 ≤ L) : Ru s (cutS L rs) where
  ne := by
    intro e
    exact h.ne (List.map_eq_nil_iff.mp e)
  ok := fun p hp => by
    obtain ⟨q, hq, rfl⟩ := List.mem_map.mp hp
    obtain ⟨a, b, c⟩ := h.ok q hq
    exact ⟨a, b, by show 1 ≤ min q.2 L; omega⟩
/-! ### one more cell in a long run -/
section
variable {A B : List Int} {x : Int} {k l : Nat}
/-- the value of a word of one sign -/
def alone (s : Int) (l : Nat) (vs : List Int) (x : Int) : Int := vs.getD (num s (List.replicate l x)).toNat 0
end
/-- what the cells that are left out come to -/
def excess (s : Int) (l : Nat) (vs : List Int) (L : Int) (rs : List Run) : Int := (rs.map fun p => (p.2 - min p.2 L) * alone s l vs p.1).sum
/-- how often each cell counts -/
def cnts (L : Int) (rs : List Run) : List Int := rs.flatMap fun p => (p.2 - min p.2 L + 1) :: List.replicate ((min p.2 L).toNat - 1) 1
/-- the sum of values times counts, from a cell on -/
def wsum (f : Nat → Int) (a : Nat) : List Int → Int
  | [] => 0
  | c :: cs => f a * c + wsum f (a + 1) cs
/-! ### normal runs -/
def mstep (acc : List Run) (p : Run) : List Run := match acc.getLast? with
  | none => [p]
  | some q => if q.1 = p.1 then acc.set (acc.length - 1) (p.1, q.2 + p.2) else acc ++ [p]
def mrg (rs : List Run) : List Run := rs.foldl mstep []
end Cf
/-! runs behind ticks: what each cell becomes is told by a word from it on -/
namespace Cf
open PySem
/-- each cell becomes what phi tells of the word of W cells from it on -/
def loc (φ : List Int → Int) (W : Nat) (r : List Int) : List Int := (List.range r.length).map fun (c : Nat) => φ (win r c W)
/-! one more cell in a long run -/
section
variable {φ : List Int → Int} {A B : List Int} {x : Int} {k l : Nat}
end
/-- each item as often as told -/
def expand (xs cs : List Int) : List Int := roll (xs.zip cs)
/-! ### normal runs are told by the ring alone -/
/-! ### turned -/
/-- the runs ahead of a place, and those behind it -/
def aheadS : List Run → Int → List Run
  | [], _ => []
  | p :: rs, z => (if 0 < min p.2 z then [(p.1, min p.2 z)] else []) ++ aheadS rs (z - min p.2 z)
def behindS : List Run → Int → List Run
  | [], _ => []
  | p :: rs, z => (if min p.2 z < p.2 then [(p.1, p.2 - min p.2 z)] else []) ++ behindS rs (z - min p.2 z)
end Cf
/-! some ticks -/
namespace Cf
open PySem
def phiN (φ : List Int → Int) (w : Nat) : Nat → List Int → Int
  | 0, u => u.getD 0 0
  | n + 1, u => φ ((List.range w).map fun j => phiN φ w n ((u.drop j).take (n * (w - 1) + 1)))
def locN (φ : List Int → Int) (w : Nat) : Nat → List Int → List Int
  | 0, r => r
  | n + 1, r => loc φ w (locN φ w n r)
/-- a rule's ticks, one behind the other -/
def tickI (s f : Int) (w : Nat) (T : List Int) : Nat → List Int → List Int
  | 0, r => r
  | n + 1, r => tick s f w T (tickI s f w T n r)
abbrev phi (s : Int) (T : List Int) : List Int → Int := fun u => itm T (num s u)
theorem tickI_length (s f : Int) (w : Nat) (T r : List Int) : ∀ n, (tickI s f w T n r).length = r.length
  | 0 => rfl
  | n + 1 => by rw [tickI, tick_length, tickI_length s f w T r n]
/-- a tick on runs -/
def tickR (φ : List Int → Int) (w : Nat) (rs : List Run) : List Run := mrg ((loc φ w (roll (cutS w rs))).zip (cnts w rs))
def tickRn (φ : List Int → Int) (w : Nat) : Nat → List Run → List Run
  | 0, rs => mrg rs
  | n + 1, rs => tickR φ w (tickRn φ w n rs)
structure Okr (s : Int) (rs : List Run) : Prop where
  ne : rs ≠ []
  ps : ∀ p ∈ rs, 1 ≤ p.2
  sg : ∀ p ∈ rs, 0 ≤ p.1 ∧ p.1 < s
/-- the ring from a place on -/
def rot (z : Int) (r : List Int) : List Int := r.drop (z % r.length).toNat ++ r.take (z % r.length).toNat
/-- runs behind ticks -/
def runsTick (s f : Int) (w : Nat) (T : List Int) (rs : List Run) (n : Nat) : List Run :=
  mrg (behindS (tickRn (phi s T) w n rs) (((n : Int) * f) % (rs.map (·.2)).sum) ++ aheadS (tickRn (phi s T) w n rs) (((n : Int) * f) % (rs.map (·.2)).sum))
end Cf
namespace Cf
open PySem PySem.Spec PyProof.Rows L2
open Evl (Ex)
local macro_rules | `(tactic| walk_at "d") => `(tactic| first
  | (with_reducible refine DS_seq ?_)
  | (with_reducible refine DS_if ?_)
  | (with_reducible refine DS_ret ?_)
  | (with_reducible refine DS_next ?_)
  | (with_reducible refine DS_retN ?_)
  | (with_reducible refine DS_set ?_)
  | (with_reducible refine DS_drop ?_)
  | (with_reducible refine DS_unpack ?_)
  | (with_reducible refine DS_par ?_)
  | (with_reducible refine DE_int ?_)
  | (with_reducible refine DE_bl ?_)
  | (with_reducible refine DE_non ?_)
  | (with_reducible refine DE_str ?_)
  | (with_reducible refine DE_isi ?_)
  | (with_reducible refine DE_and ?_)
  | (with_reducible refine DE_or ?_)
  | (with_reducible refine DE_not ?_)
  | (with_reducible refine DE_if ?_)
  | (with_reducible refine DE_chain ?_)
  | (with_reducible refine DE_tyIs ?_)
  | (with_reducible refine DE_tyNot ?_)
  | (with_reducible refine DE_call ?_)
  | ((with_reducible refine' DE_lenOw ?k1 ?_); (case k1 => exact rfl))
  | ((with_reducible refine' DE_reprOw ?k1 ?_); (case k1 => exact rfl))
  | ((with_reducible refine' DE_ixOw ?k1 ?_); (case k1 => exact rfl))
  | ((with_reducible refine' DE_lenOw ?k1 ?_); (case k1 => exact rfl))
  | (with_reducible refine DE_cb ?_)
  | (with_reducible refine DE_new (DL_rep (DL_lst ?_)))
  | (with_reducible refine DE_op ?_)
  | (with_reducible refine DE_un ?_)
  | (with_reducible refine DE_tup ?_)
  | (with_reducible refine DT_test ?_)
  | (with_reducible refine DT_B ?_)
  | (with_reducible refine DT_and ?_)
  | (with_reducible refine DT_or ?_)
  | (with_reducible refine DT_not ?_)
  | (with_reducible refine DT_yes ?_)
  | (with_reducible refine DA_nil ?_)
  | (with_reducible refine DA_cons ?_)
  | (with_reducible refine DO_no ?_)
  | (with_reducible refine DO_at ?_)
  | (with_reducible refine DR_minus ?_)
  | (with_reducible refine DR_mod ?_)
  | (with_reducible refine DR_div ?_)
  | (with_reducible refine DR_pow ?_)
  | (with_reducible refine DR_lt ?_)
  | (with_reducible refine DR_le ?_)
  | (with_reducible refine DR_gt ?_)
  | (with_reducible refine DR_ge ?_)
  | (with_reducible refine DR_eq ?_)
  | (with_reducible refine DR_ne ?_)
  | (with_reducible refine DR_isN ?_)
  | (with_reducible refine DR_notN ?_)
  | (with_reducible refine DU_neg ?_)
  | (with_reducible refine DC_len ?_)
  | (with_reducible refine DC_int ?_)
  | (with_reducible refine DC_abs ?_)
  | (with_reducible refine DC_max2 ?_)
  | (with_reducible refine DC_min2 ?_)
  | (with_reducible refine DC_sum ?_)
  | (with_reducible refine DC_all ?_)
  | (with_reducible refine DC_any ?_)
  | (with_reducible refine DC_repr ?_)
  | (with_reducible refine ⟨_, kb_int _, ?_⟩)
  | (with_reducible refine ⟨_, kb_bool _, ?_⟩)
  | (with_reducible refine ⟨_, kb_list _, ?_⟩)
  | (with_reducible refine ⟨_, kb_tuple _, ?_⟩)
  | (with_reducible refine ⟨_, rfl, ?_⟩)
  | (with_reducible refine ⟨_, _, rfl, rfl, ?_⟩)
  | (with_reducible refine DE_callN ?_)
  | (with_reducible refine DE_callX ?_)
  | (with_reducible refine DR_notB ?_)
  | (with_reducible refine DE_emp ?_)
  | (with_reducible refine DE_new (DL_lst ?_))
  | (with_reducible refine DE_new (DL_callF ?_))
  | (with_reducible refine DE_new (DL_sl ?_))
  | (with_reducible refine DE_slT ?_)
  | (with_reducible refine DC_list ?_)
  | ((with_reducible refine' DE_callT ?k1 ?_); (case k1 => exact rfl))
  | ((with_reducible refine' DE_var ?k1 ?_); (case k1 => exact rfl))
  | ((with_reducible refine' DE_varO ?k1 ?_); (case k1 => exact rfl))
  | ((with_reducible refine' DE_varN ?k1 ?_); (case k1 => exact rfl)))


theorem iteT' {b : Bool} {p q : Prop} (h : b = true) (x : p) : if b = true then p else q := by
  rw [if_pos h]
  exact x
theorem iteF' {b : Bool} {p q : Prop} (h : b = false) (x : q) : if b = true then p else q := by
  rw [if_neg (by rw [h]; simp)]
  exact x
def isRun (s : Int) : PyData → Bool
  | .tuple [.int a, .int b] => decide (0 ≤ a ∧ a < s ∧ 1 ≤ b)
  | _ => false
def W_is_run (ds : List PyData) (R : PyData → Prop) : Prop := ∃ (s : Int) (x : PyData), ds = [.int s, x] ∧ R (.bool (isRun s x))
def t_is_run (K : PySem.W.Frag) : TS :=
  (tSeq (tIfS (tOr (tTest (tOp rNT (tCB (rTyp K) (tCons (tVar 1) tNil)) (tC (.ty "tuple")))) (tTest (tOp (rNeU K) (tCB (rLenA K) (tCons (tVar 1) tNil)) (tC (.int 2)))))
    (tRet (tC (.bl false)))
    tNext)
    (tSeq (tAsg (tVar 1) (gTup K 2 (gNames [2, 3])))
    (tRet (tAndV (tCall (spP K W_is_integer) [] E0 (tCons (tVar 2) tNil)) (tAndV (tChain rLeI rLtI (tC (.int 0)) (tVar 2) (tVar 0)) (tAndV (tCall (spP K W_is_integer) [] E0 (tCons (tVar 3) tNil)) (tOp rGeI (tVar 3) (tC (.int 1)))))))))
def isRuns (s : Int) : PyData → Bool
  | .list ds => decide (1 ≤ ds.length) && ds.all (isRun s)
  | _ => false
def W_is_runs (ds : List PyData) (R : PyData → Prop) : Prop := ∃ (s : Int) (x : PyData), ds = [.int s, x] ∧ 2 ≤ s ∧ s ≤ 4 ∧ shortD x = true ∧ R (.bool (isRuns s x))
def t_is_runs (K : PySem.W.Frag) : TS :=
  (tSeq (tDrop (tCall (spP K W_check_signs) [] E0 (tCons (tVar 0) tNil)))
    (tRet (tAndV (tOp rIsTyB (tCB (rTyp K) (tCons (tVar 1) tNil)) (tC (.ty "list"))) (tAndV (tOp rGeI (tCB (rLenA K) (tCons (tVar 1) tNil)) (tC (.int 1))) (tCB (rAll K) (tCons (tLc (iList K (tVar 1)) (gName 2) tYes (tCall (spP K W_is_run) [] E0 (tCons (tVar 0) (tCons (tVar 2) tNil))) [2]) tNil))))))
abbrev runD (p : Run) : PyData := .tuple [.int p.1, .int p.2]
abbrev RD (rs : List Run) : PyData := .list (rs.map runD)
def W_check_runs (ds : List PyData) (R : PyData → Prop) : Prop := ∃ (s : Int) (rs : List Run), ds = [.int s, RD rs] ∧ 2 ≤ s ∧ s ≤ 4 ∧ Ru s rs ∧ rs.length < 100000 ∧ R .none
def t_check_runs (K : PySem.W.Frag) : TS :=
  (tIfS (tNot (tB (tCall (spP K W_is_runs) [] E0 (tCons (tVar 0) (tCons (tVar 1) tNil)))))
    tNever
    tNext)
/-! ### normal runs -/
def W_merged (ds : List PyData) (R : List PyData → Prop) : Prop := ∃ (rs : List Run), ds = [RD rs] ∧ rs.length < 100000 ∧ R ((mrg rs).map runD)
def t_merged (K : PySem.W.Frag) : TS :=
  (tSeq (tAsg (tLst tNil) (gName 1))
    (tSeq (tFor (iList K (tVar 0)) (gTup K 2 (gNames [2, 3]))
    (tIfS (tAnd (tTru K (tVar 1)) (tTest (tOp (rEqU K) (tOp (rIx K) (tOp (rIx K) (tVar 1) (tUn rNegI (tC (.int 1)))) (tC (.int 0))) (tVar 2))))
    (tAsg (tTup (tCons (tVar 2) (tCons (tOp (rPlus K) (tOp (rIx K) (tOp (rIx K) (tVar 1) (tUn rNegI (tC (.int 1)))) (tC (.int 1))) (tVar 3)) tNil))) (gSub (tVar 1) (tUn rNegI (tC (.int 1))) rSetL))
    (tDrop (tBM K "list" rAppend (tVar 1) (tCons (tTup (tCons (tVar 2) (tCons (tVar 3) tNil))) tNil)))))
    (tRet (tVar 1))))
def W_cells_in (ds : List PyData) (R : PyData → Prop) : Prop := ∃ (rs : List Run), ds = [RD rs] ∧ rs.length < 100000 ∧ R (.int (rs.map (·.2)).sum)
def t_cells_in (K : PySem.W.Frag) : TS :=
  (tRet (tCB (rSum K) (tCons (tLc (iList K (tVar 0)) (gTup K 2 (gNames [1, 2])) tYes (tVar 2) [1, 2]) tNil)))
def W_shortened (ds : List PyData) (R : PyData → Prop) : Prop := ∃ (rs : List Run) (L : Nat), ds = [RD rs, .int L] ∧ 1 ≤ L ∧ L ≤ 512 ∧ rs.length * L ≤ 90000 ∧ (∀ p ∈ rs, 1 ≤ p.2) ∧ R (.tuple [LI (roll (cutS L rs)), LI (cnts L rs)])
def t_shortened (K : PySem.W.Frag) : TS :=
  (tSeq (tAsg (tLst tNil) (gName 2))
    (tSeq (tAsg (tLst tNil) (gName 3))
    (tSeq (tFor (iList K (tVar 0)) (gTup K 2 (gNames [4, 5]))
    (tSeq (tAsg (tCB rMin2A (tCons (tVar 5) (tCons (tVar 1) tNil))) (gName 6))
    (tSeq (tDrop (tBM K "list" rExtend (tVar 2) (tCons (tOp rTimes (tLst (tCons (tVar 4) tNil)) (tVar 6)) tNil)))
    (tSeq (tDrop (tBM K "list" rAppend (tVar 3) (tCons (tOp (rPlus K) (tOp rMinus (tVar 5) (tVar 6)) (tC (.int 1))) tNil)))
    (tDrop (tBM K "list" rExtend (tVar 3) (tCons (tOp rTimes (tLst (tCons (tC (.int 1)) tNil)) (tOp rMinus (tVar 6) (tC (.int 1)))) tNil)))))))
    (tRet (tTup (tCons (tVar 2) (tCons (tVar 3) tNil)))))))
theorem rep_one (n : Nat) (x : PyData) : (List.replicate n [x]).flatten = List.replicate n x := by
  induction n with
  | zero => rfl
  | succ n ih => rw [List.replicate_succ, List.flatten_cons, ih, List.replicate_succ]; rfl
def W_normal_runs (ds : List PyData) (R : List PyData → Prop) : Prop := ∃ (s : Int) (rs : List Run), ds = [.int s, RD rs] ∧ 2 ≤ s ∧ s ≤ 4 ∧ Ru s rs ∧ rs.length < 100000 ∧ R ((mrg rs).map runD)
def t_normal_runs (K : PySem.W.Frag) : TS :=
  (tSeq (tDrop (tCall (spP K W_check_runs) [] E0 (tCons (tVar 0) (tCons (tVar 1) tNil))))
    (tRet (tCall (spF K W_merged) [] E0 (tCons (tVar 1) tNil))))
def W_unrolled (ds : List PyData) (R : PyData → Prop) : Prop := ∃ (s : Int) (rs : List Run), ds = [.int s, RD rs] ∧ 2 ≤ s ∧ s ≤ 4 ∧ Ru s rs ∧ rs.length ≤ 150 ∧ (rs.map (·.2)).sum ≤ 512 ∧ R (LI (roll rs))
def t_unrolled (K : PySem.W.Frag) : TS :=
  (tSeq (tDrop (tCall (spP K W_check_runs) [] E0 (tCons (tVar 0) (tCons (tVar 1) tNil))))
    (tSeq (tIfS (tTest (tOp rGtI (tCall (spP K W_cells_in) [] E0 (tCons (tVar 1) tNil)) (tC (.int 512))))
    tNever
    tNext)
    (tRet (tOp (rIx K) (tCall (spP K W_shortened) [] E0 (tCons (tVar 1) (tCons (tC (.int 512)) tNil))) (tC (.int 0))))))
def W_runs_sum (ds : List PyData) (R : PyData → Prop) : Prop := ∃ (s : Int) (l : Nat) (vs : List Int) (rs : List Run), ds = [wtD s l vs, RD rs] ∧ Wt s l vs ∧ Ru s rs ∧ rs.length ≤ 400 ∧ (∀ v ∈ vs, v.natAbs < 2 ^ 1000) ∧ (∀ p ∈ rs, p.2 < 2 ^ 1000) ∧ R (.int (ringSum s l vs (roll rs)))
def t_runs_sum (K : PySem.W.Frag) : TS :=
  (tSeq (tDrop (tCall (spP K W_check_weight) [] E0 (tCons (tVar 0) tNil)))
    (tSeq (tAsg (tVar 0) (gTup K 3 (gNames [2, 3, 4])))
    (tSeq (tDrop (tCall (spP K W_check_runs) [] E0 (tCons (tVar 2) (tCons (tVar 1) tNil))))
    (tSeq (tAsg (tCall (spP K W_shortened) [] E0 (tCons (tVar 1) (tCons (tVar 3) tNil))) (gTup K 2 (gNames [5, 6])))
    (tSeq (tAsg (tCall (spP K W_numbers_round) [] E0 (tCons (tVar 2) (tCons (tVar 3) (tCons (tVar 5) (tCons (tC (.int 0)) tNil))))) (gName 7))
    (tRet (tCB (rSum K) (tCons (tLc (iZip K (tCons (tVar 7) (tCons (tVar 6) tNil))) (gTup K 2 (gNames [8, 9])) tYes (tOp rTimes (tOp (rIx K) (tVar 4) (tVar 8)) (tVar 9)) [8, 9]) tNil))))))))
end Cf
namespace Cf
open PySem PySem.Spec PyProof.Rows L2
open Evl (Ex)
local macro_rules | `(tactic| walk_at "d") => `(tactic| first
  | (with_reducible refine DS_seq ?_)
  | (with_reducible refine DS_if ?_)
  | (with_reducible refine DS_ret ?_)
  | (with_reducible refine DS_next ?_)
  | (with_reducible refine DS_retN ?_)
  | (with_reducible refine DS_set ?_)
  | (with_reducible refine DS_drop ?_)
  | (with_reducible refine DS_unpack ?_)
  | (with_reducible refine DS_par ?_)
  | (with_reducible refine DE_int ?_)
  | (with_reducible refine DE_bl ?_)
  | (with_reducible refine DE_non ?_)
  | (with_reducible refine DE_str ?_)
  | (with_reducible refine DE_isi ?_)
  | (with_reducible refine DE_and ?_)
  | (with_reducible refine DE_or ?_)
  | (with_reducible refine DE_not ?_)
  | (with_reducible refine DE_if ?_)
  | (with_reducible refine DE_chain ?_)
  | (with_reducible refine DE_tyIs ?_)
  | (with_reducible refine DE_tyNot ?_)
  | (with_reducible refine DE_call ?_)
  | ((with_reducible refine' DE_lenOw ?k1 ?_); (case k1 => exact rfl))
  | ((with_reducible refine' DE_reprOw ?k1 ?_); (case k1 => exact rfl))
  | ((with_reducible refine' DE_ixOw ?k1 ?_); (case k1 => exact rfl))
  | ((with_reducible refine' DE_lenOw ?k1 ?_); (case k1 => exact rfl))
  | (with_reducible refine DE_cb ?_)
  | (with_reducible refine DE_new (DL_rep (DL_lst ?_)))
  | (with_reducible refine DE_op ?_)
  | (with_reducible refine DE_un ?_)
  | (with_reducible refine DE_tup ?_)
  | (with_reducible refine DT_test ?_)
  | (with_reducible refine DT_B ?_)
  | (with_reducible refine DT_and ?_)
  | (with_reducible refine DT_or ?_)
  | (with_reducible refine DT_not ?_)
  | (with_reducible refine DT_yes ?_)
  | (with_reducible refine DA_nil ?_)
  | (with_reducible refine DA_cons ?_)
  | (with_reducible refine DO_no ?_)
  | (with_reducible refine DO_at ?_)
  | (with_reducible refine DR_minus ?_)
  | (with_reducible refine DR_mod ?_)
  | (with_reducible refine DR_div ?_)
  | (with_reducible refine DR_pow ?_)
  | (with_reducible refine DR_lt ?_)
  | (with_reducible refine DR_le ?_)
  | (with_reducible refine DR_gt ?_)
  | (with_reducible refine DR_ge ?_)
  | (with_reducible refine DR_eq ?_)
  | (with_reducible refine DR_ne ?_)
  | (with_reducible refine DR_isN ?_)
  | (with_reducible refine DR_notN ?_)
  | (with_reducible refine DU_neg ?_)
  | (with_reducible refine DC_len ?_)
  | (with_reducible refine DC_int ?_)
  | (with_reducible refine DC_abs ?_)
  | (with_reducible refine DC_max2 ?_)
  | (with_reducible refine DC_min2 ?_)
  | (with_reducible refine DC_sum ?_)
  | (with_reducible refine DC_all ?_)
  | (with_reducible refine DC_any ?_)
  | (with_reducible refine DC_repr ?_)
  | (with_reducible refine ⟨_, kb_int _, ?_⟩)
  | (with_reducible refine ⟨_, kb_bool _, ?_⟩)
  | (with_reducible refine ⟨_, kb_list _, ?_⟩)
  | (with_reducible refine ⟨_, kb_tuple _, ?_⟩)
  | (with_reducible refine ⟨_, rfl, ?_⟩)
  | (with_reducible refine ⟨_, _, rfl, rfl, ?_⟩)
  | (with_reducible refine DE_callN ?_)
  | (with_reducible refine DE_callX ?_)
  | (with_reducible refine DR_notB ?_)
  | (with_reducible refine DE_emp ?_)
  | (with_reducible refine DE_new (DL_lst ?_))
  | (with_reducible refine DE_new (DL_callF ?_))
  | (with_reducible refine DE_new (DL_sl ?_))
  | (with_reducible refine DE_slT ?_)
  | (with_reducible refine DC_list ?_)
  | ((with_reducible refine' DE_callT ?k1 ?_); (case k1 => exact rfl))
  | ((with_reducible refine' DE_var ?k1 ?_); (case k1 => exact rfl))
  | ((with_reducible refine' DE_varO ?k1 ?_); (case k1 => exact rfl))
  | ((with_reducible refine' DE_varN ?k1 ?_); (case k1 => exact rfl)))


def W_turned (ds : List PyData) (R : List PyData → Prop) : Prop := ∃ (rs : List Run) (z : Int), ds = [RD rs, .int z] ∧ rs.length < 45000 ∧ (∀ p ∈ rs, 1 ≤ p.2) ∧ 0 ≤ z ∧ R ((mrg (behindS rs z ++ aheadS rs z)).map runD)
def t_turned (K : PySem.W.Frag) : TS :=
  (tSeq (tAsg (tLst tNil) (gName 2))
    (tSeq (tAsg (tLst tNil) (gName 3))
    (tSeq (tFor (iList K (tVar 0)) (gTup K 2 (gNames [4, 5]))
    (tSeq (tAsg (tCB rMin2A (tCons (tVar 5) (tCons (tVar 1) tNil))) (gName 6))
    (tSeq (tAsg (tOp rMinus (tVar 1) (tVar 6)) (gName 1))
    (tSeq (tIfS (tTest (tOp rGtI (tVar 6) (tC (.int 0))))
    (tDrop (tBM K "list" rAppend (tVar 2) (tCons (tTup (tCons (tVar 4) (tCons (tVar 6) tNil))) tNil)))
    tNext)
    (tIfS (tTest (tOp rGtI (tVar 5) (tVar 6)))
    (tDrop (tBM K "list" rAppend (tVar 3) (tCons (tTup (tCons (tVar 4) (tCons (tOp rMinus (tVar 5) (tVar 6)) tNil))) tNil)))
    tNext)))))
    (tRet (tCall (spF K W_merged) [] E0 (tCons (tOp (rPlus K) (tVar 3) (tVar 2)) tNil))))))
def W_cells_of (ds : List PyData) (R : PyData → Prop) : Prop := ∃ (s : Int) (rs : List Run), ds = [.int s, RD rs] ∧ 2 ≤ s ∧ s ≤ 4 ∧ Ru s rs ∧ rs.length < 100000 ∧ R (.int (rs.map (·.2)).sum)
def t_cells_of (K : PySem.W.Frag) : TS :=
  (tSeq (tDrop (tCall (spP K W_check_runs) [] E0 (tCons (tVar 0) (tCons (tVar 1) tNil))))
    (tRet (tCall (spP K W_cells_in) [] E0 (tCons (tVar 1) tNil))))
def W_ticked_runs (ds : List PyData) (R : List PyData → Prop) : Prop := ∃ (s f : Int) (w : Nat) (T : List Int) (rs : List Run) (n : Nat), ds = [rlD s f w T, RD rs, .int n] ∧ Rl s f w T ∧ Ru s rs ∧ n ≤ 10 ∧ (rs.length * ((n - 1) * (w - 1) + 1) * w ≤ 5000 ∨ (rs.map (·.2)).sum ≤ 5000) ∧ rs.length ≤ 400 ∧ R ((runsTick s f w T rs n).map runD)
def t_ticked_runs (K : PySem.W.Frag) : TS :=
  (tSeq (tDrop (tCall (spP K W_check_rule) [] E0 (tCons (tVar 0) tNil)))
    (tSeq (tAsg (tVar 0) (gTup K 4 (gNames [3, 4, 5, 6])))
    (tSeq (tDrop (tCall (spP K W_check_runs) [] E0 (tCons (tVar 3) (tCons (tVar 1) tNil))))
    (tSeq (tDrop (tCall (spP K W_check_ticks) [] E0 (tCons (tVar 2) (tCons (tC (.int 10)) tNil))))
    (tSeq (tAsg (tCall (spF K W_merged) [] E0 (tCons (tVar 1) tNil)) (gName 7))
    (tSeq (tFor (iRg1 (tCons (tVar 2) tNil)) (gName 8)
    (tSeq (tAsg (tCall (spP K W_shortened) [] E0 (tCons (tVar 7) (tCons (tVar 5) tNil))) (gTup K 2 (gNames [9, 10])))
    (tSeq (tAsg (tCall (spP K W_numbers_round) [] E0 (tCons (tVar 3) (tCons (tVar 5) (tCons (tVar 9) (tCons (tC (.int 0)) tNil))))) (gName 11))
    (tAsg (tCall (spF K W_merged) [] E0 (tCons (tLc (iZip K (tCons (tVar 11) (tCons (tVar 10) tNil))) (gTup K 2 (gNames [12, 13])) tYes (tTup (tCons (tOp (rIx K) (tVar 6) (tVar 12)) (tCons (tVar 13) tNil))) [12, 13]) tNil)) (gName 7)))))
    (tRet (tCall (spF K W_turned) [] E0 (tCons (tVar 7) (tCons (tOp rModI (tOp rTimes (tVar 2) (tVar 4)) (tCall (spP K W_cells_in) [] E0 (tCons (tVar 1) tNil))) tNil))))))))))
end Cf
namespace Cf
open PySem PySem.Spec PyProof.Rows L2
open Evl (Ex)
local macro_rules | `(tactic| walk_at "d") => `(tactic| first
  | (with_reducible refine DS_seq ?_)
  | (with_reducible refine DS_if ?_)
  | (with_reducible refine DS_ret ?_)
  | (with_reducible refine DS_next ?_)
  | (with_reducible refine DS_retN ?_)
  | (with_reducible refine DS_set ?_)
  | (with_reducible refine DS_drop ?_)
  | (with_reducible refine DS_unpack ?_)
  | (with_reducible refine DS_par ?_)
  | (with_reducible refine DE_int ?_)
  | (with_reducible refine DE_bl ?_)
  | (with_reducible refine DE_non ?_)
  | (with_reducible refine DE_str ?_)
  | (with_reducible refine DE_isi ?_)
  | (with_reducible refine DE_and ?_)
  | (with_reducible refine DE_or ?_)
  | (with_reducible refine DE_not ?_)
  | (with_reducible refine DE_if ?_)
  | (with_reducible refine DE_chain ?_)
  | (with_reducible refine DE_tyIs ?_)
  | (with_reducible refine DE_tyNot ?_)
  | (with_reducible refine DE_call ?_)
  | ((with_reducible refine' DE_lenOw ?k1 ?_); (case k1 => exact rfl))
  | ((with_reducible refine' DE_reprOw ?k1 ?_); (case k1 => exact rfl))
  | ((with_reducible refine' DE_ixOw ?k1 ?_); (case k1 => exact rfl))
  | ((with_reducible refine' DE_lenOw ?k1 ?_); (case k1 => exact rfl))
  | (with_reducible refine DE_cb ?_)
  | (with_reducible refine DE_new (DL_rep (DL_lst ?_)))
  | (with_reducible refine DE_op ?_)
  | (with_reducible refine DE_un ?_)
  | (with_reducible refine DE_tup ?_)
  | (with_reducible refine DT_test ?_)
  | (with_reducible refine DT_B ?_)
  | (with_reducible refine DT_and ?_)
  | (with_reducible refine DT_or ?_)
  | (with_reducible refine DT_not ?_)
  | (with_reducible refine DT_yes ?_)
  | (with_reducible refine DA_nil ?_)
  | (with_reducible refine DA_cons ?_)
  | (with_reducible refine DO_no ?_)
  | (with_reducible refine DO_at ?_)
  | (with_reducible refine DR_minus ?_)
  | (with_reducible refine DR_mod ?_)
  | (with_reducible refine DR_div ?_)
  | (with_reducible refine DR_pow ?_)
  | (with_reducible refine DR_lt ?_)
  | (with_reducible refine DR_le ?_)
  | (with_reducible refine DR_gt ?_)
  | (with_reducible refine DR_ge ?_)
  | (with_reducible refine DR_eq ?_)
  | (with_reducible refine DR_ne ?_)
  | (with_reducible refine DR_isN ?_)
  | (with_reducible refine DR_notN ?_)
  | (with_reducible refine DU_neg ?_)
  | (with_reducible refine DC_len ?_)
  | (with_reducible refine DC_int ?_)
  | (with_reducible refine DC_abs ?_)
  | (with_reducible refine DC_max2 ?_)
  | (with_reducible refine DC_min2 ?_)
  | (with_reducible refine DC_sum ?_)
  | (with_reducible refine DC_all ?_)
  | (with_reducible refine DC_any ?_)
  | (with_reducible refine DC_repr ?_)
  | (with_reducible refine ⟨_, kb_int _, ?_⟩)
  | (with_reducible refine ⟨_, kb_bool _, ?_⟩)
  | (with_reducible refine ⟨_, kb_list _, ?_⟩)
  | (with_reducible refine ⟨_, kb_tuple _, ?_⟩)
  | (with_reducible refine ⟨_, rfl, ?_⟩)
  | (with_reducible refine ⟨_, _, rfl, rfl, ?_⟩)
  | (with_reducible refine DE_callN ?_)
  | (with_reducible refine DE_callX ?_)
  | (with_reducible refine DR_notB ?_)
  | (with_reducible refine DE_emp ?_)
  | (with_reducible refine DE_new (DL_lst ?_))
  | (with_reducible refine DE_new (DL_callF ?_))
  | (with_reducible refine DE_new (DL_sl ?_))
  | (with_reducible refine DE_slT ?_)
  | (with_reducible refine DC_list ?_)
  | ((with_reducible refine' DE_callT ?k1 ?_); (case k1 => exact rfl))
  | ((with_reducible refine' DE_var ?k1 ?_); (case k1 => exact rfl))
  | ((with_reducible refine' DE_varO ?k1 ?_); (case k1 => exact rfl))
  | ((with_reducible refine' DE_varN ?k1 ?_); (case k1 => exact rfl)))


/-! ticks: paths of rings -/
theorem tick_rg {s f : Int} {w : Nat} {T r : List Int} (hr : Rl s f w T) (h : Rg s r) : Rg s (tick s f w T r) :=
  ⟨fun e => h.ne (by
    have := tick_length s f w T r
    rw [e] at this
    exact List.length_eq_zero_iff.mp this.symm), by rw [tick_length]; exact h.le, tick_signs (by have := hr.s2; omega) hr.ok⟩
theorem tickI_rg {s f : Int} {w : Nat} {T r : List Int} (hr : Rl s f w T) (h : Rg s r) : ∀ n, Rg s (tickI s f w T n r)
  | 0 => h
  | n + 1 => tick_rg hr (tickI_rg hr h n)
def W_next_ring (ds : List PyData) (R : PyData → Prop) : Prop := ∃ (s f : Int) (w : Nat) (T r : List Int), ds = [rlD s f w T, LI r] ∧ Rl s f w T ∧ Rg s r ∧ R (LI (tick s f w T r))
def t_next_ring (K : PySem.W.Frag) : TS :=
  (tSeq (tAsg (tVar 0) (gTup K 4 (gNames [2, 3, 4, 5])))
    (tRet (tLc (iList K (tCall (spP K W_numbers_round) [] E0 (tCons (tVar 2) (tCons (tVar 4) (tCons (tVar 1) (tCons (tVar 3) tNil)))))) (gName 6) tYes (tOp (rIx K) (tVar 5) (tVar 6)) [6])))
def W_most_ticks (ds : List PyData) (R : PyData → Prop) : Prop := ∃ (s : Int) (r : List Int), ds = [.int s, LI r] ∧ 2 ≤ s ∧ s ≤ 4 ∧ R (.int (if s ^ r.length ≤ 65536 then 1000000000000000000000000000000 else 100))
def t_most_ticks (K : PySem.W.Frag) : TS :=
  (tSeq (tIfS (tTest (tOp rIsNone (tCall (spP K W_count_words) [] E0 (tCons (tVar 0) (tCons (tCB (rLenA K) (tCons (tVar 1) tNil)) (tCons (tC (.int 65536)) tNil)))) (tC .non)))
    (tRet (tC (.int 100)))
    tNext)
    (tRet (tC (.int 1000000000000000000000000000000))))
/-- the path of the rings behind 0 to m ticks -/
abbrev PT (s f : Int) (w : Nat) (T r : List Int) (m : Nat) : List PyData := (List.range (m + 1)).map fun i => LI (tickI s f w T i r)
/-- what a path's dict knows -/
def Seen (s f : Int) (w : Nat) (T r : List Int) (m : Nat) (kvs : List (List Key × PyData)) : Prop :=
  (∀ ks : List Int, (∃ j, j ≤ m ∧ valD kvs (ks.map Sum.inl) = some (.int (j : Int)) ∧ tickI s f w T j r = ks) ∨ (valD kvs (ks.map Sum.inl) = none ∧ ∀ j, j ≤ m → tickI s f w T j r ≠ ks)) ∧
  kvs.length ≤ m + 1 ∧ ∀ i j, i < j → j ≤ m → tickI s f w T i r ≠ tickI s f w T j r
theorem inl_inj {ks ks' : List Int} : ks.map (Sum.inl : Int → Key) = ks'.map Sum.inl ↔ ks = ks' := by
  constructor
  · intro h
    have := congrArg (List.map (fun k : Key => match k with | .inl z => z | .inr _ => 0)) h
    rw [List.map_map, List.map_map] at this
    simpa [Function.comp_def] using this
  · intro h
    rw [h]
theorem Seen.zero (s f : Int) (w : Nat) (T r : List Int) : Seen s f w T r 0 [(r.map Sum.inl, .int 0)] := by
  refine ⟨fun ks => ?_, by simp, fun i j h1 h2 => by omega⟩
  by_cases e : ks = r
  · subst e
    exact .inl ⟨0, Nat.le_refl _, by simp [valD], rfl⟩
  · refine .inr ⟨?_, fun j hj he => ?_⟩
    · have : ¬ r.map (Sum.inl : Int → Key) = ks.map Sum.inl := fun z => e (inl_inj.mp z).symm
      simp [valD, this]
    · obtain rfl : j = 0 := by omega
      exact e he.symm
theorem Seen.step {s f : Int} {w : Nat} {T r : List Int} {m : Nat} {kvs : List (List Key × PyData)} (h : Seen s f w T r m kvs) (hn : valD kvs ((tickI s f w T (m + 1) r).map Sum.inl) = none) : Seen s f w T r (m + 1) (putD kvs ((tickI s f w T (m + 1) r).map Sum.inl) (.int ((m + 1 : Nat) : Int))) := by
  obtain ⟨h1, h2, h3⟩ := h
  have hno : ∀ j, j ≤ m → tickI s f w T j r ≠ tickI s f w T (m + 1) r := by
    rcases h1 (tickI s f w T (m + 1) r) with ⟨j, _, e, _⟩ | ⟨_, e⟩
    · rw [hn] at e
      cases e
    · exact e
  refine ⟨fun ks => ?_, Nat.le_trans (putD_length _ _ _) (by omega), fun i j hi hj => ?_⟩
  · rw [valD_put]
    by_cases e : ks = tickI s f w T (m + 1) r
    · rw [if_pos (inl_inj.mpr e)]
      exact .inl ⟨m + 1, Nat.le_refl _, rfl, e.symm⟩
    · rw [if_neg fun z => e (inl_inj.mp z)]
      rcases h1 ks with ⟨j, hj, a, b⟩ | ⟨a, b⟩
      · exact .inl ⟨j, by omega, a, b⟩
      · refine .inr ⟨a, fun j hj => ?_⟩
        by_cases ej : j = m + 1
        · subst ej
          exact fun z => e z.symm
        · exact b j (by omega)
  · by_cases ej : j = m + 1
    · subst ej
      exact hno i (by omega)
    · exact h3 i j hi (by omega)
theorem pigeon' : ∀ (n : Nat) (f : Nat → Nat), (∀ i, i ≤ n → f i < n) → ∃ i j, i < j ∧ j ≤ n ∧ f i = f j
  | 0, f, h => absurd (h 0 (Nat.le_refl _)) (by omega)
  | n + 1, f, h => by
    by_cases hx : ∃ i, i ≤ n ∧ f i = f (n + 1)
    · obtain ⟨i, hi, e⟩ := hx
      exact ⟨i, n + 1, by omega, Nat.le_refl _, e⟩
    · have no : ∀ i, i ≤ n → f i ≠ f (n + 1) := fun i hi e => hx ⟨i, hi, e⟩
      have hv := h (n + 1) (Nat.le_refl _)
      obtain ⟨i, j, hij, hj, e⟩ := pigeon' n (fun i => if f i > f (n + 1) then f i - 1 else f i) fun i hi => by
        have h1 := h i (by omega)
        have h2 := no i hi
        show (if f i > f (n + 1) then f i - 1 else f i) < n
        split <;> omega
      refine ⟨i, j, hij, by omega, ?_⟩
      have h1 := no i (by omega)
      have h2 := no j hj
      have e : (if f i > f (n + 1) then f i - 1 else f i) = (if f j > f (n + 1) then f j - 1 else f j) := e
      split at e <;> split at e <;> omega
theorem Seen.small {s f : Int} {w : Nat} {T r : List Int} {m : Nat} {kvs : List (List Key × PyData)} (h : Seen s f w T r m kvs) (hr : Rl s f w T) (hg : Rg s r) (hb : s ^ r.length ≤ 65536) : m < 65536 := by
  have hs : 0 < s := by
    have := hr.s2
    omega
  apply Classical.byContradiction
  intro hm
  obtain ⟨i, j, hij, hj, e⟩ := pigeon' 65536 (fun i => (num s (tickI s f w T i r)).toNat) fun i hi => by
    have b := num_bound hs _ (tickI_rg hr hg i).ok
    rw [tickI_length] at b
    show (num s (tickI s f w T i r)).toNat < 65536
    omega
  have e : (num s (tickI s f w T i r)).toNat = (num s (tickI s f w T j r)).toNat := e
  have b1 := num_bound hs _ (tickI_rg hr hg i).ok
  have b2 := num_bound hs _ (tickI_rg hr hg j).ok
  have e : num s (tickI s f w T i r) = num s (tickI s f w T j r) := by omega
  have w1 := wordOf_num hs _ (tickI_rg hr hg i).ok
  have w2 := wordOf_num hs _ (tickI_rg hr hg j).ok
  rw [tickI_length] at w1 w2
  exact h.2.2 i j hij (by omega) (by rw [← w1, ← w2, e])

def W_ring_path (ds : List PyData) (R : PyData → Prop) : Prop := ∃ (s f : Int) (w : Nat) (T r : List Int) (n : Nat), ds = [rlD s f w T, LI r, .int n] ∧ Rl s f w T ∧ Rg s r ∧ (n ≤ 100 ∨ s ^ r.length ≤ 65536) ∧
  ∀ (m : Nat) (since : PyData), m ≤ 65536 → (∀ i j, i < j → j ≤ m → tickI s f w T i r ≠ tickI s f w T j r) → (since = .none ∧ m = n ∨ ∃ c : Nat, c ≤ m ∧ since = .int c ∧ m < n ∧ tickI s f w T (m + 1) r = tickI s f w T c r) → R (.tuple [.list (PT s f w T r m), since])
def t_ring_path (K : PySem.W.Frag) : TS :=
  (tSeq (tAsg (tLst (tCons (tCB (rListA K) (tCons (tVar 1) tNil)) tNil)) (gName 3))
    (tSeq (tAsg (tDispT (tThen (tVar 1) (kTup K)) (tC (.int 0))) (gName 4))
    (tSeq (tWhile (tTest (tOp rLeI (tCB (rLenA K) (tCons (tVar 3) tNil)) (tVar 2)))
    (tSeq (tAsg (tCall (spP K W_next_ring) [] E0 (tCons (tVar 0) (tCons (tOp (rIx K) (tVar 3) (tUn rNegI (tC (.int 1)))) tNil))) (gName 5))
    (tSeq (tAsg (tDGet1 (tVar 4) (tThen (tVar 5) (kTup K))) (gName 6))
    (tSeq (tIfS (tTest (tOp rNotNone (tVar 6) (tC .non)))
    (tRet (tTup (tCons (tVar 3) (tCons (tVar 6) tNil))))
    tNext)
    (tSeq (sDPut (tVar 4) (tThen (tVar 5) (kTup K)) (tCB (rLenA K) (tCons (tVar 3) tNil)))
    (tDrop (tBM K "list" rAppend (tVar 3) (tCons (tVar 5) tNil))))))))
    (tRet (tTup (tCons (tVar 3) (tCons (tC .non) tNil)))))))
def W_ring_on_path (ds : List PyData) (R : PyData → Prop) : Prop := ∃ (s f : Int) (w : Nat) (T r : List Int) (m n : Nat) (since : PyData), ds = [.list (PT s f w T r m), since, .int n] ∧ m ≤ 65536 ∧ (since = .none ∧ m = n ∨ ∃ c : Nat, c ≤ m ∧ since = .int c ∧ m < n ∧ tickI s f w T (m + 1) r = tickI s f w T c r) ∧ R (LI (tickI s f w T n r))
def t_ring_on_path (K : PySem.W.Frag) : TS :=
  (tSeq (tIfS (tTest (tOp rIsNone (tVar 1) (tC .non)))
    (tRet (tOp (rIx K) (tVar 0) (tVar 2)))
    tNext)
    (tRet (tOp (rIx K) (tVar 0) (tOp (rPlus K) (tVar 1) (tOp rModI (tOp rMinus (tVar 2) (tVar 1)) (tOp rMinus (tCB (rLenA K) (tCons (tVar 0) tNil)) (tVar 1)))))))
def W_ticked (ds : List PyData) (R : PyData → Prop) : Prop := ∃ (s f : Int) (w : Nat) (T r : List Int) (n : Nat), ds = [rlD s f w T, LI r, .int n] ∧ Rl s f w T ∧ Rg s r ∧ (n ≤ 100 ∨ s ^ r.length ≤ 65536 ∧ n ≤ 1000000000000000000000000000000) ∧ R (LI (tickI s f w T n r))
def t_ticked (K : PySem.W.Frag) : TS :=
  (tSeq (tDrop (tCall (spP K W_check_rule) [] E0 (tCons (tVar 0) tNil)))
    (tSeq (tDrop (tCall (spP K W_check_ring) [] E0 (tCons (tOp (rIx K) (tVar 0) (tC (.int 0))) (tCons (tVar 1) tNil))))
    (tSeq (tDrop (tCall (spP K W_check_ticks) [] E0 (tCons (tVar 2) (tCons (tCall (spP K W_most_ticks) [] E0 (tCons (tOp (rIx K) (tVar 0) (tC (.int 0))) (tCons (tVar 1) tNil))) tNil))))
    (tSeq (tAsg (tCall (spP K W_ring_path) [] E0 (tCons (tVar 0) (tCons (tVar 1) (tCons (tVar 2) tNil)))) (gTup K 2 (gNames [3, 4])))
    (tRet (tCall (spP K W_ring_on_path) [] E0 (tCons (tVar 3) (tCons (tVar 4) (tCons (tVar 2) tNil)))))))))
end Cf
namespace Cf
open PySem PySem.Spec PyProof.Rows L2
open Evl (Ex)
local macro_rules | `(tactic| walk_at "d") => `(tactic| first
  | (with_reducible refine DS_seq ?_)
  | (with_reducible refine DS_if ?_)
  | (with_reducible refine DS_ret ?_)
  | (with_reducible refine DS_next ?_)
  | (with_reducible refine DS_retN ?_)
  | (with_reducible refine DS_set ?_)
  | (with_reducible refine DS_drop ?_)
  | (with_reducible refine DS_unpack ?_)
  | (with_reducible refine DS_par ?_)
  | (with_reducible refine DE_int ?_)
  | (with_reducible refine DE_bl ?_)
  | (with_reducible refine DE_non ?_)
  | (with_reducible refine DE_str ?_)
  | (with_reducible refine DE_isi ?_)
  | (with_reducible refine DE_and ?_)
  | (with_reducible refine DE_or ?_)
  | (with_reducible refine DE_not ?_)
  | (with_reducible refine DE_if ?_)
  | (with_reducible refine DE_chain ?_)
  | (with_reducible refine DE_tyIs ?_)
  | (with_reducible refine DE_tyNot ?_)
  | (with_reducible refine DE_call ?_)
  | ((with_reducible refine' DE_lenOw ?k1 ?_); (case k1 => exact rfl))
  | ((with_reducible refine' DE_reprOw ?k1 ?_); (case k1 => exact rfl))
  | ((with_reducible refine' DE_ixOw ?k1 ?_); (case k1 => exact rfl))
  | ((with_reducible refine' DE_lenOw ?k1 ?_); (case k1 => exact rfl))
  | (with_reducible refine DE_cb ?_)
  | (with_reducible refine DE_new (DL_rep (DL_lst ?_)))
  | (with_reducible refine DE_op ?_)
  | (with_reducible refine DE_un ?_)
  | (with_reducible refine DE_tup ?_)
  | (with_reducible refine DT_test ?_)
  | (with_reducible refine DT_B ?_)
  | (with_reducible refine DT_and ?_)
  | (with_reducible refine DT_or ?_)
  | (with_reducible refine DT_not ?_)
  | (with_reducible refine DT_yes ?_)
  | (with_reducible refine DA_nil ?_)
  | (with_reducible refine DA_cons ?_)
  | (with_reducible refine DO_no ?_)
  | (with_reducible refine DO_at ?_)
  | (with_reducible refine DR_minus ?_)
  | (with_reducible refine DR_mod ?_)
  | (with_reducible refine DR_div ?_)
  | (with_reducible refine DR_pow ?_)
  | (with_reducible refine DR_lt ?_)
  | (with_reducible refine DR_le ?_)
  | (with_reducible refine DR_gt ?_)
  | (with_reducible refine DR_ge ?_)
  | (with_reducible refine DR_eq ?_)
  | (with_reducible refine DR_ne ?_)
  | (with_reducible refine DR_isN ?_)
  | (with_reducible refine DR_notN ?_)
  | (with_reducible refine DU_neg ?_)
  | (with_reducible refine DC_len ?_)
  | (with_reducible refine DC_int ?_)
  | (with_reducible refine DC_abs ?_)
  | (with_reducible refine DC_max2 ?_)
  | (with_reducible refine DC_min2 ?_)
  | (with_reducible refine DC_sum ?_)
  | (with_reducible refine DC_all ?_)
  | (with_reducible refine DC_any ?_)
  | (with_reducible refine DC_repr ?_)
  | (with_reducible refine ⟨_, kb_int _, ?_⟩)
  | (with_reducible refine ⟨_, kb_bool _, ?_⟩)
  | (with_reducible refine ⟨_, kb_list _, ?_⟩)
  | (with_reducible refine ⟨_, kb_tuple _, ?_⟩)
  | (with_reducible refine ⟨_, rfl, ?_⟩)
  | (with_reducible refine ⟨_, _, rfl, rfl, ?_⟩)
  | (with_reducible refine DE_callN ?_)
  | (with_reducible refine DE_callX ?_)
  | (with_reducible refine DR_notB ?_)
  | (with_reducible refine DE_emp ?_)
  | (with_reducible refine DE_new (DL_lst ?_))
  | (with_reducible refine DE_new (DL_callF ?_))
  | (with_reducible refine DE_new (DL_sl ?_))
  | (with_reducible refine DE_slT ?_)
  | (with_reducible refine DC_list ?_)
  | ((with_reducible refine' DE_callT ?k1 ?_); (case k1 => exact rfl))
  | ((with_reducible refine' DE_var ?k1 ?_); (case k1 => exact rfl))
  | ((with_reducible refine' DE_varO ?k1 ?_); (case k1 => exact rfl))
  | ((with_reducible refine' DE_varN ?k1 ?_); (case k1 => exact rfl)))


def W__law_purse (ds : List PyData) (R : List PyData → Prop) : Prop := ∃ (ns : List Int) (k : Nat), ds = [LI ns, .int k] ∧ k < 1000 ∧ ∀ x y : Int, 0 ≤ x → 0 ≤ y → y < 2 ^ 200 → R [.int x, .int y, .int 0]
def t__law_purse (K : PySem.W.Frag) : TS :=
  (tSeq (tAsg (tIf (tTest (tOp rLtI (tVar 1) (tCB (rLenA K) (tCons (tVar 0) tNil)))) (tOp (rIx K) (tVar 0) (tVar 1)) (tC (.int 0))) (gName 2))
    (tRet (tLst (tCons (tCB rMax2A (tCons (tC (.int 0)) (tCons (tOp rMinus (tVar 2) (tOp rPowI (tC (.int 10)) (tC (.int 18)))) tNil))) (tCons (tOp (rPlus K) (tOp (rPlus K) (tOp rModI (tCB rIntA (tCons (tCB rAbsA (tCons (tVar 2) tNil)) tNil)) (tOp (rPlus K) (tOp rPowI (tC (.int 10)) (tC (.int 41))) (tC (.int 37)))) (tOp rTimes (tC (.int 90001)) (tVar 1))) (tC (.int 17))) (tCons (tC (.int 0)) tNil))))))
def W__law_power (ds : List PyData) (R : PyData → Prop) : Prop := ∃ (b : Int) (n : Nat), ds = [.int b, .int n] ∧ 0 ≤ b ∧ b ≤ 1000 ∧ R (.int (b ^ n))
def t__law_power (K : PySem.W.Frag) : TS :=
  (tSeq (tAsg (tC (.int 1)) (gName 2))
    (tSeq (tFor (iRg1 (tCons (tVar 1) tNil)) (gName 3)
    (tAsg (tOp rTimes (tVar 2) (tVar 0)) (gName 2)))
    (tRet (tVar 2))))
end Cf
namespace Cf
open PySem PySem.Spec PyProof.Rows L2
open Evl (Ex)
local macro_rules | `(tactic| walk_at "d") => `(tactic| first
  | (with_reducible refine DS_seq ?_)
  | (with_reducible refine DS_if ?_)
  | (with_reducible refine DS_ret ?_)
  | (with_reducible refine DS_next ?_)
  | (with_reducible refine DS_retN ?_)
  | (with_reducible refine DS_set ?_)
  | (with_reducible refine DS_drop ?_)
  | (with_reducible refine DS_unpack ?_)
  | (with_reducible refine DS_par ?_)
  | (with_reducible refine DE_int ?_)
  | (with_reducible refine DE_bl ?_)
  | (with_reducible refine DE_non ?_)
  | (with_reducible refine DE_str ?_)
  | (with_reducible refine DE_isi ?_)
  | (with_reducible refine DE_and ?_)
  | (with_reducible refine DE_or ?_)
  | (with_reducible refine DE_not ?_)
  | (with_reducible refine DE_if ?_)
  | (with_reducible refine DE_chain ?_)
  | (with_reducible refine DE_tyIs ?_)
  | (with_reducible refine DE_tyNot ?_)
  | (with_reducible refine DE_call ?_)
  | ((with_reducible refine' DE_lenOw ?k1 ?_); (case k1 => exact rfl))
  | ((with_reducible refine' DE_reprOw ?k1 ?_); (case k1 => exact rfl))
  | ((with_reducible refine' DE_ixOw ?k1 ?_); (case k1 => exact rfl))
  | ((with_reducible refine' DE_lenOw ?k1 ?_); (case k1 => exact rfl))
  | (with_reducible refine DE_cb ?_)
  | (with_reducible refine DE_new (DL_rep (DL_lst ?_)))
  | (with_reducible refine DE_op ?_)
  | (with_reducible refine DE_un ?_)
  | (with_reducible refine DE_tup ?_)
  | (with_reducible refine DT_test ?_)
  | (with_reducible refine DT_B ?_)
  | (with_reducible refine DT_and ?_)
  | (with_reducible refine DT_or ?_)
  | (with_reducible refine DT_not ?_)
  | (with_reducible refine DT_yes ?_)
  | (with_reducible refine DA_nil ?_)
  | (with_reducible refine DA_cons ?_)
  | (with_reducible refine DO_no ?_)
  | (with_reducible refine DO_at ?_)
  | (with_reducible refine DR_minus ?_)
  | (with_reducible refine DR_mod ?_)
  | (with_reducible refine DR_div ?_)
  | (with_reducible refine DR_pow ?_)
  | (with_reducible refine DR_lt ?_)
  | (with_reducible refine DR_le ?_)
  | (with_reducible refine DR_gt ?_)
  | (with_reducible refine DR_ge ?_)
  | (with_reducible refine DR_eq ?_)
  | (with_reducible refine DR_ne ?_)
  | (with_reducible refine DR_isN ?_)
  | (with_reducible refine DR_notN ?_)
  | (with_reducible refine DU_neg ?_)
  | (with_reducible refine DC_len ?_)
  | (with_reducible refine DC_int ?_)
  | (with_reducible refine DC_abs ?_)
  | (with_reducible refine DC_max2 ?_)
  | (with_reducible refine DC_min2 ?_)
  | (with_reducible refine DC_sum ?_)
  | (with_reducible refine DC_all ?_)
  | (with_reducible refine DC_any ?_)
  | (with_reducible refine DC_repr ?_)
  | (with_reducible refine ⟨_, kb_int _, ?_⟩)
  | (with_reducible refine ⟨_, kb_bool _, ?_⟩)
  | (with_reducible refine ⟨_, kb_list _, ?_⟩)
  | (with_reducible refine ⟨_, kb_tuple _, ?_⟩)
  | (with_reducible refine ⟨_, rfl, ?_⟩)
  | (with_reducible refine ⟨_, _, rfl, rfl, ?_⟩)
  | (with_reducible refine DE_callN ?_)
  | (with_reducible refine DE_callX ?_)
  | (with_reducible refine DR_notB ?_)
  | (with_reducible refine DE_emp ?_)
  | (with_reducible refine DE_new (DL_lst ?_))
  | (with_reducible refine DE_new (DL_callF ?_))
  | (with_reducible refine DE_new (DL_sl ?_))
  | (with_reducible refine DE_slT ?_)
  | (with_reducible refine DC_list ?_)
  | ((with_reducible refine' DE_callT ?k1 ?_); (case k1 => exact rfl))
  | ((with_reducible refine' DE_var ?k1 ?_); (case k1 => exact rfl))
  | ((with_reducible refine' DE_varO ?k1 ?_); (case k1 => exact rfl))
  | ((with_reducible refine' DE_varN ?k1 ?_); (case k1 => exact rfl)))


def W__law_total (ds : List PyData) (R : PyData → Prop) : Prop := ∃ (s : Int) (l : Nat) (vs r : List Int), ds = [wtD s l vs, LI r] ∧ Wt s l vs ∧ Signs s r ∧ R (.int (ringSum s l vs r))
def t__law_total (K : PySem.W.Frag) : TS :=
  (tSeq (tAsg (tVar 0) (gTup K 3 (gNames [2, 3, 4])))
    (tSeq (tPar 5 6 (tCons (tC (.int 0)) (tCons (tCB (rLenA K) (tCons (tVar 1) tNil)) tNil)))
    (tSeq (tFor (iRg1 (tCons (tVar 6) tNil)) (gName 7)
    (tSeq (tAsg (tC (.int 0)) (gName 8))
    (tSeq (tFor (iRg1 (tCons (tVar 3) tNil)) (gName 9)
    (tAsg (tOp (rPlus K) (tOp rTimes (tVar 8) (tVar 2)) (tOp (rIx K) (tVar 1) (tOp rModI (tCB rIntA (tCons (tOp (rPlus K) (tVar 7) (tVar 9)) tNil)) (tVar 6)))) (gName 8)))
    (tAsg (tOp (rPlus K) (tVar 5) (tOp (rIx K) (tVar 4) (tVar 8))) (gName 5)))))
    (tRet (tVar 5)))))
def W__law_alone (ds : List PyData) (R : PyData → Prop) : Prop := ∃ (s : Int) (l : Nat) (vs : List Int) (x : Int), ds = [wtD s l vs, .int x] ∧ Wt s l vs ∧ 0 ≤ x ∧ x < s ∧ R (.int (alone s l vs x))
def t__law_alone (K : PySem.W.Frag) : TS :=
  (tSeq (tAsg (tVar 0) (gTup K 3 (gNames [2, 3, 4])))
    (tSeq (tAsg (tC (.int 0)) (gName 5))
    (tSeq (tFor (iRg1 (tCons (tVar 3) tNil)) (gName 6)
    (tAsg (tOp (rPlus K) (tOp rTimes (tVar 5) (tVar 2)) (tVar 1)) (gName 5)))
    (tRet (tOp (rIx K) (tVar 4) (tVar 5))))))
def W__law_rolled (ds : List PyData) (R : PyData → Prop) : Prop := ∃ (rs : List Run), ds = [RD rs] ∧ (roll rs).length ≤ 50000 ∧ (∀ p ∈ rs, 1 ≤ p.2) ∧ R (LI (roll rs))
def t__law_rolled (K : PySem.W.Frag) : TS :=
  (tSeq (tAsg (tLst tNil) (gName 1))
    (tSeq (tFor (iList K (tVar 0)) (gTup K 2 (gNames [2, 3]))
    (tAsg (tOp (rPlus K) (tVar 1) (tOp rTimes (tLst (tCons (tVar 2) tNil)) (tVar 3))) (gName 1)))
    (tRet (tVar 1))))
def W__law_by_cuts (ds : List PyData) (R : PyData → Prop) : Prop := ∃ (s : Int) (l : Nat) (vs : List Int) (rs : List Run), ds = [wtD s l vs, RD rs] ∧ Wt s l vs ∧ Ru s rs ∧ rs.length ≤ 400 ∧ (∀ v ∈ vs, v.natAbs < 2 ^ 1000) ∧ (∀ p ∈ rs, p.2 < 2 ^ 1000) ∧ R (.int (ringSum s l vs (roll rs)))
def t__law_by_cuts (K : PySem.W.Frag) : TS :=
  (tSeq (tPar 2 3 (tCons (tC (.int 0)) (tCons (tLst tNil) tNil)))
    (tSeq (tAsg (tOp (rPlus K) (tOp (rIx K) (tVar 0) (tC (.int 1))) (tC (.int 2))) (gName 4))
    (tSeq (tFor (iList K (tVar 1)) (gTup K 2 (gNames [5, 6]))
    (tSeq (tDrop (tBM K "list" rAppend (tVar 3) (tCons (tTup (tCons (tVar 5) (tCons (tCB rMin2A (tCons (tVar 6) (tCons (tVar 4) tNil))) tNil))) tNil)))
    (tAsg (tOp (rPlus K) (tVar 2) (tOp rTimes (tOp rMinus (tVar 6) (tOp (rIx K) (tOp (rIx K) (tVar 3) (tUn rNegI (tC (.int 1)))) (tC (.int 1)))) (tCall (spP K W__law_alone) [] E0 (tCons (tVar 0) (tCons (tVar 5) tNil))))) (gName 2))))
    (tRet (tOp (rPlus K) (tVar 2) (tCall (spP K W__law_total) [] E0 (tCons (tVar 0) (tCons (tCall (spP K W__law_rolled) [] E0 (tCons (tVar 3) tNil)) tNil))))))))
end Cf
namespace Cf
open PySem PySem.Spec PyProof.Rows L2
open Evl (Ex)
local macro_rules | `(tactic| walk_at "d") => `(tactic| first
  | (with_reducible refine DS_seq ?_)
  | (with_reducible refine DS_if ?_)
  | (with_reducible refine DS_ret ?_)
  | (with_reducible refine DS_next ?_)
  | (with_reducible refine DS_retN ?_)
  | (with_reducible refine DS_set ?_)
  | (with_reducible refine DS_drop ?_)
  | (with_reducible refine DS_unpack ?_)
  | (with_reducible refine DS_par ?_)
  | (with_reducible refine DE_int ?_)
  | (with_reducible refine DE_bl ?_)
  | (with_reducible refine DE_non ?_)
  | (with_reducible refine DE_str ?_)
  | (with_reducible refine DE_isi ?_)
  | (with_reducible refine DE_and ?_)
  | (with_reducible refine DE_or ?_)
  | (with_reducible refine DE_not ?_)
  | (with_reducible refine DE_if ?_)
  | (with_reducible refine DE_chain ?_)
  | (with_reducible refine DE_tyIs ?_)
  | (with_reducible refine DE_tyNot ?_)
  | (with_reducible refine DE_call ?_)
  | ((with_reducible refine' DE_lenOw ?k1 ?_); (case k1 => exact rfl))
  | ((with_reducible refine' DE_reprOw ?k1 ?_); (case k1 => exact rfl))
  | ((with_reducible refine' DE_ixOw ?k1 ?_); (case k1 => exact rfl))
  | ((with_reducible refine' DE_lenOw ?k1 ?_); (case k1 => exact rfl))
  | (with_reducible refine DE_cb ?_)
  | (with_reducible refine DE_new (DL_rep (DL_lst ?_)))
  | (with_reducible refine DE_op ?_)
  | (with_reducible refine DE_un ?_)
  | (with_reducible refine DE_tup ?_)
  | (with_reducible refine DT_test ?_)
  | (with_reducible refine DT_B ?_)
  | (with_reducible refine DT_and ?_)
  | (with_reducible refine DT_or ?_)
  | (with_reducible refine DT_not ?_)
  | (with_reducible refine DT_yes ?_)
  | (with_reducible refine DA_nil ?_)
  | (with_reducible refine DA_cons ?_)
  | (with_reducible refine DO_no ?_)
  | (with_reducible refine DO_at ?_)
  | (with_reducible refine DR_minus ?_)
  | (with_reducible refine DR_mod ?_)
  | (with_reducible refine DR_div ?_)
  | (with_reducible refine DR_pow ?_)
  | (with_reducible refine DR_lt ?_)
  | (with_reducible refine DR_le ?_)
  | (with_reducible refine DR_gt ?_)
  | (with_reducible refine DR_ge ?_)
  | (with_reducible refine DR_eq ?_)
  | (with_reducible refine DR_ne ?_)
  | (with_reducible refine DR_isN ?_)
  | (with_reducible refine DR_notN ?_)
  | (with_reducible refine DU_neg ?_)
  | (with_reducible refine DC_len ?_)
  | (with_reducible refine DC_int ?_)
  | (with_reducible refine DC_abs ?_)
  | (with_reducible refine DC_max2 ?_)
  | (with_reducible refine DC_min2 ?_)
  | (with_reducible refine DC_sum ?_)
  | (with_reducible refine DC_all ?_)
  | (with_reducible refine DC_any ?_)
  | (with_reducible refine DC_repr ?_)
  | (with_reducible refine ⟨_, kb_int _, ?_⟩)
  | (with_reducible refine ⟨_, kb_bool _, ?_⟩)
  | (with_reducible refine ⟨_, kb_list _, ?_⟩)
  | (with_reducible refine ⟨_, kb_tuple _, ?_⟩)
  | (with_reducible refine ⟨_, rfl, ?_⟩)
  | (with_reducible refine ⟨_, _, rfl, rfl, ?_⟩)
  | (with_reducible refine DE_callN ?_)
  | (with_reducible refine DE_callX ?_)
  | (with_reducible refine DR_notB ?_)
  | (with_reducible refine DE_emp ?_)
  | (with_reducible refine DE_new (DL_lst ?_))
  | (with_reducible refine DE_new (DL_callF ?_))
  | (with_reducible refine DE_new (DL_sl ?_))
  | (with_reducible refine DE_slT ?_)
  | (with_reducible refine DC_list ?_)
  | ((with_reducible refine' DE_callT ?k1 ?_); (case k1 => exact rfl))
  | ((with_reducible refine' DE_var ?k1 ?_); (case k1 => exact rfl))
  | ((with_reducible refine' DE_varO ?k1 ?_); (case k1 => exact rfl))
  | ((with_reducible refine' DE_varN ?k1 ?_); (case k1 => exact rfl)))


def W__law_behind (ds : List PyData) (R : PyData → Prop) : Prop := ∃ (s f : Int) (w : Nat) (T r : List Int), ds = [rlD s f w T, LI r] ∧ Rl s f w T ∧ Signs s r ∧ r.length ≤ 50000 ∧ R (LI (tick s f w T r))
def t__law_behind (K : PySem.W.Frag) : TS :=
  (tSeq (tAsg (tVar 0) (gTup K 4 (gNames [2, 3, 4, 5])))
    (tSeq (tPar 6 7 (tCons (tLst tNil) (tCons (tCB (rLenA K) (tCons (tVar 1) tNil)) tNil)))
    (tSeq (tFor (iRg1 (tCons (tVar 7) tNil)) (gName 8)
    (tSeq (tAsg (tC (.int 0)) (gName 9))
    (tSeq (tFor (iRg1 (tCons (tVar 4) tNil)) (gName 10)
    (tSeq (tAsg (tOp rModI (tCB rIntA (tCons (tOp (rPlus K) (tOp (rPlus K) (tVar 8) (tVar 3)) (tVar 10)) tNil)) (tVar 7)) (gName 11))
    (tAsg (tOp (rPlus K) (tOp rTimes (tVar 9) (tVar 2)) (tOp (rIx K) (tVar 1) (tVar 11))) (gName 9))))
    (tDrop (tBM K "list" rAppend (tVar 6) (tCons (tOp (rIx K) (tVar 5) (tVar 9)) tNil))))))
    (tRet (tVar 6)))))
def W__law_merged (ds : List PyData) (R : PyData → Prop) : Prop := ∃ (rs : List Run), ds = [RD rs] ∧ rs.length < 100000 ∧ R (RD (mrg rs))
def t__law_merged (K : PySem.W.Frag) : TS :=
  (tSeq (tAsg (tLst tNil) (gName 1))
    (tSeq (tFor (iList K (tVar 0)) (gTup K 2 (gNames [2, 3]))
    (tIfS (tAnd (tTest (tOp (rNeU K) (tVar 1) (tLst tNil))) (tTest (tOp (rEqU K) (tOp (rIx K) (tOp (rIx K) (tVar 1) (tUn rNegI (tC (.int 1)))) (tC (.int 0))) (tVar 2))))
    (tAsg (tTup (tCons (tVar 2) (tCons (tOp (rPlus K) (tOp (rIx K) (tOp (rIx K) (tVar 1) (tUn rNegI (tC (.int 1)))) (tC (.int 1))) (tVar 3)) tNil))) (gSub (tVar 1) (tUn rNegI (tC (.int 1))) rSetL))
    (tDrop (tBM K "list" rAppend (tVar 1) (tCons (tTup (tCons (tVar 2) (tCons (tVar 3) tNil))) tNil)))))
    (tRet (tVar 1))))
def W__law_turned (ds : List PyData) (R : PyData → Prop) : Prop := ∃ (rs : List Run) (z : Int), ds = [RD rs, .int z] ∧ rs ≠ [] ∧ rs.length < 45000 ∧ (∀ p ∈ rs, 1 ≤ p.2) ∧ R (RD (behindS rs (z % (rs.map (·.2)).sum) ++ aheadS rs (z % (rs.map (·.2)).sum)))
def t__law_turned (K : PySem.W.Frag) : TS :=
  (tSeq (tAsg (tCB (rSum K) (tCons (tLc (iList K (tVar 0)) (gTup K 2 (gNames [3, 4])) tYes (tVar 4) [3, 4]) tNil)) (gName 2))
    (tSeq (tPar3 5 6 7 (tCons (tOp rModI (tCB rIntA (tCons (tVar 1) tNil)) (tVar 2)) (tCons (tLst tNil) (tCons (tLst tNil) tNil))))
    (tSeq (tFor (iList K (tVar 0)) (gTup K 2 (gNames [3, 4]))
    (tSeq (tAsg (tCB rMin2A (tCons (tVar 4) (tCons (tVar 5) tNil))) (gName 8))
    (tSeq (tAsg (tOp rMinus (tVar 5) (tVar 8)) (gName 5))
    (tSeq (tIfS (tTest (tOp rGtI (tVar 8) (tC (.int 0))))
    (tDrop (tBM K "list" rAppend (tVar 6) (tCons (tTup (tCons (tVar 3) (tCons (tVar 8) tNil))) tNil)))
    tNext)
    (tIfS (tTest (tOp rGtI (tVar 4) (tVar 8)))
    (tDrop (tBM K "list" rAppend (tVar 7) (tCons (tTup (tCons (tVar 3) (tCons (tOp rMinus (tVar 4) (tVar 8)) tNil))) tNil)))
    tNext)))))
    (tRet (tOp (rPlus K) (tVar 7) (tVar 6))))))
def W__law_due (ds : List PyData) (R : PyData → Prop) : Prop := ∃ (s f : Int) (w : Nat) (T : List Int) (rs : List Run) (n : Nat), ds = [rlD s f w T, RD rs, .int n] ∧ Rl s f w T ∧ Ru s rs ∧ n ≤ 1000 ∧ rs.length * (n * (w - 1) + 2) ≤ 40000 ∧ (∀ p ∈ rs, p.2 < 2 ^ 1000) ∧ R (RD (runsTick s f w T rs n))
def t__law_due (K : PySem.W.Frag) : TS :=
  (tSeq (tAsg (tOp (rPlus K) (tOp rTimes (tVar 2) (tOp rMinus (tOp (rIx K) (tVar 0) (tC (.int 2))) (tC (.int 1)))) (tC (.int 2))) (gName 3))
    (tSeq (tAsg (tLc (iList K (tVar 1)) (gTup K 2 (gNames [5, 6])) tYes (tTup (tCons (tVar 5) (tCons (tCB rMin2A (tCons (tVar 6) (tCons (tVar 3) tNil))) tNil))) [5, 6]) (gName 4))
    (tSeq (tAsg (tCall (spP K W__law_rolled) [] E0 (tCons (tVar 4) tNil)) (gName 7))
    (tSeq (tFor (iRg1 (tCons (tVar 2) tNil)) (gName 8)
    (tAsg (tCall (spP K W__law_behind) [] E0 (tCons (tVar 0) (tCons (tVar 7) tNil))) (gName 7)))
    (tSeq (tPar 9 10 (tCons (tCB (rLenA K) (tCons (tVar 7) tNil)) (tCons (tOp rTimes (tVar 2) (tOp (rIx K) (tVar 0) (tC (.int 1)))) tNil)))
    (tSeq (tPar 11 12 (tCons (tLst tNil) (tCons (tC (.int 0)) tNil)))
    (tSeq (tFor (iZip K (tCons (tVar 1) (tCons (tVar 4) tNil))) (gTup K 2 (gNames [13, 14]))
    (tSeq (tFor (iRg1 (tCons (tOp (rIx K) (tVar 14) (tC (.int 1))) tNil)) (gName 8)
    (tSeq (tAsg (tOp (rPlus K) (tC (.int 1)) (tOp rTimes (tOp rMinus (tOp (rIx K) (tVar 13) (tC (.int 1))) (tOp (rIx K) (tVar 14) (tC (.int 1)))) (tCB rIntA (tCons (tOp (rEqU K) (tVar 8) (tC (.int 0))) tNil)))) (gName 6))
    (tDrop (tBM K "list" rAppend (tVar 11) (tCons (tTup (tCons (tOp (rIx K) (tVar 7) (tOp rModI (tCB rIntA (tCons (tOp rMinus (tOp (rPlus K) (tVar 12) (tVar 8)) (tVar 10)) tNil)) (tVar 9))) (tCons (tVar 6) tNil))) tNil)))))
    (tAsg (tOp (rPlus K) (tVar 12) (tOp (rIx K) (tVar 14) (tC (.int 1)))) (gName 12))))
    (tRet (tCall (spP K W__law_merged) [] E0 (tCons (tCall (spP K W__law_turned) [] E0 (tCons (tVar 11) (tCons (tVar 10) tNil))) tNil))))))))))
end Cf
namespace Cf
open PySem PySem.Spec PyProof.Rows L2
open Evl (Ex)
local macro_rules | `(tactic| walk_at "d") => `(tactic| first
  | (with_reducible refine DS_seq ?_)
  | (with_reducible refine DS_if ?_)
  | (with_reducible refine DS_ret ?_)
  | (with_reducible refine DS_next ?_)
  | (with_reducible refine DS_retN ?_)
  | (with_reducible refine DS_set ?_)
  | (with_reducible refine DS_drop ?_)
  | (with_reducible refine DS_unpack ?_)
  | (with_reducible refine DS_par ?_)
  | (with_reducible refine DE_int ?_)
  | (with_reducible refine DE_bl ?_)
  | (with_reducible refine DE_non ?_)
  | (with_reducible refine DE_str ?_)
  | (with_reducible refine DE_isi ?_)
  | (with_reducible refine DE_and ?_)
  | (with_reducible refine DE_or ?_)
  | (with_reducible refine DE_not ?_)
  | (with_reducible refine DE_if ?_)
  | (with_reducible refine DE_chain ?_)
  | (with_reducible refine DE_tyIs ?_)
  | (with_reducible refine DE_tyNot ?_)
  | (with_reducible refine DE_call ?_)
  | ((with_reducible refine' DE_lenOw ?k1 ?_); (case k1 => exact rfl))
  | ((with_reducible refine' DE_reprOw ?k1 ?_); (case k1 => exact rfl))
  | ((with_reducible refine' DE_ixOw ?k1 ?_); (case k1 => exact rfl))
  | ((with_reducible refine' DE_lenOw ?k1 ?_); (case k1 => exact rfl))
  | (with_reducible refine DE_cb ?_)
  | (with_reducible refine DE_new (DL_rep (DL_lst ?_)))
  | (with_reducible refine DE_op ?_)
  | (with_reducible refine DE_un ?_)
  | (with_reducible refine DE_tup ?_)
  | (with_reducible refine DT_test ?_)
  | (with_reducible refine DT_B ?_)
  | (with_reducible refine DT_and ?_)
  | (with_reducible refine DT_or ?_)
  | (with_reducible refine DT_not ?_)
  | (with_reducible refine DT_yes ?_)
  | (with_reducible refine DA_nil ?_)
  | (with_reducible refine DA_cons ?_)
  | (with_reducible refine DO_no ?_)
  | (with_reducible refine DO_at ?_)
  | (with_reducible refine DR_minus ?_)
  | (with_reducible refine DR_mod ?_)
  | (with_reducible refine DR_div ?_)
  | (with_reducible refine DR_pow ?_)
  | (with_reducible refine DR_lt ?_)
  | (with_reducible refine DR_le ?_)
  | (with_reducible refine DR_gt ?_)
  | (with_reducible refine DR_ge ?_)
  | (with_reducible refine DR_eq ?_)
  | (with_reducible refine DR_ne ?_)
  | (with_reducible refine DR_isN ?_)
  | (with_reducible refine DR_notN ?_)
  | (with_reducible refine DU_neg ?_)
  | (with_reducible refine DC_len ?_)
  | (with_reducible refine DC_int ?_)
  | (with_reducible refine DC_abs ?_)
  | (with_reducible refine DC_max2 ?_)
  | (with_reducible refine DC_min2 ?_)
  | (with_reducible refine DC_sum ?_)
  | (with_reducible refine DC_all ?_)
  | (with_reducible refine DC_any ?_)
  | (with_reducible refine DC_repr ?_)
  | (with_reducible refine ⟨_, kb_int _, ?_⟩)
  | (with_reducible refine ⟨_, kb_bool _, ?_⟩)
  | (with_reducible refine ⟨_, kb_list _, ?_⟩)
  | (with_reducible refine ⟨_, kb_tuple _, ?_⟩)
  | (with_reducible refine ⟨_, rfl, ?_⟩)
  | (with_reducible refine ⟨_, _, rfl, rfl, ?_⟩)
  | (with_reducible refine DE_callN ?_)
  | (with_reducible refine DE_callX ?_)
  | (with_reducible refine DR_notB ?_)
  | (with_reducible refine DE_emp ?_)
  | (with_reducible refine DE_new (DL_lst ?_))
  | (with_reducible refine DE_new (DL_callF ?_))
  | (with_reducible refine DE_new (DL_sl ?_))
  | (with_reducible refine DE_slT ?_)
  | (with_reducible refine DC_list ?_)
  | ((with_reducible refine' DE_callT ?k1 ?_); (case k1 => exact rfl))
  | ((with_reducible refine' DE_var ?k1 ?_); (case k1 => exact rfl))
  | ((with_reducible refine' DE_varO ?k1 ?_); (case k1 => exact rfl))
  | ((with_reducible refine' DE_varN ?k1 ?_); (case k1 => exact rfl)))


/-! runs of rings behind ticks -/
abbrev onesR (r : List Int) : List Run := r.map fun x => (x, 1)
def W__law_grouped (ds : List PyData) (R : PyData → Prop) : Prop := ∃ (r : List Int), ds = [LI r] ∧ r.length < 100000 ∧ R (RD (mrg (onesR r)))
def t__law_grouped (K : PySem.W.Frag) : TS :=
  (tSeq (tAsg (tLst tNil) (gName 1))
    (tSeq (tFor (iList K (tVar 0)) (gName 2)
    (tIfS (tAnd (tTest (tOp (rNeU K) (tVar 1) (tLst tNil))) (tTest (tOp (rEqU K) (tOp (rIx K) (tOp (rIx K) (tVar 1) (tUn rNegI (tC (.int 1)))) (tC (.int 0))) (tVar 2))))
    (tAsg (tTup (tCons (tVar 2) (tCons (tOp (rPlus K) (tOp (rIx K) (tOp (rIx K) (tVar 1) (tUn rNegI (tC (.int 1)))) (tC (.int 1))) (tC (.int 1))) tNil))) (gSub (tVar 1) (tUn rNegI (tC (.int 1))) rSetL))
    (tDrop (tBM K "list" rAppend (tVar 1) (tCons (tTup (tCons (tVar 2) (tCons (tC (.int 1)) tNil))) tNil)))))
    (tRet (tVar 1))))
end Cf
namespace Cf
open PySem PySem.Spec PyProof.Rows L2
open Evl (Ex)
local macro_rules | `(tactic| walk_at "d") => `(tactic| first
  | (with_reducible refine DS_seq ?_)
  | (with_reducible refine DS_if ?_)
  | (with_reducible refine DS_ret ?_)
  | (with_reducible refine DS_next ?_)
  | (with_reducible refine DS_retN ?_)
  | (with_reducible refine DS_set ?_)
  | (with_reducible refine DS_drop ?_)
  | (with_reducible refine DS_unpack ?_)
  | (with_reducible refine DS_par ?_)
  | (with_reducible refine DE_int ?_)
  | (with_reducible refine DE_bl ?_)
  | (with_reducible refine DE_non ?_)
  | (with_reducible refine DE_str ?_)
  | (with_reducible refine DE_isi ?_)
  | (with_reducible refine DE_and ?_)
  | (with_reducible refine DE_or ?_)
  | (with_reducible refine DE_not ?_)
  | (with_reducible refine DE_if ?_)
  | (with_reducible refine DE_chain ?_)
  | (with_reducible refine DE_tyIs ?_)
  | (with_reducible refine DE_tyNot ?_)
  | (with_reducible refine DE_call ?_)
  | ((with_reducible refine' DE_lenOw ?k1 ?_); (case k1 => exact rfl))
  | ((with_reducible refine' DE_reprOw ?k1 ?_); (case k1 => exact rfl))
  | ((with_reducible refine' DE_ixOw ?k1 ?_); (case k1 => exact rfl))
  | ((with_reducible refine' DE_lenOw ?k1 ?_); (case k1 => exact rfl))
  | (with_reducible refine DE_cb ?_)
  | (with_reducible refine DE_new (DL_rep (DL_lst ?_)))
  | (with_reducible refine DE_op ?_)
  | (with_reducible refine DE_un ?_)
  | (with_reducible refine DE_tup ?_)
  | (with_reducible refine DT_test ?_)
  | (with_reducible refine DT_B ?_)
  | (with_reducible refine DT_and ?_)
  | (with_reducible refine DT_or ?_)
  | (with_reducible refine DT_not ?_)
  | (with_reducible refine DT_yes ?_)
  | (with_reducible refine DA_nil ?_)
  | (with_reducible refine DA_cons ?_)
  | (with_reducible refine DO_no ?_)
  | (with_reducible refine DO_at ?_)
  | (with_reducible refine DR_minus ?_)
  | (with_reducible refine DR_mod ?_)
  | (with_reducible refine DR_div ?_)
  | (with_reducible refine DR_pow ?_)
  | (with_reducible refine DR_lt ?_)
  | (with_reducible refine DR_le ?_)
  | (with_reducible refine DR_gt ?_)
  | (with_reducible refine DR_ge ?_)
  | (with_reducible refine DR_eq ?_)
  | (with_reducible refine DR_ne ?_)
  | (with_reducible refine DR_isN ?_)
  | (with_reducible refine DR_notN ?_)
  | (with_reducible refine DU_neg ?_)
  | (with_reducible refine DC_len ?_)
  | (with_reducible refine DC_int ?_)
  | (with_reducible refine DC_abs ?_)
  | (with_reducible refine DC_max2 ?_)
  | (with_reducible refine DC_min2 ?_)
  | (with_reducible refine DC_sum ?_)
  | (with_reducible refine DC_all ?_)
  | (with_reducible refine DC_any ?_)
  | (with_reducible refine DC_repr ?_)
  | (with_reducible refine ⟨_, kb_int _, ?_⟩)
  | (with_reducible refine ⟨_, kb_bool _, ?_⟩)
  | (with_reducible refine ⟨_, kb_list _, ?_⟩)
  | (with_reducible refine ⟨_, kb_tuple _, ?_⟩)
  | (with_reducible refine ⟨_, rfl, ?_⟩)
  | (with_reducible refine ⟨_, _, rfl, rfl, ?_⟩)
  | (with_reducible refine DE_callN ?_)
  | (with_reducible refine DE_callX ?_)
  | (with_reducible refine DR_notB ?_)
  | (with_reducible refine DE_emp ?_)
  | (with_reducible refine DE_new (DL_lst ?_))
  | (with_reducible refine DE_new (DL_callF ?_))
  | (with_reducible refine DE_new (DL_sl ?_))
  | (with_reducible refine DE_slT ?_)
  | (with_reducible refine DC_list ?_)
  | ((with_reducible refine' DE_callT ?k1 ?_); (case k1 => exact rfl))
  | ((with_reducible refine' DE_var ?k1 ?_); (case k1 => exact rfl))
  | ((with_reducible refine' DE_varO ?k1 ?_); (case k1 => exact rfl))
  | ((with_reducible refine' DE_varN ?k1 ?_); (case k1 => exact rfl)))


/-! runs and weights: bounds, what passes by a tick -/
theorem stepV_mem {α : Type} {k : Int} {xs : List α} : ∀ v ∈ stepV k xs, v ∈ xs := fun v hv => by
  obtain ⟨i, _, e⟩ := List.mem_filterMap.mp hv
  exact List.mem_of_getElem? e
theorem red_mem (s : Int) : ∀ (l : Nat) (vs : List Int), ∀ v ∈ (red s l vs).2, v ∈ vs
  | 0, _, _, h => h
  | 1, _, _, h => h
  | l + 2, vs, v, h => by
    unfold red at h
    split at h
    · exact h
    · exact stepV_mem v (red_mem s (l + 1) _ v h)
theorem itm_bound {vs : List Int} {B : Int} (hB : 0 ≤ B) (hv : ∀ v ∈ vs, -B ≤ v ∧ v ≤ B) (n : Int) : -B ≤ itm vs n ∧ itm vs n ≤ B := by
  unfold itm
  rw [List.getD_eq_getElem?_getD]
  cases e : vs[n.toNat]? with
  | none => exact ⟨by show -B ≤ 0; omega, hB⟩
  | some v => exact hv v (List.mem_of_getElem? e)
theorem hts_bound {s : Int} {vs : List Int} {B : Int} (hB : 0 ≤ B) (hv : ∀ v ∈ vs, -B ≤ v ∧ v ≤ B) : ∀ (k : Nat) (n : Int), -(k * B) ≤ hts s vs k n ∧ hts s vs k n ≤ k * B
  | 0, n => by simp [hts]
  | k + 1, n => by
    have a := itm_bound hB hv n
    have b := hts_bound (s := s) hB hv k (n / s)
    show -(((k + 1 : Nat) : Int) * B) ≤ itm vs n + hts s vs k (n / s) ∧ itm vs n + hts s vs k (n / s) ≤ ((k + 1 : Nat) : Int) * B
    push_cast
    rw [Int.add_mul, Int.one_mul]
    omega
theorem plain_bound {s : Int} {l : Nat} {vs : List Int} {B : Int} (hB : 0 ≤ B) (hv : ∀ v ∈ vs, -B ≤ v ∧ v ≤ B) (hl : l ≤ 10) : ∀ v ∈ (plainOf s l vs).2, -(21 * B) ≤ v ∧ v ≤ 21 * B := fun v h => by
  have h := red_mem s _ _ v h
  unfold shiftT at h
  obtain ⟨n, _, rfl⟩ := List.mem_map.mp h
  have a := itm_bound hB hv n
  have b := hts_bound (s := s) hB hv (l - 1) ((n : Int) / s)
  have c := hts_bound (s := s) hB hv (l - 1) ((n : Int) % s ^ (l - 1))
  have d : ((l - 1 : Nat) : Int) * B ≤ 10 * B := Int.mul_le_mul_of_nonneg_right (by omega) hB
  omega
theorem gcd_small {vs : List Int} {B : Int} (hB : 0 ≤ B) (hv : ∀ v ∈ vs, -B ≤ v ∧ v ≤ B) : 0 ≤ gcdL vs ∧ gcdL vs ≤ B := by
  refine ⟨gcdL_nonneg vs, ?_⟩
  by_cases h : ∀ v ∈ vs, v = 0
  · have : (0 : Int) ∣ gcdL vs := gcdL_dvd.mpr fun v hv' => by rw [h v hv']; exact Int.dvd_refl _
    rw [Int.zero_dvd.mp this]
    exact hB
  · obtain ⟨v, h⟩ := Classical.not_forall.mp h
    obtain ⟨h1, h2⟩ := Classical.not_imp.mp h
    have d := gcdL_dvd.mp (Int.dvd_refl (gcdL vs)) v h1
    have b := hv v h1
    have n := gcdL_nonneg vs
    have l := Nat.le_of_dvd (by omega) (Int.natAbs_dvd_natAbs.mpr d)
    omega
section
variable {s f : Int} {w : Nat} {T : List Int} {l : Nat} {vs : List Int} {r : List Int}
end

def W__law_divides (ds : List PyData) (R : PyData → Prop) : Prop := ∃ d t : Int, ds = [.int d, .int t] ∧ 0 ≤ d ∧ d < 2 ^ 200 ∧ t.natAbs < 2 ^ 1000 ∧ d ∣ t ∧ R (.bool true)
def t__law_divides (K : PySem.W.Frag) : TS :=
  (tRet (tIf (tTest (tOp (rEqU K) (tVar 0) (tC (.int 0)))) (tOp (rEqU K) (tVar 1) (tC (.int 0))) (tOp (rEqU K) (tOp rTimes (tOp rDivI (tVar 1) (tVar 0)) (tVar 0)) (tVar 1))))
end Cf
/-! k07, k08: the plain weight is the one of its kind -/
namespace Cf
open PySem PySem.Spec PyProof.Rows L2
theorem red_form (s : Int) : ∀ (l : Nat) (us : List Int), 1 ≤ l → (red s l us).1 = 1 ∨ lastM s (red s l us).2 = true
  | 1, _, _ => .inl rfl
  | l + 2, us, _ => by
    show (if lastM s us = true then (l + 2, us) else red s (l + 1) (stepV s us)).1 = 1 ∨ lastM s (if lastM s us = true then (l + 2, us) else red s (l + 1) (stepV s us)).2 = true
    by_cases h : lastM s us = true
    · rw [if_pos h]
      exact .inr h
    · rw [if_neg h]
      exact red_form s (l + 1) (stepV s us) (by omega)
theorem plain_form {s : Int} {l : Nat} {vs : List Int} (l1 : 1 ≤ l) : (plainOf s l vs).1 = 1 ∨ lastM s (plainOf s l vs).2 = true := red_form s l _ l1
theorem itm_wide {s : Int} (h : 0 < s) {l : Nat} {vs : List Int} (hl : s ^ l = (vs.length : Int)) : ∀ (k : Nat) (n : Int), 0 ≤ n → n < s ^ (l + k) → itm (wideV s k vs) n = itm vs (n / s ^ k)
  | 0, n, h0, h1 => by
    rw [Int.pow_zero, Int.ediv_one]
    rfl
  | k + 1, n, h0, h1 => by
    have e := wide_len h hl k
    have q0 : 0 ≤ n / s := Int.ediv_nonneg h0 (by omega)
    have q1 : n / s < s ^ (l + k) := Int.ediv_lt_of_lt_mul h (by rw [← Int.pow_succ]; exact h1)
    show itm ((List.range ((wideV s k vs).length * s.toNat)).map fun (n : Nat) => itm (wideV s k vs) ((n : Int) / s)) n = _
    have hn : n < (((wideV s k vs).length * s.toNat : Nat) : Int) := by
      push_cast
      rw [← e, Int.toNat_of_nonneg (by omega), ← Int.pow_succ]
      exact h1
    rw [itm_map h0 hn, Int.toNat_of_nonneg h0, itm_wide h hl k (n / s) q0 q1, Int.ediv_ediv_of_nonneg (by omega), show s * s ^ k = s ^ (k + 1) by rw [Int.pow_succ, Int.mul_comm]]
theorem list_itm {xs ys : List Int} (hl : xs.length = ys.length) (h : ∀ n : Int, 0 ≤ n → n < xs.length → itm xs n = itm ys n) : xs = ys := by
  apply List.ext_getElem hl
  intro n h1 h2
  have := h (n : Int) (by omega) (by omega)
  unfold itm at this
  rw [Int.toNat_natCast, List.getD_eq_getElem?_getD, List.getD_eq_getElem?_getD, List.getElem?_eq_getElem h1, List.getElem?_eq_getElem h2] at this
  exact this
theorem wide_last {s : Int} (h : 0 < s) {l : Nat} {vs : List Int} (hl : s ^ l = (vs.length : Int)) (k : Nat) : lastM s (wideV s (k + 1) vs) = false := by
  have e := wide_len h hl (k + 1)
  unfold lastM
  rw [List.any_eq_false]
  intro n hn
  have hn := List.mem_range.mp hn
  have n1 : (n : Int) < s ^ (l + (k + 1)) := by omega
  have m0 := Int.emod_nonneg (n : Int) (show s ≠ 0 by omega)
  have eq := Int.mul_ediv_add_emod (n : Int) s
  have q0 : 0 ≤ (n : Int) / s := Int.ediv_nonneg (by omega) (by omega)
  have mm : 0 ≤ s * ((n : Int) / s) := Int.mul_nonneg (by omega) q0
  have e2 : ((n : Int) - (n : Int) % s) / s = (n : Int) / s := by
    rw [show (n : Int) - (n : Int) % s = s * ((n : Int) / s) by omega, Int.mul_ediv_cancel_left _ (by omega)]
  have i1 := itm_wide h hl (k + 1) (n : Int) (by omega) n1
  have i2 := itm_wide h hl (k + 1) ((n : Int) - (n : Int) % s) (by omega) (by omega)
  have p : s ^ (k + 1) = s * s ^ k := by rw [Int.pow_succ, Int.mul_comm]
  rw [p, ← Int.ediv_ediv_of_nonneg (by omega)] at i1 i2
  rw [e2] at i2
  rw [i1, i2]
  simp
theorem plain_up {s : Int} (h : 0 < s) {a b : Nat} {us ts : List Int} (hab : a ≤ b) (a1 : 1 ≤ a) (ha : s ^ a = (us.length : Int)) (hb : s ^ b = (ts.length : Int)) (za : ZeroB s a us) (zb : ZeroB s b ts) (fb : b = 1 ∨ lastM s ts = true)
    (hs : ∀ r : List Int, r ≠ [] → Signs s r → ringSum s a us r = ringSum s b ts r) : a = b ∧ us = ts := by
  obtain ⟨k, rfl⟩ : ∃ k, b = a + k := ⟨b - a, by omega⟩
  have lw := wide_len h ha k
  have ll : (wideV s k us).length = ts.length := by omega
  have pk := pow_pos' h k
  have zw : ZeroB s (a + k) (wideV s k us) := fun n n0 n1 => by
    have le : s ^ (a + k - 1) ≤ s ^ (a + k) := pow_mono (by omega) (by omega)
    have pp := pow_pos' h (a + k)
    rw [itm_wide h ha k n n0 (by omega), itm_wide h ha k 0 (Int.le_refl _) pp, Int.zero_ediv]
    refine za _ (Int.ediv_nonneg n0 (by omega)) (Int.ediv_lt_of_lt_mul pk ?_)
    rw [← Int.pow_add, show a - 1 + k = a + k - 1 by omega]
    exact n1
  have ld : s ^ (a + k) = ((addV (wideV s k us) ts (-1)).length : Int) := by rw [addV_length, lw]
  have pp := pow_pos' h (a + k)
  have iD : ∀ n : Int, 0 ≤ n → n < s ^ (a + k) → itm (addV (wideV s k us) ts (-1)) n = itm (wideV s k us) n - itm ts n := fun n n0 n1 => by
    unfold addV
    rw [itm_map n0 (by omega), Int.toNat_of_nonneg n0]
    omega
  have zd : ZeroB s (a + k) (addV (wideV s k us) ts (-1)) := fun n n0 n1 => by
    have le : s ^ (a + k - 1) ≤ s ^ (a + k) := pow_mono (by omega) (by omega)
    rw [iD n n0 (by omega), iD 0 (Int.le_refl _) pp, zw n n0 n1, zb n n0 n1]
  have all := value_dvd (d := 0) h (by omega) ld zd fun r hr _ sr => by
    rw [ringSum_add h lw (-1) hr sr, ringSum_wide h ha hr sr k, hs r hr sr]
    exact ⟨0, by omega⟩
  have eq : wideV s k us = ts := list_itm ll fun n n0 n1 => by
    have i := iD n n0 (by omega)
    have hn : n.toNat < (addV (wideV s k us) ts (-1)).length := by omega
    have z := all _ (List.getElem_mem hn)
    obtain ⟨c, hc⟩ := z
    have : itm (addV (wideV s k us) ts (-1)) n = 0 := by
      unfold itm
      rw [List.getD_eq_getElem?_getD, List.getElem?_eq_getElem hn]
      show (addV (wideV s k us) ts (-1))[n.toNat] = 0
      rw [hc]
      omega
    omega
  cases k with
  | zero => exact ⟨rfl, eq⟩
  | succ k =>
    rcases fb with fb | fb
    · omega
    · rw [← eq, wide_last h ha k] at fb
      cases fb
theorem plain_same {s : Int} {a b : Nat} {xs ys : List Int} (hx : Wt s a xs) (hy : Wt s b ys) : plainOf s a xs = plainOf s b ys ↔ ∀ r : List Int, r ≠ [] → Signs s r → ringSum s a xs r = ringSum s b ys r := by
  have h : 0 < s := by have := hx.s2; omega
  obtain ⟨w1, l1, z1, q1⟩ := plain_ok hx
  obtain ⟨w2, l2, z2, q2⟩ := plain_ok hy
  constructor
  · intro e r hr hs
    rw [← q1 r hr hs, ← q2 r hr hs, e]
  · intro e
    have e' : ∀ r : List Int, r ≠ [] → Signs s r → ringSum s (plainOf s a xs).1 (plainOf s a xs).2 r = ringSum s (plainOf s b ys).1 (plainOf s b ys).2 r := fun r hr hs => by rw [q1 r hr hs, q2 r hr hs, e r hr hs]
    rcases Nat.le_total (plainOf s a xs).1 (plainOf s b ys).1 with c | c
    · obtain ⟨u, v⟩ := plain_up h c w1.l1 w1.ln w2.ln z1 z2 (plain_form hy.l1) e'
      exact Prod.ext u v
    · obtain ⟨u, v⟩ := plain_up h c w2.l1 w2.ln w1.ln z2 z1 (plain_form hx.l1) fun r hr hs => (e' r hr hs).symm
      exact Prod.ext u.symm v.symm
end Cf
namespace Cf
open PySem PySem.Spec PyProof.Rows L2
open Evl (Ex)
local macro_rules | `(tactic| walk_at "d") => `(tactic| first
  | (with_reducible refine DS_seq ?_)
  | (with_reducible refine DS_if ?_)
  | (with_reducible refine DS_ret ?_)
  | (with_reducible refine DS_next ?_)
  | (with_reducible refine DS_retN ?_)
  | (with_reducible refine DS_set ?_)
  | (with_reducible refine DS_drop ?_)
  | (with_reducible refine DS_unpack ?_)
  | (with_reducible refine DS_par ?_)
  | (with_reducible refine DE_int ?_)
  | (with_reducible refine DE_bl ?_)
  | (with_reducible refine DE_non ?_)
  | (with_reducible refine DE_str ?_)
  | (with_reducible refine DE_isi ?_)
  | (with_reducible refine DE_and ?_)
  | (with_reducible refine DE_or ?_)
  | (with_reducible refine DE_not ?_)
  | (with_reducible refine DE_if ?_)
  | (with_reducible refine DE_chain ?_)
  | (with_reducible refine DE_tyIs ?_)
  | (with_reducible refine DE_tyNot ?_)
  | (with_reducible refine DE_call ?_)
  | ((with_reducible refine' DE_lenOw ?k1 ?_); (case k1 => exact rfl))
  | (with_reducible refine DE_cb ?_)
  | (with_reducible refine DE_new (DL_rep (DL_lst ?_)))
  | (with_reducible refine DE_op ?_)
  | (with_reducible refine DE_un ?_)
  | (with_reducible refine DE_tup ?_)
  | (with_reducible refine DT_test ?_)
  | (with_reducible refine DT_B ?_)
  | (with_reducible refine DT_and ?_)
  | (with_reducible refine DT_or ?_)
  | (with_reducible refine DT_not ?_)
  | (with_reducible refine DT_yes ?_)
  | (with_reducible refine DA_nil ?_)
  | (with_reducible refine DA_cons ?_)
  | (with_reducible refine DO_no ?_)
  | (with_reducible refine DO_at ?_)
  | (with_reducible refine DR_minus ?_)
  | (with_reducible refine DR_mod ?_)
  | (with_reducible refine DR_div ?_)
  | (with_reducible refine DR_pow ?_)
  | (with_reducible refine DR_lt ?_)
  | (with_reducible refine DR_le ?_)
  | (with_reducible refine DR_gt ?_)
  | (with_reducible refine DR_ge ?_)
  | (with_reducible refine DR_eq ?_)
  | (with_reducible refine DR_ne ?_)
  | (with_reducible refine DR_isN ?_)
  | (with_reducible refine DR_notN ?_)
  | (with_reducible refine DU_neg ?_)
  | (with_reducible refine DC_len ?_)
  | (with_reducible refine DC_int ?_)
  | (with_reducible refine DC_abs ?_)
  | (with_reducible refine DC_max2 ?_)
  | (with_reducible refine DC_min2 ?_)
  | (with_reducible refine DC_sum ?_)
  | (with_reducible refine DC_all ?_)
  | (with_reducible refine DC_any ?_)
  | (with_reducible refine DC_repr ?_)
  | (with_reducible refine ⟨_, kb_int _, ?_⟩)
  | (with_reducible refine ⟨_, kb_bool _, ?_⟩)
  | (with_reducible refine ⟨_, kb_list _, ?_⟩)
  | (with_reducible refine ⟨_, kb_tuple _, ?_⟩)
  | (with_reducible refine ⟨_, rfl, ?_⟩)
  | (with_reducible refine ⟨_, _, rfl, rfl, ?_⟩)
  | (with_reducible refine DE_callN ?_)
  | (with_reducible refine DE_callX ?_)
  | (with_reducible refine DR_notB ?_)
  | (with_reducible refine DE_emp ?_)
  | (with_reducible refine DE_new (DL_lst ?_))
  | (with_reducible refine DE_new (DL_sl ?_))
  | (with_reducible refine DE_slT ?_)
  | (with_reducible refine DC_list ?_)
  | ((with_reducible refine' DE_callT ?k1 ?_); (case k1 => exact rfl))
  | ((with_reducible refine' DE_var ?k1 ?_); (case k1 => exact rfl))
  | ((with_reducible refine' DE_varO ?k1 ?_); (case k1 => exact rfl))
  | ((with_reducible refine' DE_varN ?k1 ?_); (case k1 => exact rfl)))


/-! ### kept flows, and what passes: the program's -/
/-- the kept flow: by a place's number -/
def kfT (s : Int) (L : Nat) (G : List Int) : List Int := negV ((List.range (s ^ L).toNat).map fun (n : Nat) => hts s G L n)
structure GainSpan (s f : Int) (w l L a b : Nat) : Prop where
  hb : (b : Int) = - min 0 f
  ha : (a : Int) = f - min 0 f
  hL : ((L + 1 : Nat) : Int) = max ((l : Int) - 1) (f + w + l - 2) - min 0 f + 1
  le : s ^ (L + 1) ≤ 1024
def W_kept_flow (ds : List PyData) (R : PyData → Prop) : Prop := ∃ (s f : Int) (w : Nat) (T : List Int) (l : Nat) (vs : List Int) (L a b : Nat), ds = [rlD s f w T, wtD s l vs] ∧ Rl s f w T ∧ Wt s l vs ∧ GainSpan s f w l L a b ∧ gcdL (plainOf s (L + 1) (gainT s w T l vs (L + 1) a b)).2 = 0 ∧ R (LI (kfT s L (gainT s w T l vs (L + 1) a b)))
def t_kept_flow (K : PySem.W.Frag) : TS :=
  (tSeq (tAsg (tCall (spN K W_gain) [] E0 (tCons (tVar 0) (tCons (tVar 1) tNil))) (gName 2))
    (tSeq (tIfS (tTest (tOp (rNeU K) (tCall (spP K W_divisor) [] E0 (tCons (tVar 2) tNil)) (tC (.int 0))))
    tNever
    tNext)
    (tRet (tLc (iList K (tCall (spP K W_sums_behind_zeros) [] E0 (tCons (tVar 2) tNil))) (gName 3) tYes (tUn rNegI (tVar 3)) [3]))))
end Cf
namespace Cf
open PySem PySem.Spec PyProof.Rows L2
open Evl (Ex)
local macro_rules | `(tactic| walk_at "d") => `(tactic| first
  | (with_reducible refine DS_seq ?_)
  | (with_reducible refine DS_if ?_)
  | (with_reducible refine DS_ret ?_)
  | (with_reducible refine DS_next ?_)
  | (with_reducible refine DS_retN ?_)
  | (with_reducible refine DS_set ?_)
  | (with_reducible refine DS_drop ?_)
  | (with_reducible refine DS_unpack ?_)
  | (with_reducible refine DS_par ?_)
  | (with_reducible refine DE_int ?_)
  | (with_reducible refine DE_bl ?_)
  | (with_reducible refine DE_non ?_)
  | (with_reducible refine DE_str ?_)
  | (with_reducible refine DE_isi ?_)
  | (with_reducible refine DE_and ?_)
  | (with_reducible refine DE_or ?_)
  | (with_reducible refine DE_not ?_)
  | (with_reducible refine DE_if ?_)
  | (with_reducible refine DE_chain ?_)
  | (with_reducible refine DE_tyIs ?_)
  | (with_reducible refine DE_tyNot ?_)
  | (with_reducible refine DE_call ?_)
  | ((with_reducible refine' DE_lenOw ?k1 ?_); (case k1 => exact rfl))
  | (with_reducible refine DE_cb ?_)
  | (with_reducible refine DE_new (DL_rep (DL_lst ?_)))
  | (with_reducible refine DE_op ?_)
  | (with_reducible refine DE_un ?_)
  | (with_reducible refine DE_tup ?_)
  | (with_reducible refine DT_test ?_)
  | (with_reducible refine DT_B ?_)
  | (with_reducible refine DT_and ?_)
  | (with_reducible refine DT_or ?_)
  | (with_reducible refine DT_not ?_)
  | (with_reducible refine DT_yes ?_)
  | (with_reducible refine DA_nil ?_)
  | (with_reducible refine DA_cons ?_)
  | (with_reducible refine DO_no ?_)
  | (with_reducible refine DO_at ?_)
  | (with_reducible refine DR_minus ?_)
  | (with_reducible refine DR_mod ?_)
  | (with_reducible refine DR_div ?_)
  | (with_reducible refine DR_pow ?_)
  | (with_reducible refine DR_lt ?_)
  | (with_reducible refine DR_le ?_)
  | (with_reducible refine DR_gt ?_)
  | (with_reducible refine DR_ge ?_)
  | (with_reducible refine DR_eq ?_)
  | (with_reducible refine DR_ne ?_)
  | (with_reducible refine DR_isN ?_)
  | (with_reducible refine DR_notN ?_)
  | (with_reducible refine DU_neg ?_)
  | (with_reducible refine DC_len ?_)
  | (with_reducible refine DC_int ?_)
  | (with_reducible refine DC_abs ?_)
  | (with_reducible refine DC_max2 ?_)
  | (with_reducible refine DC_min2 ?_)
  | (with_reducible refine DC_sum ?_)
  | (with_reducible refine DC_all ?_)
  | (with_reducible refine DC_any ?_)
  | (with_reducible refine DC_repr ?_)
  | (with_reducible refine ⟨_, kb_int _, ?_⟩)
  | (with_reducible refine ⟨_, kb_bool _, ?_⟩)
  | (with_reducible refine ⟨_, kb_list _, ?_⟩)
  | (with_reducible refine ⟨_, kb_tuple _, ?_⟩)
  | (with_reducible refine ⟨_, rfl, ?_⟩)
  | (with_reducible refine ⟨_, _, rfl, rfl, ?_⟩)
  | (with_reducible refine DE_callN ?_)
  | (with_reducible refine DE_callX ?_)
  | (with_reducible refine DR_notB ?_)
  | (with_reducible refine DE_emp ?_)
  | (with_reducible refine DE_new (DL_lst ?_))
  | (with_reducible refine DE_new (DL_sl ?_))
  | (with_reducible refine DE_slT ?_)
  | (with_reducible refine DC_list ?_)
  | ((with_reducible refine' DE_callT ?k1 ?_); (case k1 => exact rfl))
  | ((with_reducible refine' DE_var ?k1 ?_); (case k1 => exact rfl))
  | ((with_reducible refine' DE_varO ?k1 ?_); (case k1 => exact rfl))
  | ((with_reducible refine' DE_varN ?k1 ?_); (case k1 => exact rfl)))


def W__law_near_rule (ds : List PyData) (R : PyData → Prop) : Prop := ∃ s words : Int, ds = [.int s, .int words] ∧ 2 ≤ s ∧ s ≤ 4 ∧ 4 ≤ words ∧ words ≤ 1024 ∧ ∀ (f : Int) (w : Nat) (T : List Int), Rl s f w T → s ^ w ≤ words → -(w : Int) ≤ f → f ≤ 1 → R (rlD s f w T)
def t__law_near_rule (K : PySem.W.Frag) : TS :=
  (tSeq (tAsg (tTup (tCons (tOp (rPlus K) (tC (.int 1)) (tCall (spT K W__law_draw) [] E0 (tCons (tVar 0) (tCons (tCall (spP K W__law_widest) [] E0 (tCons (tVar 1) (tCons (tVar 2) tNil))) tNil)))) (tCons (tCall (spT K W__law_draw) [] E0 (tCons (tVar 0) (tCons (tC (.int 4)) tNil))) tNil))) (gTup K 2 (gNames [3, 4])))
    (tSeq (tAsg (tOp (rPlus K) (tOp rMinus (tC (.int 0)) (tCall (spT K W__law_draw) [] E0 (tCons (tVar 0) (tCons (tOp (rPlus K) (tVar 3) (tC (.int 1))) tNil)))) (tCall (spT K W__law_draw) [] E0 (tCons (tVar 0) (tCons (tC (.int 2)) tNil)))) (gName 5))
    (tSeq (tAsg (tLc (iRg1 (tCons (tCall (spP K W__law_many) [] E0 (tCons (tVar 1) (tCons (tVar 3) tNil))) tNil)) (gName 7) tYes (tCall (spT K W__law_draw) [] E0 (tCons (tVar 0) (tCons (tVar 1) tNil))) [7]) (gName 6))
    (tSeq (tIfS (tTest (tOp (rEqU K) (tVar 4) (tC (.int 0))))
    (tSeq (tAsg (tCall (spT K W__law_draw) [] E0 (tCons (tVar 0) (tCons (tVar 3) tNil))) (gName 8))
    (tAsg (tLc (iRg1 (tCons (tCB (rLenA K) (tCons (tVar 6) tNil)) tNil)) (gName 7) tYes (tOp (rIx K) (tCall (spP K W__law_word) [] E0 (tCons (tVar 1) (tCons (tVar 7) (tCons (tVar 3) tNil)))) (tVar 8)) [7]) (gName 6)))
    tNext)
    (tSeq (tIfS (tTest (tOp (rEqU K) (tVar 4) (tC (.int 1))))
    (tAsg (tLc (iList K (tVar 6)) (gName 9) tYes (tIf (tTest (tOp (rEqU K) (tCall (spT K W__law_draw) [] E0 (tCons (tVar 0) (tCons (tC (.int 3)) tNil))) (tC (.int 0)))) (tVar 9) (tC (.int 0))) [9]) (gName 6))
    tNext)
    (tRet (tTup (tCons (tVar 1) (tCons (tVar 5) (tCons (tVar 3) (tCons (tVar 6) tNil)))))))))))
def W__law_made (ds : List PyData) (R : PyData → Prop) : Prop := ∃ (s f : Int) (w : Nat) (T W : List Int), ds = [rlD s f w T, LI W] ∧ Rl s f w T ∧ w ≤ W.length ∧ W.length ≤ 1000 ∧ Signs s W ∧ R (LI (mids s w T (W.length - w + 1) W))
def t__law_made (K : PySem.W.Frag) : TS :=
  (tSeq (tAsg (tVar 0) (gTup K 4 (gNames [2, 3, 4, 5])))
    (tRet (tLc (iRg1 (tCons (tOp (rPlus K) (tOp rMinus (tCB (rLenA K) (tCons (tVar 1) tNil)) (tVar 4)) (tC (.int 1))) tNil)) (gName 6) tYes (tOp (rIx K) (tVar 5) (tCall (spP K W__law_number) [] E0 (tCons (tVar 2) (tCons (tSl (rSlL K) (tVar 1) (tPart (tVar 6)) (tPart (tOp (rPlus K) (tVar 6) (tVar 4)))) (tCons (tC (.int 0)) (tCons (tVar 4) tNil)))))) [6])))
def W__law_pulled (ds : List PyData) (R : PyData → Prop) : Prop := ∃ (s f : Int) (w : Nat) (T : List Int) (l : Nat) (vs : List Int), ds = [rlD s f w T, wtD s l vs] ∧ Rl s f w T ∧ Wt s l vs ∧ s ^ (w + l - 1) ≤ 1024 ∧ R (wtD s (w + l - 1) (pulT s w T l vs))
def t__law_pulled (K : PySem.W.Frag) : TS :=
  (tSeq (tAsg (tVar 1) (gTup K 3 (gNames [2, 3, 4])))
    (tSeq (tPar 5 6 (tCons (tOp rMinus (tOp (rPlus K) (tOp (rIx K) (tVar 0) (tC (.int 2))) (tVar 3)) (tC (.int 1))) (tCons (tLst tNil) tNil)))
    (tSeq (tFor (iRg1 (tCons (tCall (spP K W__law_many) [] E0 (tCons (tVar 2) (tCons (tVar 5) tNil))) tNil)) (gName 7)
    (tDrop (tBM K "list" rAppend (tVar 6) (tCons (tOp (rIx K) (tVar 4) (tCall (spP K W__law_number) [] E0 (tCons (tVar 2) (tCons (tCall (spP K W__law_made) [] E0 (tCons (tVar 0) (tCons (tCall (spP K W__law_word) [] E0 (tCons (tVar 2) (tCons (tVar 7) (tCons (tVar 5) tNil)))) tNil))) (tCons (tC (.int 0)) (tCons (tVar 3) tNil)))))) tNil))))
    (tRet (tTup (tCons (tVar 2) (tCons (tVar 5) (tCons (tVar 6) tNil))))))))
def W__law_gain (ds : List PyData) (R : PyData → Prop) : Prop := ∃ (s f : Int) (w : Nat) (T : List Int) (l : Nat) (vs : List Int) (L a b : Nat), ds = [rlD s f w T, wtD s l vs] ∧ Rl s f w T ∧ Wt s l vs ∧ (b : Int) = - min 0 f ∧ (a : Int) = f - min 0 f ∧ (L : Int) = max ((l : Int) - 1) (f + w + l - 2) - min 0 f + 1 ∧ s ^ L ≤ 1024 ∧ R (wtD s L (gainT s w T l vs L a b))
def t__law_gain (K : PySem.W.Frag) : TS :=
  (tSeq (tAsg (tVar 1) (gTup K 3 (gNames [2, 3, 4])))
    (tSeq (tPar 5 6 (tCons (tCB rMin2A (tCons (tC (.int 0)) (tCons (tOp (rIx K) (tVar 0) (tC (.int 1))) tNil))) (tCons (tCB rMax2A (tCons (tOp rMinus (tVar 3) (tC (.int 1))) (tCons (tOp rMinus (tOp (rPlus K) (tOp (rPlus K) (tOp (rIx K) (tVar 0) (tC (.int 1))) (tOp (rIx K) (tVar 0) (tC (.int 2)))) (tVar 3)) (tC (.int 2))) tNil))) tNil)))
    (tSeq (tAsg (tLst tNil) (gName 7))
    (tSeq (tFor (iRg1 (tCons (tCall (spP K W__law_many) [] E0 (tCons (tVar 2) (tCons (tOp (rPlus K) (tOp rMinus (tVar 6) (tVar 5)) (tC (.int 1))) tNil))) tNil)) (gName 8)
    (tSeq (tAsg (tCall (spP K W__law_word) [] E0 (tCons (tVar 2) (tCons (tVar 8) (tCons (tOp (rPlus K) (tOp rMinus (tVar 6) (tVar 5)) (tC (.int 1))) tNil)))) (gName 9))
    (tSeq (tAsg (tSl (rSlL K) (tVar 9) (tPart (tOp rMinus (tC (.int 0)) (tVar 5))) (tPart (tOp rMinus (tVar 3) (tVar 5)))) (gName 10))
    (tSeq (tAsg (tSl (rSlL K) (tCall (spP K W__law_made) [] E0 (tCons (tVar 0) (tCons (tSl (rSlL K) (tVar 9) (tPart (tOp rMinus (tOp (rIx K) (tVar 0) (tC (.int 1))) (tVar 5))) tNoPart) tNil))) tNoPart (tPart (tVar 3))) (gName 11))
    (tDrop (tBM K "list" rAppend (tVar 7) (tCons (tOp rMinus (tOp (rIx K) (tVar 4) (tCall (spP K W__law_number) [] E0 (tCons (tVar 2) (tCons (tVar 11) (tCons (tC (.int 0)) (tCons (tVar 3) tNil)))))) (tOp (rIx K) (tVar 4) (tCall (spP K W__law_number) [] E0 (tCons (tVar 2) (tCons (tVar 10) (tCons (tC (.int 0)) (tCons (tVar 3) tNil))))))) tNil)))))))
    (tRet (tTup (tCons (tVar 2) (tCons (tOp (rPlus K) (tOp rMinus (tVar 6) (tVar 5)) (tC (.int 1))) (tCons (tVar 7) tNil)))))))))
end Cf
namespace Cf
open PySem PySem.Spec PyProof.Rows L2
open Evl (Ex)
local macro_rules | `(tactic| walk_at "d") => `(tactic| first
  | (with_reducible refine DS_seq ?_)
  | (with_reducible refine DS_if ?_)
  | (with_reducible refine DS_ret ?_)
  | (with_reducible refine DS_next ?_)
  | (with_reducible refine DS_retN ?_)
  | (with_reducible refine DS_set ?_)
  | (with_reducible refine DS_drop ?_)
  | (with_reducible refine DS_unpack ?_)
  | (with_reducible refine DS_par ?_)
  | (with_reducible refine DE_int ?_)
  | (with_reducible refine DE_bl ?_)
  | (with_reducible refine DE_non ?_)
  | (with_reducible refine DE_str ?_)
  | (with_reducible refine DE_isi ?_)
  | (with_reducible refine DE_and ?_)
  | (with_reducible refine DE_or ?_)
  | (with_reducible refine DE_not ?_)
  | (with_reducible refine DE_if ?_)
  | (with_reducible refine DE_chain ?_)
  | (with_reducible refine DE_tyIs ?_)
  | (with_reducible refine DE_tyNot ?_)
  | (with_reducible refine DE_call ?_)
  | ((with_reducible refine' DE_lenOw ?k1 ?_); (case k1 => exact rfl))
  | (with_reducible refine DE_cb ?_)
  | (with_reducible refine DE_new (DL_rep (DL_lst ?_)))
  | (with_reducible refine DE_op ?_)
  | (with_reducible refine DE_un ?_)
  | (with_reducible refine DE_tup ?_)
  | (with_reducible refine DT_test ?_)
  | (with_reducible refine DT_B ?_)
  | (with_reducible refine DT_and ?_)
  | (with_reducible refine DT_or ?_)
  | (with_reducible refine DT_not ?_)
  | (with_reducible refine DT_yes ?_)
  | (with_reducible refine DA_nil ?_)
  | (with_reducible refine DA_cons ?_)
  | (with_reducible refine DO_no ?_)
  | (with_reducible refine DO_at ?_)
  | (with_reducible refine DR_minus ?_)
  | (with_reducible refine DR_mod ?_)
  | (with_reducible refine DR_div ?_)
  | (with_reducible refine DR_pow ?_)
  | (with_reducible refine DR_lt ?_)
  | (with_reducible refine DR_le ?_)
  | (with_reducible refine DR_gt ?_)
  | (with_reducible refine DR_ge ?_)
  | (with_reducible refine DR_eq ?_)
  | (with_reducible refine DR_ne ?_)
  | (with_reducible refine DR_isN ?_)
  | (with_reducible refine DR_notN ?_)
  | (with_reducible refine DU_neg ?_)
  | (with_reducible refine DC_len ?_)
  | (with_reducible refine DC_int ?_)
  | (with_reducible refine DC_abs ?_)
  | (with_reducible refine DC_max2 ?_)
  | (with_reducible refine DC_min2 ?_)
  | (with_reducible refine DC_sum ?_)
  | (with_reducible refine DC_all ?_)
  | (with_reducible refine DC_any ?_)
  | (with_reducible refine DC_repr ?_)
  | (with_reducible refine ⟨_, kb_int _, ?_⟩)
  | (with_reducible refine ⟨_, kb_bool _, ?_⟩)
  | (with_reducible refine ⟨_, kb_list _, ?_⟩)
  | (with_reducible refine ⟨_, kb_tuple _, ?_⟩)
  | (with_reducible refine ⟨_, rfl, ?_⟩)
  | (with_reducible refine ⟨_, _, rfl, rfl, ?_⟩)
  | (with_reducible refine DE_callN ?_)
  | (with_reducible refine DE_callX ?_)
  | (with_reducible refine DR_notB ?_)
  | (with_reducible refine DE_emp ?_)
  | (with_reducible refine DE_new (DL_lst ?_))
  | (with_reducible refine DE_new (DL_sl ?_))
  | (with_reducible refine DE_slT ?_)
  | (with_reducible refine DC_list ?_)
  | ((with_reducible refine' DE_callT ?k1 ?_); (case k1 => exact rfl))
  | ((with_reducible refine' DE_var ?k1 ?_); (case k1 => exact rfl))
  | ((with_reducible refine' DE_varO ?k1 ?_); (case k1 => exact rfl))
  | ((with_reducible refine' DE_varN ?k1 ?_); (case k1 => exact rfl)))


/-! ### what passes -/
def passT (s : Int) (L : Nat) (G : List Int) (lo : Int) (r : List Int) : List Int := (nums s L r lo).map fun n => itm (kfT s L G) n
def W_passing (ds : List PyData) (R : PyData → Prop) : Prop := ∃ (s f : Int) (w : Nat) (T : List Int) (l : Nat) (vs : List Int) (L a b : Nat) (r : List Int), ds = [rlD s f w T, wtD s l vs, LI r] ∧ Rl s f w T ∧ Wt s l vs ∧ GainSpan s f w l L a b ∧ gcdL (plainOf s (L + 1) (gainT s w T l vs (L + 1) a b)).2 = 0 ∧ Rg s r ∧ R (LI (passT s L (gainT s w T l vs (L + 1) a b) (min 0 f) r))
def t_passing (K : PySem.W.Frag) : TS :=
  (tSeq (tDrop (tCall (spP K W_check_rule) [] E0 (tCons (tVar 0) tNil)))
    (tSeq (tDrop (tCall (spP K W_check_weight) [] E0 (tCons (tVar 1) tNil)))
    (tSeq (tDrop (tCall (spP K W_check_ring) [] E0 (tCons (tOp (rIx K) (tVar 0) (tC (.int 0))) (tCons (tVar 2) tNil))))
    (tSeq (tAsg (tCall (spP K W_kept_flow) [] E0 (tCons (tVar 0) (tCons (tVar 1) tNil))) (gName 3))
    (tSeq (tAsg (tCall (spP K W_gain_cells) [] E0 (tCons (tVar 0) (tCons (tVar 1) tNil))) (gTup K 2 (gNames [4, 5])))
    (tRet (tLc (iList K (tCall (spP K W_numbers_round) [] E0 (tCons (tOp (rIx K) (tVar 0) (tC (.int 0))) (tCons (tOp rMinus (tVar 5) (tC (.int 1))) (tCons (tVar 2) (tCons (tVar 4) tNil)))))) (gName 6) tYes (tOp (rIx K) (tVar 3) (tVar 6)) [6])))))))
end Cf
/-! [e for i, x in enumerate(xs) for k in range(c)] -/
namespace Cf
open PySem PySem.Spec PyProof.Rows L2
open Evl (Ex)
section
variable {K : PySem.W.Frag} {t : Option Addr} {ρ : Rho} {i j m : Nat} {te : TE} {tr tr1 : TA}
abbrev rho2 (ρ : Rho) (i j m : Nat) (k : Nat) (d : PyData) : Rho := ((ρ.set m .no).set i (.sh (.int (k : Int)))).set j (.sh d)
end
end Cf
namespace Cf
open PySem PySem.Spec PyProof.Rows L2
open Evl (Ex)
local macro_rules | `(tactic| walk_at "d") => `(tactic| first
  | (with_reducible refine DS_seq ?_)
  | (with_reducible refine DS_if ?_)
  | (with_reducible refine DS_ret ?_)
  | (with_reducible refine DS_next ?_)
  | (with_reducible refine DS_retN ?_)
  | (with_reducible refine DS_set ?_)
  | (with_reducible refine DS_drop ?_)
  | (with_reducible refine DS_unpack ?_)
  | (with_reducible refine DS_par ?_)
  | (with_reducible refine DE_int ?_)
  | (with_reducible refine DE_bl ?_)
  | (with_reducible refine DE_non ?_)
  | (with_reducible refine DE_str ?_)
  | (with_reducible refine DE_isi ?_)
  | (with_reducible refine DE_and ?_)
  | (with_reducible refine DE_or ?_)
  | (with_reducible refine DE_not ?_)
  | (with_reducible refine DE_if ?_)
  | (with_reducible refine DE_chain ?_)
  | (with_reducible refine DE_tyIs ?_)
  | (with_reducible refine DE_tyNot ?_)
  | (with_reducible refine DE_call ?_)
  | ((with_reducible refine' DE_lenOw ?k1 ?_); (case k1 => exact rfl))
  | ((with_reducible refine' DE_reprOw ?k1 ?_); (case k1 => exact rfl))
  | ((with_reducible refine' DE_ixOw ?k1 ?_); (case k1 => exact rfl))
  | ((with_reducible refine' DE_lenOw ?k1 ?_); (case k1 => exact rfl))
  | (with_reducible refine DE_cb ?_)
  | (with_reducible refine DE_new (DL_rep (DL_lst ?_)))
  | (with_reducible refine DE_op ?_)
  | (with_reducible refine DE_un ?_)
  | (with_reducible refine DE_tup ?_)
  | (with_reducible refine DT_test ?_)
  | (with_reducible refine DT_B ?_)
  | (with_reducible refine DT_and ?_)
  | (with_reducible refine DT_or ?_)
  | (with_reducible refine DT_not ?_)
  | (with_reducible refine DT_yes ?_)
  | (with_reducible refine DA_nil ?_)
  | (with_reducible refine DA_cons ?_)
  | (with_reducible refine DO_no ?_)
  | (with_reducible refine DO_at ?_)
  | (with_reducible refine DR_minus ?_)
  | (with_reducible refine DR_mod ?_)
  | (with_reducible refine DR_div ?_)
  | (with_reducible refine DR_pow ?_)
  | (with_reducible refine DR_lt ?_)
  | (with_reducible refine DR_le ?_)
  | (with_reducible refine DR_gt ?_)
  | (with_reducible refine DR_ge ?_)
  | (with_reducible refine DR_eq ?_)
  | (with_reducible refine DR_ne ?_)
  | (with_reducible refine DR_isN ?_)
  | (with_reducible refine DR_notN ?_)
  | (with_reducible refine DU_neg ?_)
  | (with_reducible refine DC_len ?_)
  | (with_reducible refine DC_int ?_)
  | (with_reducible refine DC_abs ?_)
  | (with_reducible refine DC_max2 ?_)
  | (with_reducible refine DC_min2 ?_)
  | (with_reducible refine DC_sum ?_)
  | (with_reducible refine DC_all ?_)
  | (with_reducible refine DC_any ?_)
  | (with_reducible refine DC_repr ?_)
  | (with_reducible refine ⟨_, kb_int _, ?_⟩)
  | (with_reducible refine ⟨_, kb_bool _, ?_⟩)
  | (with_reducible refine ⟨_, kb_list _, ?_⟩)
  | (with_reducible refine ⟨_, kb_tuple _, ?_⟩)
  | (with_reducible refine ⟨_, rfl, ?_⟩)
  | (with_reducible refine ⟨_, _, rfl, rfl, ?_⟩)
  | (with_reducible refine DE_callN ?_)
  | (with_reducible refine DE_callX ?_)
  | (with_reducible refine DR_notB ?_)
  | (with_reducible refine DE_emp ?_)
  | (with_reducible refine DE_new (DL_lst ?_))
  | (with_reducible refine DE_new (DL_callF ?_))
  | (with_reducible refine DE_new (DL_sl ?_))
  | (with_reducible refine DE_slT ?_)
  | (with_reducible refine DC_list ?_)
  | ((with_reducible refine' DE_callT ?k1 ?_); (case k1 => exact rfl))
  | ((with_reducible refine' DE_var ?k1 ?_); (case k1 => exact rfl))
  | ((with_reducible refine' DE_varO ?k1 ?_); (case k1 => exact rfl))
  | ((with_reducible refine' DE_varN ?k1 ?_); (case k1 => exact rfl)))


/-! marks: their cells, rules that keep them -/
/-- the cells of the marks of the first k cells -/
def cellsK (r : List Int) (k : Nat) : List Int := (List.range k).flatMap fun (c : Nat) => List.replicate (r.getD c 0).toNat (c : Int)
abbrev cellsOf (r : List Int) : List Int := cellsK r r.length
theorem cellsK_succ (r : List Int) (k : Nat) : cellsK r (k + 1) = cellsK r k ++ List.replicate (r.getD k 0).toNat (k : Int) := by
  unfold cellsK
  rw [List.range_succ, List.flatMap_append]
  simp
theorem cellsK_len {r : List Int} (h : ∀ d ∈ r, 0 ≤ d ∧ d < 4) : ∀ k : Nat, (cellsK r k).length ≤ 4 * k
  | 0 => by simp [cellsK]
  | k + 1 => by
    rw [cellsK_succ, List.length_append, List.length_replicate]
    have := cellsK_len h k
    have : (r.getD k 0) < 4 := by
      rw [List.getD_eq_getElem?_getD]
      cases e : r[k]? with
      | none => decide
      | some d => exact (h d (List.mem_of_getElem? e)).2
    omega
def W_cells_with_marks (ds : List PyData) (R : List PyData → Prop) : Prop := ∃ (r : List Int), ds = [LI r] ∧ r.length ≤ 512 ∧ (∀ d ∈ r, 0 ≤ d ∧ d < 4) ∧ R ((cellsOf r).map .int)
def t_cells_with_marks (K : PySem.W.Frag) : TS :=
  (tRet (tLc2 (iEnum K (tCons (tVar 0) tNil)) (gTup K 2 (gNames [1, 2])) tYes (iRg1 (tCons (tVar 2) tNil)) (gName 3) tYes (tVar 1) [1, 2, 3] [3]))
def W_mark_cells (ds : List PyData) (R : List PyData → Prop) : Prop := ∃ (s : Int) (r : List Int), ds = [.int s, LI r] ∧ 2 ≤ s ∧ s ≤ 4 ∧ Rg s r ∧ R ((cellsOf r).map .int)
def t_mark_cells (K : PySem.W.Frag) : TS :=
  (tSeq (tDrop (tCall (spP K W_check_ring) [] E0 (tCons (tVar 0) (tCons (tVar 1) tNil))))
    (tRet (tCall (spF K W_cells_with_marks) [] E0 (tCons (tVar 1) tNil))))
def markV (s : Int) : List Int := (List.range s.toNat).map fun (k : Nat) => (k : Int)
def W_mark_weight (ds : List PyData) (R : PyData → Prop) : Prop := ∃ (s : Int), ds = [.int s] ∧ 2 ≤ s ∧ s ≤ 4 ∧ R (wtD s 1 (markV s))
def t_mark_weight (K : PySem.W.Frag) : TS :=
  (tRet (tTup (tCons (tVar 0) (tCons (tC (.int 1)) (tCons (tLstRg (tRg1 (tVar 0))) tNil)))))
/-- no ring gains marks -/
def Kp (s f : Int) (w : Nat) (T : List Int) : Prop := ∀ r : List Int, r ≠ [] → Signs s r → (tick s f w T r).sum = r.sum
def W_keeps_marks (ds : List PyData) (R : PyData → Prop) : Prop := ∃ (s f : Int) (w : Nat) (T : List Int), ds = [rlD s f w T] ∧ Rl s f w T ∧ s ^ ((max 0 (f + w - 1)).toNat + (max 0 (-f)).toNat + 1) ≤ 1024 ∧ ∀ b : Bool, (b = true ↔ Kp s f w T) → R (.bool b)
def t_keeps_marks (K : PySem.W.Frag) : TS :=
  (tSeq (tDrop (tCall (spP K W_check_rule) [] E0 (tCons (tVar 0) tNil)))
    (tRet (tOp (rEqU K) (tCall (spP K W_divisor) [] E0 (tCons (tCall (spN K W_gain) [] E0 (tCons (tVar 0) (tCons (tCall (spP K W_mark_weight) [] E0 (tCons (tOp (rIx K) (tVar 0) (tC (.int 0))) tNil)) tNil))) tNil)) (tC (.int 0)))))
end Cf
namespace Cf
open PySem PySem.Spec PyProof.Rows L2
open Evl (Ex)
local macro_rules | `(tactic| walk_at "d") => `(tactic| first
  | (with_reducible refine DS_seq ?_)
  | (with_reducible refine DS_if ?_)
  | (with_reducible refine DS_ret ?_)
  | (with_reducible refine DS_next ?_)
  | (with_reducible refine DS_retN ?_)
  | (with_reducible refine DS_set ?_)
  | (with_reducible refine DS_drop ?_)
  | (with_reducible refine DS_unpack ?_)
  | (with_reducible refine DS_par ?_)
  | (with_reducible refine DE_int ?_)
  | (with_reducible refine DE_bl ?_)
  | (with_reducible refine DE_non ?_)
  | (with_reducible refine DE_str ?_)
  | (with_reducible refine DE_isi ?_)
  | (with_reducible refine DE_and ?_)
  | (with_reducible refine DE_or ?_)
  | (with_reducible refine DE_not ?_)
  | (with_reducible refine DE_if ?_)
  | (with_reducible refine DE_chain ?_)
  | (with_reducible refine DE_tyIs ?_)
  | (with_reducible refine DE_tyNot ?_)
  | (with_reducible refine DE_call ?_)
  | ((with_reducible refine' DE_lenOw ?k1 ?_); (case k1 => exact rfl))
  | ((with_reducible refine' DE_reprOw ?k1 ?_); (case k1 => exact rfl))
  | ((with_reducible refine' DE_ixOw ?k1 ?_); (case k1 => exact rfl))
  | ((with_reducible refine' DE_lenOw ?k1 ?_); (case k1 => exact rfl))
  | (with_reducible refine DE_cb ?_)
  | (with_reducible refine DE_new (DL_rep (DL_lst ?_)))
  | (with_reducible refine DE_op ?_)
  | (with_reducible refine DE_un ?_)
  | (with_reducible refine DE_tup ?_)
  | (with_reducible refine DT_test ?_)
  | (with_reducible refine DT_B ?_)
  | (with_reducible refine DT_and ?_)
  | (with_reducible refine DT_or ?_)
  | (with_reducible refine DT_not ?_)
  | (with_reducible refine DT_yes ?_)
  | (with_reducible refine DA_nil ?_)
  | (with_reducible refine DA_cons ?_)
  | (with_reducible refine DO_no ?_)
  | (with_reducible refine DO_at ?_)
  | (with_reducible refine DR_minus ?_)
  | (with_reducible refine DR_mod ?_)
  | (with_reducible refine DR_div ?_)
  | (with_reducible refine DR_pow ?_)
  | (with_reducible refine DR_lt ?_)
  | (with_reducible refine DR_le ?_)
  | (with_reducible refine DR_gt ?_)
  | (with_reducible refine DR_ge ?_)
  | (with_reducible refine DR_eq ?_)
  | (with_reducible refine DR_ne ?_)
  | (with_reducible refine DR_isN ?_)
  | (with_reducible refine DR_notN ?_)
  | (with_reducible refine DU_neg ?_)
  | (with_reducible refine DC_len ?_)
  | (with_reducible refine DC_int ?_)
  | (with_reducible refine DC_abs ?_)
  | (with_reducible refine DC_max2 ?_)
  | (with_reducible refine DC_min2 ?_)
  | (with_reducible refine DC_sum ?_)
  | (with_reducible refine DC_all ?_)
  | (with_reducible refine DC_any ?_)
  | (with_reducible refine DC_repr ?_)
  | (with_reducible refine ⟨_, kb_int _, ?_⟩)
  | (with_reducible refine ⟨_, kb_bool _, ?_⟩)
  | (with_reducible refine ⟨_, kb_list _, ?_⟩)
  | (with_reducible refine ⟨_, kb_tuple _, ?_⟩)
  | (with_reducible refine ⟨_, rfl, ?_⟩)
  | (with_reducible refine ⟨_, _, rfl, rfl, ?_⟩)
  | (with_reducible refine DE_callN ?_)
  | (with_reducible refine DE_callX ?_)
  | (with_reducible refine DR_notB ?_)
  | (with_reducible refine DE_emp ?_)
  | (with_reducible refine DE_new (DL_lst ?_))
  | (with_reducible refine DE_new (DL_callF ?_))
  | (with_reducible refine DE_new (DL_sl ?_))
  | (with_reducible refine DE_slT ?_)
  | (with_reducible refine DC_list ?_)
  | ((with_reducible refine' DE_callT ?k1 ?_); (case k1 => exact rfl))
  | ((with_reducible refine' DE_var ?k1 ?_); (case k1 => exact rfl))
  | ((with_reducible refine' DE_varO ?k1 ?_); (case k1 => exact rfl))
  | ((with_reducible refine' DE_varN ?k1 ?_); (case k1 => exact rfl)))


/-! the form of rules that keep marks -/
/-- the items, less the first sign of the word -/
def lessV (s : Int) (w : Nat) (T : List Int) : List Int := (List.range T.length).map fun (n : Nat) => itm T n - (n : Int) / s ^ (w - 1)
/-- what the law asks of an item, after so many zeros -/
def dueK (s : Int) (w : Nat) (T : List Int) (n : Int) : Nat → Int
  | 0 => n / s ^ (w - 1)
  | k + 1 => dueK s w T n k + itm T (n % s ^ (w - 1) / s ^ k) - itm T (n / s ^ (k + 1))
section
variable {s f : Int} {w : Nat} {T : List Int}
end

end Cf
namespace Cf
open PySem PySem.Spec PyProof.Rows L2
open Evl (Ex)
local macro_rules | `(tactic| walk_at "d") => `(tactic| first
  | (with_reducible refine DS_seq ?_)
  | (with_reducible refine DS_if ?_)
  | (with_reducible refine DS_ret ?_)
  | (with_reducible refine DS_next ?_)
  | (with_reducible refine DS_retN ?_)
  | (with_reducible refine DS_set ?_)
  | (with_reducible refine DS_drop ?_)
  | (with_reducible refine DS_unpack ?_)
  | (with_reducible refine DS_par ?_)
  | (with_reducible refine DE_int ?_)
  | (with_reducible refine DE_bl ?_)
  | (with_reducible refine DE_non ?_)
  | (with_reducible refine DE_str ?_)
  | (with_reducible refine DE_isi ?_)
  | (with_reducible refine DE_and ?_)
  | (with_reducible refine DE_or ?_)
  | (with_reducible refine DE_not ?_)
  | (with_reducible refine DE_if ?_)
  | (with_reducible refine DE_chain ?_)
  | (with_reducible refine DE_tyIs ?_)
  | (with_reducible refine DE_tyNot ?_)
  | (with_reducible refine DE_call ?_)
  | ((with_reducible refine' DE_lenOw ?k1 ?_); (case k1 => exact rfl))
  | ((with_reducible refine' DE_reprOw ?k1 ?_); (case k1 => exact rfl))
  | ((with_reducible refine' DE_ixOw ?k1 ?_); (case k1 => exact rfl))
  | ((with_reducible refine' DE_lenOw ?k1 ?_); (case k1 => exact rfl))
  | (with_reducible refine DE_cb ?_)
  | (with_reducible refine DE_new (DL_rep (DL_lst ?_)))
  | (with_reducible refine DE_op ?_)
  | (with_reducible refine DE_un ?_)
  | (with_reducible refine DE_tup ?_)
  | (with_reducible refine DT_test ?_)
  | (with_reducible refine DT_B ?_)
  | (with_reducible refine DT_and ?_)
  | (with_reducible refine DT_or ?_)
  | (with_reducible refine DT_not ?_)
  | (with_reducible refine DT_yes ?_)
  | (with_reducible refine DA_nil ?_)
  | (with_reducible refine DA_cons ?_)
  | (with_reducible refine DO_no ?_)
  | (with_reducible refine DO_at ?_)
  | (with_reducible refine DR_minus ?_)
  | (with_reducible refine DR_mod ?_)
  | (with_reducible refine DR_div ?_)
  | (with_reducible refine DR_pow ?_)
  | (with_reducible refine DR_lt ?_)
  | (with_reducible refine DR_le ?_)
  | (with_reducible refine DR_gt ?_)
  | (with_reducible refine DR_ge ?_)
  | (with_reducible refine DR_eq ?_)
  | (with_reducible refine DR_ne ?_)
  | (with_reducible refine DR_isN ?_)
  | (with_reducible refine DR_notN ?_)
  | (with_reducible refine DU_neg ?_)
  | (with_reducible refine DC_len ?_)
  | (with_reducible refine DC_int ?_)
  | (with_reducible refine DC_abs ?_)
  | (with_reducible refine DC_max2 ?_)
  | (with_reducible refine DC_min2 ?_)
  | (with_reducible refine DC_sum ?_)
  | (with_reducible refine DC_all ?_)
  | (with_reducible refine DC_any ?_)
  | (with_reducible refine DC_repr ?_)
  | (with_reducible refine ⟨_, kb_int _, ?_⟩)
  | (with_reducible refine ⟨_, kb_bool _, ?_⟩)
  | (with_reducible refine ⟨_, kb_list _, ?_⟩)
  | (with_reducible refine ⟨_, kb_tuple _, ?_⟩)
  | (with_reducible refine ⟨_, rfl, ?_⟩)
  | (with_reducible refine ⟨_, _, rfl, rfl, ?_⟩)
  | (with_reducible refine DE_callN ?_)
  | (with_reducible refine DE_callX ?_)
  | (with_reducible refine DR_notB ?_)
  | (with_reducible refine DE_emp ?_)
  | (with_reducible refine DE_new (DL_lst ?_))
  | (with_reducible refine DE_new (DL_callF ?_))
  | (with_reducible refine DE_new (DL_sl ?_))
  | (with_reducible refine DE_slT ?_)
  | (with_reducible refine DC_list ?_)
  | ((with_reducible refine' DE_callT ?k1 ?_); (case k1 => exact rfl))
  | ((with_reducible refine' DE_var ?k1 ?_); (case k1 => exact rfl))
  | ((with_reducible refine' DE_varO ?k1 ?_); (case k1 => exact rfl))
  | ((with_reducible refine' DE_varN ?k1 ?_); (case k1 => exact rfl)))


/-! the law's own looks at rules that keep marks -/
def W__law_digits (ds : List PyData) (R : PyData → Prop) : Prop := ∃ (s n : Int) (l : Nat), ds = [.int s, .int n, .int l] ∧ 2 ≤ s ∧ s ≤ 4 ∧ l ≤ 1000 ∧ R (LI (wordOf s l n))
def t__law_digits (K : PySem.W.Frag) : TS :=
  (tSeq (tAsg (tLst tNil) (gName 3))
    (tSeq (tFor (iRg1 (tCons (tVar 2) tNil)) (gName 4)
    (tSeq (tAsg (tOp (rPlus K) (tLst (tCons (tOp rModI (tCB rIntA (tCons (tVar 1) tNil)) (tVar 0)) tNil)) (tVar 3)) (gName 3))
    (tAsg (tOp rDivI (tVar 1) (tVar 0)) (gName 1))))
    (tRet (tVar 3))))
namespace Mk
def W__law_number (ds : List PyData) (R : PyData → Prop) : Prop := Cf.W_number_of ds R
def t__law_number (K : PySem.W.Frag) : TS :=
  (tSeq (tAsg (tC (.int 0)) (gName 2))
    (tSeq (tFor (iList K (tVar 1)) (gName 3)
    (tAsg (tOp (rPlus K) (tOp rTimes (tVar 2) (tVar 0)) (tVar 3)) (gName 2)))
    (tRet (tVar 2))))
theorem ds__law_number : Keeps W__law_number 4 t__law_number := Cf.ds_number_of
def W__law_cells (ds : List PyData) (R : PyData → Prop) : Prop := ∃ (r : List Int), ds = [LI r] ∧ r.length ≤ 512 ∧ (∀ d ∈ r, 0 ≤ d ∧ d < 4) ∧ R (LI (cellsOf r))
def t__law_cells (K : PySem.W.Frag) : TS :=
  (tSeq (tAsg (tLst tNil) (gName 1))
    (tSeq (tFor (iRg1 (tCons (tCB (rLenA K) (tCons (tVar 0) tNil)) tNil)) (gName 2)
    (tDrop (tBM K "list" rExtend (tVar 1) (tCons (tOp rTimes (tLst (tCons (tVar 2) tNil)) (tOp (rIx K) (tVar 0) (tVar 2))) tNil))))
    (tRet (tVar 1))))
theorem ds__law_cells : Keeps W__law_cells 3 t__law_cells := by
  intro K ds R h
  obtain ⟨r, rfl, hl, hs, q⟩ := h
  refine ⟨by simp, ?_⟩
  show DS K _ (t__law_cells K) [.sh (LI r), .no, .no] _ _ _ _
  unfold t__law_cells
  refine DS_seq (DS_setOw (DL_lst (DA_nil ⟨by simp, ?_⟩)))
  refine DS_seq (DS_forR1 ?_)
  repeat walk_at "d"
  refine ⟨fun k ρ => ∃ z, ρ = [.sh (LI r), .ow ((cellsK r k).map .int), z], ⟨.no, rfl⟩, ?_, ?_⟩
  · rintro k ρ hk ⟨z, rfl⟩
    have hk : k < r.length := by simpa using hk
    have b := hs _ (List.getElem_mem hk)
    have lk := cellsK_len hs k
    refine DS_extend (i := 1) (by rfl) ?_
    refine DL_rep (DL_lst ?_)
    repeat walk_at "d"
    refine ⟨by simp, ?_⟩
    repeat walk_at "d"
    have ex : r.getD k 0 = r[k] := by rw [List.getD_eq_getElem?_getD, List.getElem?_eq_getElem hk]; rfl
    refine DR_ix (.inl ⟨_, _, _, rfl, rfl, atI_ok (by omega) (by omega), _, rfl, ?_⟩)
    rw [show (0 + (k : Int)).toNat = k by omega, ex]
    refine ⟨by omega, by omega, by simp; omega, ?_⟩
    rw [rep_one]
    refine ⟨by simp; omega, .sh (.int (0 + (k : Int))), ?_⟩
    rw [cellsK_succ, ex, Int.zero_add, List.map_append, List.map_replicate]
    rfl
  · rintro ρ ⟨z, rfl⟩
    refine DS_retOw (i := 1) (by rfl) ?_
    rw [show ((List.map PyData.int r).length : Int).toNat = r.length by simp]
    exact q
end Mk

def W__law_next (ds : List PyData) (R : PyData → Prop) : Prop := ∃ (s f : Int) (w : Nat) (T r : List Int), ds = [rlD s f w T, LI r] ∧ Rl s f w T ∧ Signs s r ∧ r.length ≤ 50000 ∧ R (LI (tick s f w T r))
def t__law_next (K : PySem.W.Frag) : TS :=
  (tSeq (tPar 2 3 (tCons (tLst tNil) (tCons (tCB (rLenA K) (tCons (tVar 1) tNil)) tNil)))
    (tSeq (tFor (iRg1 (tCons (tVar 3) tNil)) (gName 4)
    (tSeq (tAsg (tC (.int 0)) (gName 5))
    (tSeq (tFor (iRg1 (tCons (tOp (rIx K) (tVar 0) (tC (.int 2))) tNil)) (gName 6)
    (tSeq (tAsg (tOp (rIx K) (tVar 1) (tOp rModI (tCB rIntA (tCons (tOp (rPlus K) (tOp (rPlus K) (tVar 4) (tOp (rIx K) (tVar 0) (tC (.int 1)))) (tVar 6)) tNil)) (tVar 3))) (gName 7))
    (tAsg (tOp (rPlus K) (tOp rTimes (tVar 5) (tOp (rIx K) (tVar 0) (tC (.int 0)))) (tVar 7)) (gName 5))))
    (tDrop (tBM K "list" rAppend (tVar 2) (tCons (tOp (rIx K) (tOp (rIx K) (tVar 0) (tC (.int 3))) (tVar 5)) tNil))))))
    (tRet (tVar 2))))
end Cf
namespace Cf
open PySem PySem.Spec PyProof.Rows L2
open Evl (Ex)
local macro_rules | `(tactic| walk_at "d") => `(tactic| first
  | (with_reducible refine DS_seq ?_)
  | (with_reducible refine DS_if ?_)
  | (with_reducible refine DS_ret ?_)
  | (with_reducible refine DS_next ?_)
  | (with_reducible refine DS_retN ?_)
  | (with_reducible refine DS_set ?_)
  | (with_reducible refine DS_drop ?_)
  | (with_reducible refine DS_unpack ?_)
  | (with_reducible refine DS_par ?_)
  | (with_reducible refine DE_int ?_)
  | (with_reducible refine DE_bl ?_)
  | (with_reducible refine DE_non ?_)
  | (with_reducible refine DE_str ?_)
  | (with_reducible refine DE_isi ?_)
  | (with_reducible refine DE_and ?_)
  | (with_reducible refine DE_or ?_)
  | (with_reducible refine DE_not ?_)
  | (with_reducible refine DE_if ?_)
  | (with_reducible refine DE_chain ?_)
  | (with_reducible refine DE_tyIs ?_)
  | (with_reducible refine DE_tyNot ?_)
  | (with_reducible refine DE_call ?_)
  | ((with_reducible refine' DE_lenOw ?k1 ?_); (case k1 => exact rfl))
  | ((with_reducible refine' DE_reprOw ?k1 ?_); (case k1 => exact rfl))
  | ((with_reducible refine' DE_ixOw ?k1 ?_); (case k1 => exact rfl))
  | ((with_reducible refine' DE_lenOw ?k1 ?_); (case k1 => exact rfl))
  | (with_reducible refine DE_cb ?_)
  | (with_reducible refine DE_new (DL_rep (DL_lst ?_)))
  | (with_reducible refine DE_op ?_)
  | (with_reducible refine DE_un ?_)
  | (with_reducible refine DE_tup ?_)
  | (with_reducible refine DT_test ?_)
  | (with_reducible refine DT_B ?_)
  | (with_reducible refine DT_and ?_)
  | (with_reducible refine DT_or ?_)
  | (with_reducible refine DT_not ?_)
  | (with_reducible refine DT_yes ?_)
  | (with_reducible refine DA_nil ?_)
  | (with_reducible refine DA_cons ?_)
  | (with_reducible refine DO_no ?_)
  | (with_reducible refine DO_at ?_)
  | (with_reducible refine DR_minus ?_)
  | (with_reducible refine DR_mod ?_)
  | (with_reducible refine DR_div ?_)
  | (with_reducible refine DR_pow ?_)
  | (with_reducible refine DR_lt ?_)
  | (with_reducible refine DR_le ?_)
  | (with_reducible refine DR_gt ?_)
  | (with_reducible refine DR_ge ?_)
  | (with_reducible refine DR_eq ?_)
  | (with_reducible refine DR_ne ?_)
  | (with_reducible refine DR_isN ?_)
  | (with_reducible refine DR_notN ?_)
  | (with_reducible refine DU_neg ?_)
  | (with_reducible refine DC_len ?_)
  | (with_reducible refine DC_int ?_)
  | (with_reducible refine DC_abs ?_)
  | (with_reducible refine DC_max2 ?_)
  | (with_reducible refine DC_min2 ?_)
  | (with_reducible refine DC_sum ?_)
  | (with_reducible refine DC_all ?_)
  | (with_reducible refine DC_any ?_)
  | (with_reducible refine DC_repr ?_)
  | (with_reducible refine ⟨_, kb_int _, ?_⟩)
  | (with_reducible refine ⟨_, kb_bool _, ?_⟩)
  | (with_reducible refine ⟨_, kb_list _, ?_⟩)
  | (with_reducible refine ⟨_, kb_tuple _, ?_⟩)
  | (with_reducible refine ⟨_, rfl, ?_⟩)
  | (with_reducible refine ⟨_, _, rfl, rfl, ?_⟩)
  | (with_reducible refine DE_callN ?_)
  | (with_reducible refine DE_callX ?_)
  | (with_reducible refine DR_notB ?_)
  | (with_reducible refine DE_emp ?_)
  | (with_reducible refine DE_new (DL_lst ?_))
  | (with_reducible refine DE_new (DL_callF ?_))
  | (with_reducible refine DE_new (DL_sl ?_))
  | (with_reducible refine DE_slT ?_)
  | (with_reducible refine DC_list ?_)
  | ((with_reducible refine' DE_callT ?k1 ?_); (case k1 => exact rfl))
  | ((with_reducible refine' DE_var ?k1 ?_); (case k1 => exact rfl))
  | ((with_reducible refine' DE_varO ?k1 ?_); (case k1 => exact rfl))
  | ((with_reducible refine' DE_varN ?k1 ?_); (case k1 => exact rfl)))


section
variable {s : Int} {w : Nat} {n : Int}
end
def W__law_is_keeping (ds : List PyData) (R : PyData → Prop) : Prop := ∃ (s f : Int) (w : Nat) (T : List Int), ds = [rlD s f w T] ∧ Rl s f w T ∧ ∀ b : Bool, (b = true ↔ Kp s f w T) → R (.bool b)
def t__law_is_keeping (K : PySem.W.Frag) : TS :=
  (tSeq (tAsg (tVar 0) (gTup K 4 (gNames [1, 2, 3, 4])))
    (tSeq (tFor (iRg1 (tCons (tCB (rLenA K) (tCons (tVar 4) tNil)) tNil)) (gName 5)
    (tSeq (tAsg (tCall (spP K W__law_digits) [] E0 (tCons (tVar 1) (tCons (tVar 5) (tCons (tVar 3) tNil)))) (gName 6))
    (tSeq (tAsg (tOp (rIx K) (tVar 6) (tC (.int 0))) (gName 7))
    (tSeq (tFor (iRg2 (tCons (tC (.int 1)) (tCons (tVar 3) tNil))) (gName 8)
    (tSeq (tAsg (tOp rTimes (tLst (tCons (tC (.int 0)) tNil)) (tVar 8)) (gName 9))
    (tSeq (tAsg (tOp (rPlus K) (tVar 7) (tOp (rIx K) (tVar 4) (tCall (spP K Mk.W__law_number) [] E0 (tCons (tVar 1) (tCons (tOp (rPlus K) (tVar 9) (tSl (rSlL K) (tVar 6) (tPart (tC (.int 1))) (tPart (tOp (rPlus K) (tOp rMinus (tVar 3) (tVar 8)) (tC (.int 1)))))) tNil))))) (gName 7))
    (tAsg (tOp rMinus (tVar 7) (tOp (rIx K) (tVar 4) (tCall (spP K Mk.W__law_number) [] E0 (tCons (tVar 1) (tCons (tOp (rPlus K) (tVar 9) (tSl (rSlL K) (tVar 6) tNoPart (tPart (tOp rMinus (tVar 3) (tVar 8))))) tNil))))) (gName 7)))))
    (tIfS (tTest (tOp (rNeU K) (tOp (rIx K) (tVar 4) (tVar 5)) (tVar 7)))
    (tRet (tC (.bl false)))
    tNext)))))
    (tRet (tC (.bl true)))))
end Cf
namespace Cf
open PySem PySem.Spec PyProof.Rows L2
open Evl (Ex)
local macro_rules | `(tactic| walk_at "d") => `(tactic| first
  | (with_reducible refine DS_seq ?_)
  | (with_reducible refine DS_if ?_)
  | (with_reducible refine DS_ret ?_)
  | (with_reducible refine DS_next ?_)
  | (with_reducible refine DS_retN ?_)
  | (with_reducible refine DS_set ?_)
  | (with_reducible refine DS_drop ?_)
  | (with_reducible refine DS_unpack ?_)
  | (with_reducible refine DS_par ?_)
  | (with_reducible refine DE_int ?_)
  | (with_reducible refine DE_bl ?_)
  | (with_reducible refine DE_non ?_)
  | (with_reducible refine DE_str ?_)
  | (with_reducible refine DE_isi ?_)
  | (with_reducible refine DE_and ?_)
  | (with_reducible refine DE_or ?_)
  | (with_reducible refine DE_not ?_)
  | (with_reducible refine DE_if ?_)
  | (with_reducible refine DE_chain ?_)
  | (with_reducible refine DE_tyIs ?_)
  | (with_reducible refine DE_tyNot ?_)
  | (with_reducible refine DE_call ?_)
  | ((with_reducible refine' DE_lenOw ?k1 ?_); (case k1 => exact rfl))
  | ((with_reducible refine' DE_reprOw ?k1 ?_); (case k1 => exact rfl))
  | ((with_reducible refine' DE_ixOw ?k1 ?_); (case k1 => exact rfl))
  | ((with_reducible refine' DE_lenOw ?k1 ?_); (case k1 => exact rfl))
  | (with_reducible refine DE_cb ?_)
  | (with_reducible refine DE_new (DL_rep (DL_lst ?_)))
  | (with_reducible refine DE_op ?_)
  | (with_reducible refine DE_un ?_)
  | (with_reducible refine DE_tup ?_)
  | (with_reducible refine DT_test ?_)
  | (with_reducible refine DT_B ?_)
  | (with_reducible refine DT_and ?_)
  | (with_reducible refine DT_or ?_)
  | (with_reducible refine DT_not ?_)
  | (with_reducible refine DT_yes ?_)
  | (with_reducible refine DA_nil ?_)
  | (with_reducible refine DA_cons ?_)
  | (with_reducible refine DO_no ?_)
  | (with_reducible refine DO_at ?_)
  | (with_reducible refine DR_minus ?_)
  | (with_reducible refine DR_mod ?_)
  | (with_reducible refine DR_div ?_)
  | (with_reducible refine DR_pow ?_)
  | (with_reducible refine DR_lt ?_)
  | (with_reducible refine DR_le ?_)
  | (with_reducible refine DR_gt ?_)
  | (with_reducible refine DR_ge ?_)
  | (with_reducible refine DR_eq ?_)
  | (with_reducible refine DR_ne ?_)
  | (with_reducible refine DR_isN ?_)
  | (with_reducible refine DR_notN ?_)
  | (with_reducible refine DU_neg ?_)
  | (with_reducible refine DC_len ?_)
  | (with_reducible refine DC_int ?_)
  | (with_reducible refine DC_abs ?_)
  | (with_reducible refine DC_max2 ?_)
  | (with_reducible refine DC_min2 ?_)
  | (with_reducible refine DC_sum ?_)
  | (with_reducible refine DC_all ?_)
  | (with_reducible refine DC_any ?_)
  | (with_reducible refine DC_repr ?_)
  | (with_reducible refine ⟨_, kb_int _, ?_⟩)
  | (with_reducible refine ⟨_, kb_bool _, ?_⟩)
  | (with_reducible refine ⟨_, kb_list _, ?_⟩)
  | (with_reducible refine ⟨_, kb_tuple _, ?_⟩)
  | (with_reducible refine ⟨_, rfl, ?_⟩)
  | (with_reducible refine ⟨_, _, rfl, rfl, ?_⟩)
  | (with_reducible refine DE_callN ?_)
  | (with_reducible refine DE_callX ?_)
  | (with_reducible refine DR_notB ?_)
  | (with_reducible refine DE_emp ?_)
  | (with_reducible refine DE_new (DL_lst ?_))
  | (with_reducible refine DE_new (DL_callF ?_))
  | (with_reducible refine DE_new (DL_sl ?_))
  | (with_reducible refine DE_slT ?_)
  | (with_reducible refine DC_list ?_)
  | ((with_reducible refine' DE_callT ?k1 ?_); (case k1 => exact rfl))
  | ((with_reducible refine' DE_var ?k1 ?_); (case k1 => exact rfl))
  | ((with_reducible refine' DE_varO ?k1 ?_); (case k1 => exact rfl))
  | ((with_reducible refine' DE_varN ?k1 ?_); (case k1 => exact rfl)))


/-! rules that keep marks: moved on, mirrored, made of flows -/
section
variable {s f : Int} {w : Nat} {T : List Int}
/-- an item of a rule that is made of flows -/
def keepI (s : Int) (w : Nat) (F : List Int) (u : List Int) : Int := u.getD (w - 2) 0 + itm F (num s (u.take (w - 1))) - itm F (num s (u.drop 1))
end

end Cf
/-! marks on their way: the mathematics -/
namespace Cf
open PySem PySem.Spec PyProof.Rows L2
open Evl (Ex)
/-! ### a line with zeros far away -/
def lins (g : Int → Int) (z : Int) (k : Nat) : List Int := (List.range k).map fun (i : Nat) => g (z + i)
def negsum (g : Int → Int) : Nat → Int
  | 0 => 0
  | k + 1 => negsum g k + g (-((k : Int) + 1))
section
variable {s f : Int} {w : Nat} {T : List Int}
def mL (f : Int) (w : Nat) : Nat := (max 0 (f + w - 1)).toNat + (max 0 (-f)).toNat
def mA (f : Int) : Nat := (f - min 0 f).toNat
def mB (f : Int) : Nat := (- min 0 f).toNat
def mG (s f : Int) (w : Nat) (T : List Int) : List Int := gainT s w T 1 (markV s) (mL f w + 1) (mA f) (mB f)
def kfM (s f : Int) (w : Nat) (T : List Int) : List Int := kfT s (mL f w) (mG s f w T)
def Sp (s f : Int) (w : Nat) : Prop := s ^ ((max 0 (f + w - 1)).toNat + (max 0 (-f)).toNat + 1) ≤ 1024
/-- what passes on the left of a cell -/
def bord (s f : Int) (w : Nat) (T r : List Int) (c : Int) : Int := itm (kfM s f w T) (num s (win r (c + min 0 f) (mL f w)))
/-- the line round a border -/
def lineAt (r : List Int) (c lo hi : Int) (x : Int) : Int := if lo ≤ x ∧ x < hi then at_ r (c + x) else 0
end
end Cf
/-! marks counted round a ring -/
namespace Cf
open PySem PySem.Spec PyProof.Rows L2
open Evl (Ex)
section
variable {r q : List Int}
def pre (r : List Int) (k : Nat) : Int := (r.take k).sum
def NonN (r : List Int) : Prop := ∀ d ∈ r, 0 ≤ d
/-- marks counted from the cell 0 on, each time round again -/
def cum (r : List Int) (z : Int) : Int := z / r.length * r.sum + pre r (z % r.length).toNat
/-- the cell of a mark, cells and marks counted on each time round -/
def far (r : List Int) (n : Int) : Int := (cellsOf r).getD (n % (r.sum : Int)).toNat 0 + n / r.sum * r.length
/-- the sum of the cells of all marks -/
def csum (r : List Int) (k : Nat) : Int := ((List.range k).map fun (c : Nat) => (c : Int) * r.getD c 0).sum
end
section
variable {s f : Int} {w : Nat} {T r : List Int}
/-- the moves of all marks in a tick -/
def mvs (s f : Int) (w : Nat) (T r : List Int) : List Int := (List.range r.sum.toNat).map fun (m : Nat) => far (tick s f w T r) ((m : Int) + bord s f w T r 0) - (cellsOf r).getD m 0
def bords (s f : Int) (w : Nat) (T r : List Int) : List Int := (List.range r.length).map fun (c : Nat) => bord s f w T r c
end
end Cf
/-! marks behind many ticks: the mathematics -/
namespace Cf
open PySem PySem.Spec PyProof.Rows L2
open Evl (Ex)
def sumR (g : Nat → Int) (a b : Nat) : Int := ((List.range b).map fun (i : Nat) => g (a + i)).sum
section
variable {s f : Int} {w : Nat} {T r : List Int}
/-- how many marks have passed the border on the left of the cell 0 behind n ticks -/
def bT (s f : Int) (w : Nat) (T r : List Int) (i : Nat) : Int := bord s f w T (tickI s f w T i r) 0
def AH (s f : Int) (w : Nat) (T r : List Int) (n : Nat) : Int := sumR (bT s f w T r) 0 n
end
end Cf
/-! a shift alone: the mathematics -/
namespace Cf
open PySem PySem.Spec PyProof.Rows L2
section
variable {s f : Int} {r : List Int}
end
end Cf
namespace Cf
open PySem PySem.Spec PyProof.Rows L2
def prD (p : Int × Int) : PyData := .tuple [.int p.1, .int p.2]
end Cf
/-! rules known by closed forms: few enough for the kernel to tell -/
namespace Cf
open PySem PySem.Spec PyProof.Rows L2
def mxT (s : Int) (w : Nat) : List Int := (List.range (s ^ w).toNat).map fun (k : Nat) => lmax (wordOf s w k)
def adT (s m : Int) : List Int := (List.range s.toNat).map fun (k : Nat) => ((k : Int) + m) % s
def oneT (s x : Int) : List Int := List.replicate s.toNat x
/-- each cell becomes the greatest sign of w -/
def chkG (s : Int) (w : Nat) : Bool :=
  let g := ggM s w (mxT s w) 1 (markV s) 1
  decide (g.1 * w = g.2 * ((s - 1) * (w - 1))) && decide (lgM s w (mxT s w) 1 (markV s) 1 = (0, 1)) && (decide (g.1 ≤ 0) == decide (w = 1)) && (decide (rmV s w (mxT s w) 1 (markV s) = 0) == decide (w = 1))
def chkA (s m : Int) (n : Nat) : Bool := decide (ggM s 1 (adT s m) 1 (markV s) n = (m * n % s, 1)) && decide (lgM s 1 (adT s m) 1 (markV s) n = (if 0 < m * n % s then m * n % s - s else 0, 1))
def chkB (s m : Int) : Bool := (decide (rmV s 1 (adT s m) 1 (markV s) = 0) == decide (m = 0)) && decide (rmV s 1 (adT s m) 1 (markV s) = if 0 < m then (if 0 < m ∧ s % (max 1 m) = 0 then m else 1) else 0)
def chkO (s x : Int) : Bool := decide (ggM s 1 (oneT s x) 1 (markV s) 2 = (x, 1)) && decide (lgM s 1 (oneT s x) 1 (markV s) 1 = (x - s + 1, 1)) && decide (rmV s 1 (oneT s x) 1 (markV s) = 1) && (decide ((ggM s 1 (oneT s x) 1 (markV s) 1).1 ≤ 0) == decide (x = 0))
end Cf
/-! moving on: flows and what passes -/
namespace Cf
open PySem PySem.Spec PyProof.Rows L2
section
variable {s f : Int} {r : List Int}
end
end Cf
/-! what passes, for every weight that is kept -/
namespace Cf
open PySem PySem.Spec PyProof.Rows L2
section
variable {s f : Int} {w : Nat} {T : List Int} {l : Nat} {vs : List Int}
def gL (f : Int) (w l : Nat) : Nat := (max ((l : Int) - 1) (f + w + l - 2) - min 0 f).toNat
def gG (s f : Int) (w : Nat) (T : List Int) (l : Nat) (vs : List Int) : List Int := gainT s w T l vs (gL f w l + 1) (mA f) (mB f)
def Sq (s f : Int) (w l : Nat) : Prop := s ^ (gL f w l + 1) ≤ 1024
/-- no ring's sum changes -/
def Kq (s f : Int) (w : Nat) (T : List Int) (l : Nat) (vs : List Int) : Prop := ∀ r : List Int, r ≠ [] → Signs s r → ringSum s l vs (tick s f w T r) = ringSum s l vs r
def flw (s f : Int) (w : Nat) (T : List Int) (l : Nat) (vs r : List Int) (c : Int) : Int := itm (kfT s (gL f w l) (gG s f w T l vs)) (num s (win r (c + min 0 f) (gL f w l)))
end
/-- g looks at the cells from lo to hi only -/
def Lo (s lo hi : Int) (g : List Int → Int → Int) : Prop := ∀ (r q : List Int) (c d : Int), r ≠ [] → Signs s r → q ≠ [] → Signs s q → (∀ x : Int, lo ≤ x → x < hi → at_ r (c + x) = at_ q (d + x)) → g r c = g q d
section
variable {s lo hi : Int} {g h : List Int → Int → Int}
theorem Lo.wide {lo' hi' : Int} (a : Lo s lo hi g) (h1 : lo' ≤ lo) (h2 : hi ≤ hi') : Lo s lo' hi' g := fun r q c d rn rs qn qs e => a r q c d rn rs qn qs fun x x0 x1 => e x (by omega) (by omega)
end
end Cf
/-! what passes, told otherwise -/
namespace Cf
open PySem PySem.Spec PyProof.Rows L2
section
variable {s f : Int} {w : Nat} {T : List Int} {l : Nat} {vs : List Int}
/-- what has passed in some ticks -/
def psd (s f : Int) (w : Nat) (T : List Int) (l : Nat) (vs r : List Int) : Nat → Int → Int
  | 0, _ => 0
  | n + 1, c => psd s f w T l vs r n c + flw s f w T l vs (tickI s f w T n r) c
end
end Cf
/-! reduced rules -/
namespace Cf
open PySem PySem.Spec PyProof.Rows L2
def firstM (s : Int) (vs : List Int) : Bool := !(decide (vs.drop ((vs.length : Int) / s).toNat = vs.take (vs.length - ((vs.length : Int) / s).toNat)))
section
variable {s f : Int} {w : Nat} {T : List Int}
end
end Cf
namespace Cf
open PySem PySem.Spec PyProof.Rows L2
open Evl (Ex)
local macro_rules | `(tactic| walk_at "d") => `(tactic| first
  | (with_reducible refine DS_seq ?_)
  | (with_reducible refine DS_if ?_)
  | (with_reducible refine DS_ret ?_)
  | (with_reducible refine DS_next ?_)
  | (with_reducible refine DS_retN ?_)
  | (with_reducible refine DS_set ?_)
  | (with_reducible refine DS_drop ?_)
  | (with_reducible refine DS_unpack ?_)
  | (with_reducible refine DS_par ?_)
  | (with_reducible refine DE_int ?_)
  | (with_reducible refine DE_bl ?_)
  | (with_reducible refine DE_non ?_)
  | (with_reducible refine DE_str ?_)
  | (with_reducible refine DE_isi ?_)
  | (with_reducible refine DE_and ?_)
  | (with_reducible refine DE_or ?_)
  | (with_reducible refine DE_not ?_)
  | (with_reducible refine DE_if ?_)
  | (with_reducible refine DE_chain ?_)
  | (with_reducible refine DE_tyIs ?_)
  | (with_reducible refine DE_tyNot ?_)
  | (with_reducible refine DE_call ?_)
  | ((with_reducible refine' DE_lenOw ?k1 ?_); (case k1 => exact rfl))
  | ((with_reducible refine' DE_reprOw ?k1 ?_); (case k1 => exact rfl))
  | ((with_reducible refine' DE_ixOw ?k1 ?_); (case k1 => exact rfl))
  | ((with_reducible refine' DE_lenOw ?k1 ?_); (case k1 => exact rfl))
  | (with_reducible refine DE_cb ?_)
  | (with_reducible refine DE_new (DL_rep (DL_lst ?_)))
  | (with_reducible refine DE_op ?_)
  | (with_reducible refine DE_un ?_)
  | (with_reducible refine DE_tup ?_)
  | (with_reducible refine DT_test ?_)
  | (with_reducible refine DT_B ?_)
  | (with_reducible refine DT_and ?_)
  | (with_reducible refine DT_or ?_)
  | (with_reducible refine DT_not ?_)
  | (with_reducible refine DT_yes ?_)
  | (with_reducible refine DA_nil ?_)
  | (with_reducible refine DA_cons ?_)
  | (with_reducible refine DO_no ?_)
  | (with_reducible refine DO_at ?_)
  | (with_reducible refine DR_minus ?_)
  | (with_reducible refine DR_mod ?_)
  | (with_reducible refine DR_div ?_)
  | (with_reducible refine DR_pow ?_)
  | (with_reducible refine DR_lt ?_)
  | (with_reducible refine DR_le ?_)
  | (with_reducible refine DR_gt ?_)
  | (with_reducible refine DR_ge ?_)
  | (with_reducible refine DR_eq ?_)
  | (with_reducible refine DR_ne ?_)
  | (with_reducible refine DR_isN ?_)
  | (with_reducible refine DR_notN ?_)
  | (with_reducible refine DU_neg ?_)
  | (with_reducible refine DC_len ?_)
  | (with_reducible refine DC_int ?_)
  | (with_reducible refine DC_abs ?_)
  | (with_reducible refine DC_max2 ?_)
  | (with_reducible refine DC_min2 ?_)
  | (with_reducible refine DC_sum ?_)
  | (with_reducible refine DC_all ?_)
  | (with_reducible refine DC_any ?_)
  | (with_reducible refine DC_repr ?_)
  | (with_reducible refine ⟨_, kb_int _, ?_⟩)
  | (with_reducible refine ⟨_, kb_bool _, ?_⟩)
  | (with_reducible refine ⟨_, kb_list _, ?_⟩)
  | (with_reducible refine ⟨_, kb_tuple _, ?_⟩)
  | (with_reducible refine ⟨_, rfl, ?_⟩)
  | (with_reducible refine ⟨_, _, rfl, rfl, ?_⟩)
  | (with_reducible refine DE_callN ?_)
  | (with_reducible refine DE_callX ?_)
  | (with_reducible refine DR_notB ?_)
  | (with_reducible refine DE_emp ?_)
  | (with_reducible refine DE_new (DL_lst ?_))
  | (with_reducible refine DE_new (DL_callF ?_))
  | (with_reducible refine DE_new (DL_sl ?_))
  | (with_reducible refine DE_slT ?_)
  | (with_reducible refine DC_list ?_)
  | ((with_reducible refine' DE_callT ?k1 ?_); (case k1 => exact rfl))
  | ((with_reducible refine' DE_var ?k1 ?_); (case k1 => exact rfl))
  | ((with_reducible refine' DE_varO ?k1 ?_); (case k1 => exact rfl))
  | ((with_reducible refine' DE_varN ?k1 ?_); (case k1 => exact rfl)))


/-! reduced rules: the program's -/
def W_first_matters (ds : List PyData) (R : PyData → Prop) : Prop := ∃ (s : Int) (vs : List Int), ds = [.int s, LI vs] ∧ 0 < s ∧ s ≤ 4 ∧ s ≤ vs.length ∧ vs.length ≤ 50000 ∧ R (.bool (firstM s vs))
def t_first_matters (K : PySem.W.Frag) : TS :=
  (tSeq (tAsg (tOp rDivI (tCB (rLenA K) (tCons (tVar 1) tNil)) (tVar 0)) (gName 2))
    (tRet (tOp (rNeU K) (tSl (rSlL K) (tVar 1) (tPart (tVar 2)) tNoPart) (tSl (rSlL K) (tVar 1) tNoPart (tPart (tUn rNegI (tVar 2)))))))
/-- rules that tick alike, no wider -/
def W_reduced (ds : List PyData) (R : PyData → Prop) : Prop := ∃ (s f : Int) (w : Nat) (T : List Int), ds = [rlD s f w T] ∧ Rl s f w T ∧ ∀ (f' : Int) (w' : Nat) (T' : List Int), Rl s f' w' T' → w' ≤ w → (f ≤ f' ∧ f' + w' ≤ f + w ∨ f' = 0 ∧ w' = 1) → (∀ r : List Int, r ≠ [] → Signs s r → tick s f' w' T' r = tick s f w T r) → R (rlD s f' w' T')
def t_reduced (K : PySem.W.Frag) : TS :=
  (tSeq (tDrop (tCall (spP K W_check_rule) [] E0 (tCons (tVar 0) tNil)))
    (tSeq (tAsg (tVar 0) (gTup K 4 (gNames [1, 2, 3, 4])))
    (tSeq (tWhile (tAnd (tTest (tOp rGtI (tVar 3) (tC (.int 1)))) (tNot (tB (tCall (spP K W_last_matters) [] E0 (tCons (tVar 1) (tCons (tVar 4) tNil))))))
    (tSeq (tAsg (tStepL K (tVar 4) (tVar 1)) (gName 4))
    (tAsg (tOp rMinus (tVar 3) (tC (.int 1))) (gName 3))))
    (tSeq (tWhile (tAnd (tTest (tOp rGtI (tVar 3) (tC (.int 1)))) (tNot (tB (tCall (spP K W_first_matters) [] E0 (tCons (tVar 1) (tCons (tVar 4) tNil))))))
    (tSeq (tAsg (tSl (rSlL K) (tVar 4) tNoPart (tPart (tOp rDivI (tCB (rLenA K) (tCons (tVar 4) tNil)) (tVar 1)))) (gName 4))
    (tSeq (tAsg (tOp (rPlus K) (tVar 2) (tC (.int 1))) (gName 2))
    (tAsg (tOp rMinus (tVar 3) (tC (.int 1))) (gName 3)))))
    (tSeq (tIfS (tNot (tB (tCall (spP K W_last_matters) [] E0 (tCons (tVar 1) (tCons (tVar 4) tNil)))))
    (tAsg (tC (.int 0)) (gName 2))
    tNext)
    (tRet (tTup (tCons (tVar 1) (tCons (tVar 2) (tCons (tVar 3) (tCons (tCB (rListA K) (tCons (tVar 4) tNil)) tNil)))))))))))
end Cf
/-! for x, y, z in zip(xs, ys, zs) -/
namespace Cf
open PySem PySem.Spec PyProof.Rows L2
section
variable {prog : Program} {w : World} {A : Around} {E : Value → Shared → Prop} {s : Shared}
end
def iZip3 (K : PySem.W.Frag) (ta : TA) : TI := fun σ H R => ta σ H fun vs H1 => ∃ (ls : List Addr) (rows : List (List V)), vs = ls.map V.ref ∧ RowsAt K H1 ls rows ∧ ls ≠ [] ∧ ls.length ≤ 100000 ∧ R (ItzN K ls) H1
end Cf
/-! for i, x in enumerate(xs) -/
namespace Cf
open PySem PySem.Spec PyProof.Rows L2
open Evl (Ex)
section
variable {K : PySem.W.Frag} {t : Option Addr} {ρ : Rho} {i j : Nat} {t1 : TS} {N B C : Rho → Prop} {R : PyData → Prop}
end
end Cf
/-! signs under other names -/
namespace Cf
open PySem PySem.Spec PyProof.Rows L2
structure Pm (s : Int) (nm : List Int) : Prop where
  len : (nm.length : Int) = s
  ok : Signs s nm
  inj : ∀ a b : Int, 0 ≤ a → a < s → 0 ≤ b → b < s → itm nm a = itm nm b → a = b
  sur : ∀ d : Int, 0 ≤ d → d < s → ∃ e : Int, 0 ≤ e ∧ e < s ∧ itm nm e = d
section
variable {s : Int} {nm : List Int}
abbrev nmd (nm u : List Int) : List Int := u.map (itm nm)
theorem Pm.sign (h : Pm s nm) {d : Int} (h0 : 0 ≤ d) (h1 : d < s) : 0 ≤ itm nm d ∧ itm nm d < s := by
  have hl := h.len
  have hd : d.toNat < nm.length := by omega
  have : itm nm d = nm[d.toNat] := by
    unfold itm
    rw [List.getD_eq_getElem?_getD, List.getElem?_eq_getElem hd]
    rfl
  rw [this]
  exact h.ok _ (List.getElem_mem hd)
/-- the number of a word under other names -/
def nmN (s : Int) (nm : List Int) (l : Nat) (n : Int) : Int := num s (nmd nm (wordOf s l n))
/-- items at the numbers of the words under other names -/
def ItemsOf (s : Int) (nm : List Int) (l : Nat) (its fs : List Int) : Prop := fs.length = its.length ∧ (∀ d ∈ fs, d ∈ its) ∧ ∀ n : Int, 0 ≤ n → n < s ^ l → itm fs (nmN s nm l n) = itm its n
variable {f : Int} {w : Nat} {T fs : List Int}
end
end Cf
namespace Cf
open PySem PySem.Spec PyProof.Rows L2
open Evl (Ex)
local macro_rules | `(tactic| walk_at "d") => `(tactic| first
  | (with_reducible refine DS_seq ?_)
  | (with_reducible refine DS_if ?_)
  | (with_reducible refine DS_ret ?_)
  | (with_reducible refine DS_next ?_)
  | (with_reducible refine DS_retN ?_)
  | (with_reducible refine DS_set ?_)
  | (with_reducible refine DS_drop ?_)
  | (with_reducible refine DS_unpack ?_)
  | (with_reducible refine DS_par ?_)
  | (with_reducible refine DE_int ?_)
  | (with_reducible refine DE_bl ?_)
  | (with_reducible refine DE_non ?_)
  | (with_reducible refine DE_str ?_)
  | (with_reducible refine DE_isi ?_)
  | (with_reducible refine DE_and ?_)
  | (with_reducible refine DE_or ?_)
  | (with_reducible refine DE_not ?_)
  | (with_reducible refine DE_if ?_)
  | (with_reducible refine DE_chain ?_)
  | (with_reducible refine DE_tyIs ?_)
  | (with_reducible refine DE_tyNot ?_)
  | (with_reducible refine DE_call ?_)
  | ((with_reducible refine' DE_lenOw ?k1 ?_); (case k1 => exact rfl))
  | ((with_reducible refine' DE_reprOw ?k1 ?_); (case k1 => exact rfl))
  | ((with_reducible refine' DE_ixOw ?k1 ?_); (case k1 => exact rfl))
  | ((with_reducible refine' DE_lenOw ?k1 ?_); (case k1 => exact rfl))
  | (with_reducible refine DE_cb ?_)
  | (with_reducible refine DE_new (DL_rep (DL_lst ?_)))
  | (with_reducible refine DE_op ?_)
  | (with_reducible refine DE_un ?_)
  | (with_reducible refine DE_tup ?_)
  | (with_reducible refine DT_test ?_)
  | (with_reducible refine DT_B ?_)
  | (with_reducible refine DT_and ?_)
  | (with_reducible refine DT_or ?_)
  | (with_reducible refine DT_not ?_)
  | (with_reducible refine DT_yes ?_)
  | (with_reducible refine DA_nil ?_)
  | (with_reducible refine DA_cons ?_)
  | (with_reducible refine DO_no ?_)
  | (with_reducible refine DO_at ?_)
  | (with_reducible refine DR_minus ?_)
  | (with_reducible refine DR_mod ?_)
  | (with_reducible refine DR_div ?_)
  | (with_reducible refine DR_pow ?_)
  | (with_reducible refine DR_lt ?_)
  | (with_reducible refine DR_le ?_)
  | (with_reducible refine DR_gt ?_)
  | (with_reducible refine DR_ge ?_)
  | (with_reducible refine DR_eq ?_)
  | (with_reducible refine DR_ne ?_)
  | (with_reducible refine DR_isN ?_)
  | (with_reducible refine DR_notN ?_)
  | (with_reducible refine DU_neg ?_)
  | (with_reducible refine DC_len ?_)
  | (with_reducible refine DC_int ?_)
  | (with_reducible refine DC_abs ?_)
  | (with_reducible refine DC_max2 ?_)
  | (with_reducible refine DC_min2 ?_)
  | (with_reducible refine DC_sum ?_)
  | (with_reducible refine DC_all ?_)
  | (with_reducible refine DC_any ?_)
  | (with_reducible refine DC_repr ?_)
  | (with_reducible refine ⟨_, kb_int _, ?_⟩)
  | (with_reducible refine ⟨_, kb_bool _, ?_⟩)
  | (with_reducible refine ⟨_, kb_list _, ?_⟩)
  | (with_reducible refine ⟨_, kb_tuple _, ?_⟩)
  | (with_reducible refine ⟨_, rfl, ?_⟩)
  | (with_reducible refine ⟨_, _, rfl, rfl, ?_⟩)
  | (with_reducible refine DE_callN ?_)
  | (with_reducible refine DE_callX ?_)
  | (with_reducible refine DR_notB ?_)
  | (with_reducible refine DE_emp ?_)
  | (with_reducible refine DE_new (DL_lst ?_))
  | (with_reducible refine DE_new (DL_callF ?_))
  | (with_reducible refine DE_new (DL_sl ?_))
  | (with_reducible refine DE_slT ?_)
  | (with_reducible refine DC_list ?_)
  | ((with_reducible refine' DE_callT ?k1 ?_); (case k1 => exact rfl))
  | ((with_reducible refine' DE_var ?k1 ?_); (case k1 => exact rfl))
  | ((with_reducible refine' DE_varO ?k1 ?_); (case k1 => exact rfl))
  | ((with_reducible refine' DE_varN ?k1 ?_); (case k1 => exact rfl)))


/-! k40: the well -/
namespace Fm
def W__law_well (ds : List PyData) (R : List PyData → Prop) : Prop := ∃ (ns : List Int), ds = [LI ns] ∧ ns.length ≤ 63 ∧ ∀ x y : Int, 0 ≤ x → 0 ≤ y → y < 2 ^ 200 → R [.int x, .int y, .int 0]
def t__law_well (K : PySem.W.Frag) : TS :=
  (tSeq (tAsg (tTup (tCons (tC (.int 0)) (tCons (tC (.int 1299709)) tNil))) (gTup K 2 (gNames [1, 2])))
    (tSeq (tFor (iList K (tSl (rSlL K) (tVar 0) tNoPart (tPart (tC (.int 63))))) (gName 3)
    (tSeq (tIfS (tTest (tOp rGeI (tCB rAbsA (tCons (tVar 3) tNil)) (tOp rPowI (tC (.int 10)) (tC (.int 18)))))
    (tAsg (tOp (rPlus K) (tOp rTimes (tVar 1) (tOp rPowI (tC (.int 10)) (tC (.int 60)))) (tOp rModI (tCB rIntA (tCons (tCB rAbsA (tCons (tVar 3) tNil)) tNil)) (tOp rPowI (tC (.int 10)) (tC (.int 60))))) (gName 1))
    tNext)
    (tAsg (tOp rModI (tCB rIntA (tCons (tOp (rPlus K) (tOp (rPlus K) (tOp rTimes (tVar 2) (tC (.int 75193))) (tOp rModI (tCB rIntA (tCons (tVar 3) tNil)) (tC (.int 999999999999999877)))) (tC (.int 41))) tNil)) (tC (.int 999999999999999989))) (gName 2))))
    (tRet (tLst (tCons (tVar 1) (tCons (tVar 2) (tCons (tC (.int 0)) tNil)))))))
end Fm

end Cf
/-! a, b, c, d = x, y, z, []: through a tuple -/
namespace Cf
open PySem PySem.Spec PyProof.Rows L2
open Evl (Ex)
section
variable {K : PySem.W.Frag} {t : Option Addr} {ρ : Rho} {i j k l : Nat} {ta tb tc tl : TE} {N B C : Rho → Prop} {R : PyData → Prop}
end
end Cf
/-! a, b = x, []: through a tuple -/
namespace Cf
open PySem PySem.Spec PyProof.Rows L2
open Evl (Ex)
section
variable {K : PySem.W.Frag} {t : Option Addr} {ρ : Rho} {i l : Nat} {ta tl : TE} {N B C : Rho → Prop} {R : PyData → Prop}
end
end Cf
namespace Cf
open PySem PySem.Spec PyProof.Rows L2
open Evl (Ex)
local macro_rules | `(tactic| walk_at "d") => `(tactic| first
  | (with_reducible refine DS_seq ?_)
  | (with_reducible refine DS_if ?_)
  | (with_reducible refine DS_ret ?_)
  | (with_reducible refine DS_next ?_)
  | (with_reducible refine DS_retN ?_)
  | (with_reducible refine DS_set ?_)
  | (with_reducible refine DS_drop ?_)
  | (with_reducible refine DS_unpack ?_)
  | (with_reducible refine DS_par ?_)
  | (with_reducible refine DE_int ?_)
  | (with_reducible refine DE_bl ?_)
  | (with_reducible refine DE_non ?_)
  | (with_reducible refine DE_str ?_)
  | (with_reducible refine DE_isi ?_)
  | (with_reducible refine DE_and ?_)
  | (with_reducible refine DE_or ?_)
  | (with_reducible refine DE_not ?_)
  | (with_reducible refine DE_if ?_)
  | (with_reducible refine DE_chain ?_)
  | (with_reducible refine DE_tyIs ?_)
  | (with_reducible refine DE_tyNot ?_)
  | (with_reducible refine DE_call ?_)
  | ((with_reducible refine' DE_lenOw ?k1 ?_); (case k1 => exact rfl))
  | ((with_reducible refine' DE_reprOw ?k1 ?_); (case k1 => exact rfl))
  | ((with_reducible refine' DE_ixOw ?k1 ?_); (case k1 => exact rfl))
  | ((with_reducible refine' DE_lenOw ?k1 ?_); (case k1 => exact rfl))
  | (with_reducible refine DE_cb ?_)
  | (with_reducible refine DE_new (DL_rep (DL_lst ?_)))
  | (with_reducible refine DE_op ?_)
  | (with_reducible refine DE_un ?_)
  | (with_reducible refine DE_tup ?_)
  | (with_reducible refine DT_test ?_)
  | (with_reducible refine DT_B ?_)
  | (with_reducible refine DT_and ?_)
  | (with_reducible refine DT_or ?_)
  | (with_reducible refine DT_not ?_)
  | (with_reducible refine DT_yes ?_)
  | (with_reducible refine DA_nil ?_)
  | (with_reducible refine DA_cons ?_)
  | (with_reducible refine DO_no ?_)
  | (with_reducible refine DO_at ?_)
  | (with_reducible refine DR_minus ?_)
  | (with_reducible refine DR_mod ?_)
  | (with_reducible refine DR_div ?_)
  | (with_reducible refine DR_pow ?_)
  | (with_reducible refine DR_lt ?_)
  | (with_reducible refine DR_le ?_)
  | (with_reducible refine DR_gt ?_)
  | (with_reducible refine DR_ge ?_)
  | (with_reducible refine DR_eq ?_)
  | (with_reducible refine DR_ne ?_)
  | (with_reducible refine DR_isN ?_)
  | (with_reducible refine DR_notN ?_)
  | (with_reducible refine DU_neg ?_)
  | (with_reducible refine DC_len ?_)
  | (with_reducible refine DC_int ?_)
  | (with_reducible refine DC_abs ?_)
  | (with_reducible refine DC_max2 ?_)
  | (with_reducible refine DC_min2 ?_)
  | (with_reducible refine DC_sum ?_)
  | (with_reducible refine DC_all ?_)
  | (with_reducible refine DC_any ?_)
  | (with_reducible refine DC_repr ?_)
  | (with_reducible refine ⟨_, kb_int _, ?_⟩)
  | (with_reducible refine ⟨_, kb_bool _, ?_⟩)
  | (with_reducible refine ⟨_, kb_list _, ?_⟩)
  | (with_reducible refine ⟨_, kb_tuple _, ?_⟩)
  | (with_reducible refine ⟨_, rfl, ?_⟩)
  | (with_reducible refine ⟨_, _, rfl, rfl, ?_⟩)
  | (with_reducible refine DE_callN ?_)
  | (with_reducible refine DE_callX ?_)
  | (with_reducible refine DR_notB ?_)
  | (with_reducible refine DE_emp ?_)
  | (with_reducible refine DE_new (DL_lst ?_))
  | (with_reducible refine DE_new (DL_callF ?_))
  | (with_reducible refine DE_new (DL_sl ?_))
  | (with_reducible refine DE_slT ?_)
  | (with_reducible refine DC_list ?_)
  | ((with_reducible refine' DE_callT ?k1 ?_); (case k1 => exact rfl))
  | ((with_reducible refine' DE_var ?k1 ?_); (case k1 => exact rfl))
  | ((with_reducible refine' DE_varO ?k1 ?_); (case k1 => exact rfl))
  | ((with_reducible refine' DE_varN ?k1 ?_); (case k1 => exact rfl)))


/-! k40: names, values -/
def W__law_marks (ds : List PyData) (R : PyData → Prop) : Prop := ∃ s : Int, ds = [.int s] ∧ 2 ≤ s ∧ s ≤ 4 ∧ R (wtD s 1 (markV s))
def t__law_marks (K : PySem.W.Frag) : TS :=
  (tRet (tTup (tCons (tVar 0) (tCons (tC (.int 1)) (tCons (tLstRg (tRg1 (tVar 0))) tNil)))))
def nmD (nm : List Int) : PyData → PyData
  | .int z => .int (itm nm z)
  | _ => .none
def W__law_named (ds : List PyData) (R : PyData → Prop) : Prop := ∃ (s : Int) (nm u : List Int), ds = [LI nm, LI u] ∧ (nm.length : Int) = s ∧ Signs s u ∧ u.length ≤ 1024 ∧ R (LI (nmd nm u))
def t__law_named (K : PySem.W.Frag) : TS :=
  (tRet (tLc (iList K (tVar 1)) (gName 2) tYes (tOp (rIx K) (tVar 0) (tVar 2)) [2]))
def W__law_items (ds : List PyData) (R : PyData → Prop) : Prop := ∃ (s : Int) (nm its : List Int) (l : Nat), ds = [LI nm, LI its, .int l] ∧ Pm s nm ∧ 2 ≤ s ∧ s ≤ 4 ∧ l ≤ 10 ∧ s ^ l = (its.length : Int) ∧ its.length ≤ 1024 ∧ ∀ fs : List Int, ItemsOf s nm l its fs → R (LI fs)
def t__law_items (K : PySem.W.Frag) : TS :=
  (tSeq (tPar 3 4 (tCons (tCB (rLenA K) (tCons (tVar 0) tNil)) (tCons (tCB (rListA K) (tCons (tVar 1) tNil)) tNil)))
    (tSeq (tFor (iEnum K (tCons (tVar 1) tNil)) (gTup K 2 (gNames [5, 6]))
    (tAsg (tVar 6) (gSub (tVar 4) (tCall (spP K Mk.W__law_number) [] E0 (tCons (tVar 3) (tCons (tCall (spP K W__law_named) [] E0 (tCons (tVar 0) (tCons (tCall (spP K W__law_word) [] E0 (tCons (tVar 3) (tCons (tVar 5) (tCons (tVar 2) tNil)))) tNil))) tNil))) rSetL)))
    (tRet (tVar 4))))
def W__law_named_rule (ds : List PyData) (R : PyData → Prop) : Prop := ∃ (s : Int) (nm : List Int) (f : Int) (w : Nat) (T : List Int), ds = [LI nm, rlD s f w T] ∧ Pm s nm ∧ Rl s f w T ∧ w ≤ 10 ∧ ∀ fs : List Int, ItemsOf s nm w T fs → R (rlD s f w (nmd nm fs))
def t__law_named_rule (K : PySem.W.Frag) : TS :=
  (tRet (tTup (tCons (tOp (rIx K) (tVar 1) (tC (.int 0))) (tCons (tOp (rIx K) (tVar 1) (tC (.int 1))) (tCons (tOp (rIx K) (tVar 1) (tC (.int 2))) (tCons (tCall (spP K W__law_named) [] E0 (tCons (tVar 0) (tCons (tCall (spP K W__law_items) [] E0 (tCons (tVar 0) (tCons (tOp (rIx K) (tVar 1) (tC (.int 3))) (tCons (tOp (rIx K) (tVar 1) (tC (.int 2))) tNil)))) tNil))) tNil))))))
def W__law_values (ds : List PyData) (R : PyData → Prop) : Prop := ∃ (s : Int) (l : Nat) (vs r : List Int), ds = [wtD s l vs, LI r] ∧ Wt s l vs ∧ r ≠ [] ∧ r.length ≤ 512 ∧ Signs s r ∧ R (LI ((List.range r.length).map fun (c : Nat) => val s l vs r c))
def t__law_values (K : PySem.W.Frag) : TS :=
  (tSeq (tAsg (tTup (tCons (tCB (rLenA K) (tCons (tVar 1) tNil)) (tCons (tLst tNil) tNil))) (gTup K 2 (gNames [2, 3])))
    (tSeq (tFor (iRg1 (tCons (tVar 2) tNil)) (gName 4)
    (tSeq (tAsg (tLc (iRg1 (tCons (tOp (rIx K) (tVar 0) (tC (.int 1))) tNil)) (gName 6) tYes (tOp (rIx K) (tVar 1) (tOp rModI (tCB rIntA (tCons (tOp (rPlus K) (tVar 4) (tVar 6)) tNil)) (tVar 2))) [6]) (gName 5))
    (tDrop (tBM K "list" rAppend (tVar 3) (tCons (tOp (rIx K) (tOp (rIx K) (tVar 0) (tC (.int 2))) (tCall (spP K Mk.W__law_number) [] E0 (tCons (tOp (rIx K) (tVar 0) (tC (.int 0))) (tCons (tVar 5) tNil)))) tNil)))))
    (tRet (tVar 3))))
end Cf
namespace Cf
open PySem PySem.Spec PyProof.Rows L2
open Evl (Ex)
local macro_rules | `(tactic| walk_at "d") => `(tactic| first
  | (with_reducible refine DS_seq ?_)
  | (with_reducible refine DS_if ?_)
  | (with_reducible refine DS_ret ?_)
  | (with_reducible refine DS_next ?_)
  | (with_reducible refine DS_retN ?_)
  | (with_reducible refine DS_set ?_)
  | (with_reducible refine DS_drop ?_)
  | (with_reducible refine DS_unpack ?_)
  | (with_reducible refine DS_par ?_)
  | (with_reducible refine DE_int ?_)
  | (with_reducible refine DE_bl ?_)
  | (with_reducible refine DE_non ?_)
  | (with_reducible refine DE_str ?_)
  | (with_reducible refine DE_isi ?_)
  | (with_reducible refine DE_and ?_)
  | (with_reducible refine DE_or ?_)
  | (with_reducible refine DE_not ?_)
  | (with_reducible refine DE_if ?_)
  | (with_reducible refine DE_chain ?_)
  | (with_reducible refine DE_tyIs ?_)
  | (with_reducible refine DE_tyNot ?_)
  | (with_reducible refine DE_call ?_)
  | ((with_reducible refine' DE_lenOw ?k1 ?_); (case k1 => exact rfl))
  | ((with_reducible refine' DE_reprOw ?k1 ?_); (case k1 => exact rfl))
  | ((with_reducible refine' DE_ixOw ?k1 ?_); (case k1 => exact rfl))
  | ((with_reducible refine' DE_lenOw ?k1 ?_); (case k1 => exact rfl))
  | (with_reducible refine DE_cb ?_)
  | (with_reducible refine DE_new (DL_rep (DL_lst ?_)))
  | (with_reducible refine DE_op ?_)
  | (with_reducible refine DE_un ?_)
  | (with_reducible refine DE_tup ?_)
  | (with_reducible refine DT_test ?_)
  | (with_reducible refine DT_B ?_)
  | (with_reducible refine DT_and ?_)
  | (with_reducible refine DT_or ?_)
  | (with_reducible refine DT_not ?_)
  | (with_reducible refine DT_yes ?_)
  | (with_reducible refine DA_nil ?_)
  | (with_reducible refine DA_cons ?_)
  | (with_reducible refine DO_no ?_)
  | (with_reducible refine DO_at ?_)
  | (with_reducible refine DR_minus ?_)
  | (with_reducible refine DR_mod ?_)
  | (with_reducible refine DR_div ?_)
  | (with_reducible refine DR_pow ?_)
  | (with_reducible refine DR_lt ?_)
  | (with_reducible refine DR_le ?_)
  | (with_reducible refine DR_gt ?_)
  | (with_reducible refine DR_ge ?_)
  | (with_reducible refine DR_eq ?_)
  | (with_reducible refine DR_ne ?_)
  | (with_reducible refine DR_isN ?_)
  | (with_reducible refine DR_notN ?_)
  | (with_reducible refine DU_neg ?_)
  | (with_reducible refine DC_len ?_)
  | (with_reducible refine DC_int ?_)
  | (with_reducible refine DC_abs ?_)
  | (with_reducible refine DC_max2 ?_)
  | (with_reducible refine DC_min2 ?_)
  | (with_reducible refine DC_sum ?_)
  | (with_reducible refine DC_all ?_)
  | (with_reducible refine DC_any ?_)
  | (with_reducible refine DC_repr ?_)
  | (with_reducible refine ⟨_, kb_int _, ?_⟩)
  | (with_reducible refine ⟨_, kb_bool _, ?_⟩)
  | (with_reducible refine ⟨_, kb_list _, ?_⟩)
  | (with_reducible refine ⟨_, kb_tuple _, ?_⟩)
  | (with_reducible refine ⟨_, rfl, ?_⟩)
  | (with_reducible refine ⟨_, _, rfl, rfl, ?_⟩)
  | (with_reducible refine DE_callN ?_)
  | (with_reducible refine DE_callX ?_)
  | (with_reducible refine DR_notB ?_)
  | (with_reducible refine DE_emp ?_)
  | (with_reducible refine DE_new (DL_lst ?_))
  | (with_reducible refine DE_new (DL_callF ?_))
  | (with_reducible refine DE_new (DL_sl ?_))
  | (with_reducible refine DE_slT ?_)
  | (with_reducible refine DC_list ?_)
  | ((with_reducible refine' DE_callT ?k1 ?_); (case k1 => exact rfl))
  | ((with_reducible refine' DE_var ?k1 ?_); (case k1 => exact rfl))
  | ((with_reducible refine' DE_varO ?k1 ?_); (case k1 => exact rfl))
  | ((with_reducible refine' DE_varN ?k1 ?_); (case k1 => exact rfl)))


/-! k40: one rule and then another one -/
/-- which cases there are -/
structure Cs (f1 : Int) (w1 : Nat) (f2 : Int) (w2 l : Nat) : Prop where
  l1 : 1 ≤ l
  l2 : l ≤ 2
  h : (w1 = 1 ∧ w2 = 1 ∧ -1 ≤ f1 ∧ f1 ≤ 1 ∧ -1 ≤ f2 ∧ f2 ≤ 1) ∨ (l = 1 ∧ ((w1 = 3 ∧ w2 = 1 ∧ -2 ≤ f1 ∧ f1 ≤ 0 ∧ -1 ≤ f2 ∧ f2 ≤ 1) ∨ (w1 = 1 ∧ w2 = 3 ∧ -1 ≤ f1 ∧ f1 ≤ 1 ∧ -2 ≤ f2 ∧ f2 ≤ 0) ∨ (w1 = 3 ∧ w2 = 3 ∧ -2 ≤ f1 ∧ f1 ≤ 0 ∧ -2 ≤ f2 ∧ f2 ≤ 0)))
section
variable {s f1 f2 : Int} {w1 w2 l : Nat}
end
def W__law_composed_right (ds : List PyData) (R : PyData → Prop) : Prop := ∃ (s f1 : Int) (w1 : Nat) (T1 : List Int) (f2 : Int) (w2 : Nat) (T2 : List Int) (l : Nat) (vs r : List Int), ds = [rlD s f1 w1 T1, rlD s f2 w2 T2, wtD s l vs, LI r] ∧ Rl s f1 w1 T1 ∧ Rl s f2 w2 T2 ∧ Wt s l vs ∧ Kq s f1 w1 T1 l vs ∧ Kq s f2 w2 T2 l vs ∧ Cs f1 w1 f2 w2 l ∧ Rg s r ∧ R (.bool true)
def t__law_composed_right (K : PySem.W.Frag) : TS :=
  (tSeq (tPar 4 5 (tCons (tCall (spN K W_composed) [] E0 (tCons (tVar 0) (tCons (tVar 1) tNil))) (tCons (tCall (spP K W_ticked) [] E0 (tCons (tVar 0) (tCons (tVar 3) (tCons (tC (.int 1)) tNil)))) tNil)))
    (tSeq (tPar 6 7 (tCons (tCall (spP K W_passing) [] E0 (tCons (tVar 0) (tCons (tVar 2) (tCons (tVar 3) tNil)))) (tCons (tCall (spP K W_passing) [] E0 (tCons (tVar 1) (tCons (tVar 2) (tCons (tVar 5) tNil)))) tNil)))
    (tSeq (tAsg (tOp (rIx K) (tCall (spP K W_passing) [] E0 (tCons (tVar 1) (tCons (tVar 2) (tCons (tCall (spP K W_ticked) [] E0 (tCons (tVar 0) (tCons (tLst (tCons (tC (.int 0)) tNil)) (tCons (tC (.int 1)) tNil)))) tNil)))) (tC (.int 0))) (gName 8))
    (tSeq (tIfS (tTest (tOp rNotB (tCall (spP K W_is_kept) [] E0 (tCons (tVar 4) (tCons (tVar 2) tNil))) (tC (.bl true))))
    (tRet (tC (.bl false)))
    tNext)
    (tRet (tOp (rEqU K) (tCall (spP K W_passing) [] E0 (tCons (tVar 4) (tCons (tVar 2) (tCons (tVar 3) tNil)))) (tLc (iZip K (tCons (tVar 6) (tCons (tVar 7) tNil))) (gTup K 2 (gNames [9, 10])) tYes (tOp rMinus (tOp (rPlus K) (tVar 9) (tVar 10)) (tVar 8)) [9, 10])))))))
end Cf
/-! k40: alike weights -/
namespace Cf
open PySem PySem.Spec PyProof.Rows L2
def widT (s : Int) (hs : List Int) : List Int := (List.range (s * s).toNat).map fun (n : Nat) => itm hs ((n : Int) / s) - itm hs ((n : Int) % s)
section
variable {s : Int}
end
end Cf
/-! rings apart -/
namespace Cf
open PySem PySem.Spec PyProof.Rows L2
end Cf
/-! an own list is only looked at within an expression whose value is a number -/
namespace Cf
open PySem PySem.Spec PyProof.Rows L2
open Evl (Ex)
section
variable {K : PySem.W.Frag} {t : Option Addr} {ρ : Rho} {i : Nat} {te : TE}
/-- numbers, texts, True and False, None: what lies in no frozen part -/
def flatD : PyData → Bool
  | .int _ => true
  | .str _ => true
  | .bool _ => true
  | .none => true
  | _ => false
end
end Cf
namespace Cf
open PySem PySem.Spec PyProof.Rows L2
open Evl (Ex)
local macro_rules | `(tactic| walk_at "d") => `(tactic| first
  | (with_reducible refine DS_seq ?_)
  | (with_reducible refine DS_if ?_)
  | (with_reducible refine DS_ret ?_)
  | (with_reducible refine DS_next ?_)
  | (with_reducible refine DS_retN ?_)
  | (with_reducible refine DS_set ?_)
  | (with_reducible refine DS_drop ?_)
  | (with_reducible refine DS_unpack ?_)
  | (with_reducible refine DS_par ?_)
  | (with_reducible refine DE_int ?_)
  | (with_reducible refine DE_bl ?_)
  | (with_reducible refine DE_non ?_)
  | (with_reducible refine DE_str ?_)
  | (with_reducible refine DE_isi ?_)
  | (with_reducible refine DE_and ?_)
  | (with_reducible refine DE_or ?_)
  | (with_reducible refine DE_not ?_)
  | (with_reducible refine DE_if ?_)
  | (with_reducible refine DE_chain ?_)
  | (with_reducible refine DE_tyIs ?_)
  | (with_reducible refine DE_tyNot ?_)
  | (with_reducible refine DE_call ?_)
  | ((with_reducible refine' DE_lenOw ?k1 ?_); (case k1 => exact rfl))
  | ((with_reducible refine' DE_reprOw ?k1 ?_); (case k1 => exact rfl))
  | ((with_reducible refine' DE_ixOw ?k1 ?_); (case k1 => exact rfl))
  | ((with_reducible refine' DE_lenOw ?k1 ?_); (case k1 => exact rfl))
  | (with_reducible refine DE_cb ?_)
  | (with_reducible refine DE_new (DL_rep (DL_lst ?_)))
  | (with_reducible refine DE_op ?_)
  | (with_reducible refine DE_un ?_)
  | (with_reducible refine DE_tup ?_)
  | (with_reducible refine DT_test ?_)
  | (with_reducible refine DT_B ?_)
  | (with_reducible refine DT_and ?_)
  | (with_reducible refine DT_or ?_)
  | (with_reducible refine DT_not ?_)
  | (with_reducible refine DT_yes ?_)
  | (with_reducible refine DA_nil ?_)
  | (with_reducible refine DA_cons ?_)
  | (with_reducible refine DO_no ?_)
  | (with_reducible refine DO_at ?_)
  | (with_reducible refine DR_minus ?_)
  | (with_reducible refine DR_mod ?_)
  | (with_reducible refine DR_div ?_)
  | (with_reducible refine DR_pow ?_)
  | (with_reducible refine DR_lt ?_)
  | (with_reducible refine DR_le ?_)
  | (with_reducible refine DR_gt ?_)
  | (with_reducible refine DR_ge ?_)
  | (with_reducible refine DR_eq ?_)
  | (with_reducible refine DR_ne ?_)
  | (with_reducible refine DR_isN ?_)
  | (with_reducible refine DR_notN ?_)
  | (with_reducible refine DU_neg ?_)
  | (with_reducible refine DC_len ?_)
  | (with_reducible refine DC_int ?_)
  | (with_reducible refine DC_abs ?_)
  | (with_reducible refine DC_max2 ?_)
  | (with_reducible refine DC_min2 ?_)
  | (with_reducible refine DC_sum ?_)
  | (with_reducible refine DC_all ?_)
  | (with_reducible refine DC_any ?_)
  | (with_reducible refine DC_repr ?_)
  | (with_reducible refine ⟨_, kb_int _, ?_⟩)
  | (with_reducible refine ⟨_, kb_bool _, ?_⟩)
  | (with_reducible refine ⟨_, kb_list _, ?_⟩)
  | (with_reducible refine ⟨_, kb_tuple _, ?_⟩)
  | (with_reducible refine ⟨_, rfl, ?_⟩)
  | (with_reducible refine ⟨_, _, rfl, rfl, ?_⟩)
  | (with_reducible refine DE_callN ?_)
  | (with_reducible refine DE_callX ?_)
  | (with_reducible refine DR_notB ?_)
  | (with_reducible refine DE_emp ?_)
  | (with_reducible refine DE_new (DL_lst ?_))
  | (with_reducible refine DE_new (DL_callF ?_))
  | (with_reducible refine DE_new (DL_sl ?_))
  | (with_reducible refine DE_slT ?_)
  | (with_reducible refine DC_list ?_)
  | ((with_reducible refine' DE_callT ?k1 ?_); (case k1 => exact rfl))
  | ((with_reducible refine' DE_var ?k1 ?_); (case k1 => exact rfl))
  | ((with_reducible refine' DE_varO ?k1 ?_); (case k1 => exact rfl))
  | ((with_reducible refine' DE_varN ?k1 ?_); (case k1 => exact rfl)))


/-! rings apart: the program's -/
/-- None if all rings have alike sums; a ring with unlike ones otherwise -/
def W_apart_ring (ds : List PyData) (R : PyData → Prop) : Prop := ∃ (s : Int) (a b : Nat) (xs ys : List Int), ds = [wtD s a xs, wtD s b ys] ∧ Wt s a xs ∧ Wt s b ys ∧ ((∀ r : List Int, r ≠ [] → Signs s r → ringSum s a xs r = ringSum s b ys r) → R .none) ∧ ∀ r : List Int, Rg s r → ringSum s a xs r ≠ ringSum s b ys r → R (LI r)
def t_apart_ring (K : PySem.W.Frag) : TS :=
  (tSeq (tAsg (tCall (spN K W_plain) [] E0 (tCons (tCall (spN K W_added) [] E0 (tCons (tVar 0) (tCons (tVar 1) (tCons (tUn rNegI (tC (.int 1))) tNil)))) tNil)) (gName 2))
    (tSeq (tAsg (tVar 2) (gTup K 3 (gNames [3, 4, 5])))
    (tSeq (tAsg (tLc (iEnum K (tCons (tVar 5) tNil)) (gTup K 2 (gNames [7, 8])) (tTest (tOp (rNeU K) (tVar 8) (tC (.int 0)))) (tVar 7) [7, 8]) (gName 6))
    (tSeq (tIfS (tNot (tTru K (tVar 6)))
    (tRet (tC .non))
    tNext)
    (tSeq (tAsg (tOp (rPlus K) (tCall (spP K W_word_at) [] E0 (tCons (tVar 3) (tCons (tVar 4) (tCons (tOp (rIx K) (tVar 6) (tC (.int 0))) tNil)))) (tOp rTimes (tLst (tCons (tC (.int 0)) tNil)) (tOp rMinus (tVar 4) (tC (.int 1))))) (gName 9))
    (tSeq (tIfS (tTest (tOp (rEqU K) (tCall (spP K W_ring_sum) [] E0 (tCons (tVar 2) (tCons (tVar 9) tNil))) (tC (.int 0))))
    (tAsg (tC (.int 0)) (gSub (tVar 9) (tC (.int 0)) rSetL))
    tNext)
    (tRet (tVar 9))))))))
end Cf
namespace Cf
open PySem PySem.Spec PyProof.Rows L2
open Evl (Ex)
local macro_rules | `(tactic| walk_at "d") => `(tactic| first
  | (with_reducible refine DS_seq ?_)
  | (with_reducible refine DS_if ?_)
  | (with_reducible refine DS_ret ?_)
  | (with_reducible refine DS_next ?_)
  | (with_reducible refine DS_retN ?_)
  | (with_reducible refine DS_set ?_)
  | (with_reducible refine DS_drop ?_)
  | (with_reducible refine DS_unpack ?_)
  | (with_reducible refine DS_par ?_)
  | (with_reducible refine DE_int ?_)
  | (with_reducible refine DE_bl ?_)
  | (with_reducible refine DE_non ?_)
  | (with_reducible refine DE_str ?_)
  | (with_reducible refine DE_isi ?_)
  | (with_reducible refine DE_and ?_)
  | (with_reducible refine DE_or ?_)
  | (with_reducible refine DE_not ?_)
  | (with_reducible refine DE_if ?_)
  | (with_reducible refine DE_chain ?_)
  | (with_reducible refine DE_tyIs ?_)
  | (with_reducible refine DE_tyNot ?_)
  | (with_reducible refine DE_call ?_)
  | ((with_reducible refine' DE_lenOw ?k1 ?_); (case k1 => exact rfl))
  | ((with_reducible refine' DE_reprOw ?k1 ?_); (case k1 => exact rfl))
  | ((with_reducible refine' DE_ixOw ?k1 ?_); (case k1 => exact rfl))
  | ((with_reducible refine' DE_lenOw ?k1 ?_); (case k1 => exact rfl))
  | (with_reducible refine DE_cb ?_)
  | (with_reducible refine DE_new (DL_rep (DL_lst ?_)))
  | (with_reducible refine DE_op ?_)
  | (with_reducible refine DE_un ?_)
  | (with_reducible refine DE_tup ?_)
  | (with_reducible refine DT_test ?_)
  | (with_reducible refine DT_B ?_)
  | (with_reducible refine DT_and ?_)
  | (with_reducible refine DT_or ?_)
  | (with_reducible refine DT_not ?_)
  | (with_reducible refine DT_yes ?_)
  | (with_reducible refine DA_nil ?_)
  | (with_reducible refine DA_cons ?_)
  | (with_reducible refine DO_no ?_)
  | (with_reducible refine DO_at ?_)
  | (with_reducible refine DR_minus ?_)
  | (with_reducible refine DR_mod ?_)
  | (with_reducible refine DR_div ?_)
  | (with_reducible refine DR_pow ?_)
  | (with_reducible refine DR_lt ?_)
  | (with_reducible refine DR_le ?_)
  | (with_reducible refine DR_gt ?_)
  | (with_reducible refine DR_ge ?_)
  | (with_reducible refine DR_eq ?_)
  | (with_reducible refine DR_ne ?_)
  | (with_reducible refine DR_isN ?_)
  | (with_reducible refine DR_notN ?_)
  | (with_reducible refine DU_neg ?_)
  | (with_reducible refine DC_len ?_)
  | (with_reducible refine DC_int ?_)
  | (with_reducible refine DC_abs ?_)
  | (with_reducible refine DC_max2 ?_)
  | (with_reducible refine DC_min2 ?_)
  | (with_reducible refine DC_sum ?_)
  | (with_reducible refine DC_all ?_)
  | (with_reducible refine DC_any ?_)
  | (with_reducible refine DC_repr ?_)
  | (with_reducible refine ⟨_, kb_int _, ?_⟩)
  | (with_reducible refine ⟨_, kb_bool _, ?_⟩)
  | (with_reducible refine ⟨_, kb_list _, ?_⟩)
  | (with_reducible refine ⟨_, kb_tuple _, ?_⟩)
  | (with_reducible refine ⟨_, rfl, ?_⟩)
  | (with_reducible refine ⟨_, _, rfl, rfl, ?_⟩)
  | (with_reducible refine DE_callN ?_)
  | (with_reducible refine DE_callX ?_)
  | (with_reducible refine DR_notB ?_)
  | (with_reducible refine DE_emp ?_)
  | (with_reducible refine DE_new (DL_lst ?_))
  | (with_reducible refine DE_new (DL_callF ?_))
  | (with_reducible refine DE_new (DL_sl ?_))
  | (with_reducible refine DE_slT ?_)
  | (with_reducible refine DC_list ?_)
  | ((with_reducible refine' DE_callT ?k1 ?_); (case k1 => exact rfl))
  | ((with_reducible refine' DE_var ?k1 ?_); (case k1 => exact rfl))
  | ((with_reducible refine' DE_varO ?k1 ?_); (case k1 => exact rfl))
  | ((with_reducible refine' DE_varN ?k1 ?_); (case k1 => exact rfl)))


/-! k07: the form, an alike weight, what is told, what is apart -/
def W__law_has_form (ds : List PyData) (R : PyData → Prop) : Prop := ∃ (s : Int) (l : Nat) (vs : List Int), ds = [wtD s l vs] ∧ Wt s l vs ∧ ZeroB s l vs ∧ (l = 1 ∨ lastM s vs = true) ∧ R (.bool true)
def t__law_has_form (K : PySem.W.Frag) : TS :=
  (tSeq (tAsg (tVar 0) (gTup K 3 (gNames [1, 2, 3])))
    (tSeq (tAsg (tSl (rSlL K) (tVar 3) tNoPart (tPart (tOp rDivI (tCB (rLenA K) (tCons (tVar 3) tNil)) (tVar 1)))) (gName 4))
    (tSeq (tIfS (tTest (tOp (rNeU K) (tVar 4) (tOp rTimes (tLst (tCons (tOp (rIx K) (tVar 4) (tC (.int 0))) tNil)) (tCB (rLenA K) (tCons (tVar 4) tNil)))))
    (tRet (tC (.bl false)))
    tNext)
    (tRet (tOrV (tOp (rEqU K) (tVar 2) (tC (.int 1))) (tOp (rNeU K) (tCall (spP K W__law_uneven) [] E0 (tCons (tVar 1) (tCons (tVar 3) tNil))) (tLst tNil)))))))
def W__law_alike (ds : List PyData) (R : PyData → Prop) : Prop := ∃ (s : Int) (l : Nat) (vs : List Int) (top : Int), ds = [wtD s l vs, .int top] ∧ Wt s l vs ∧ 0 ≤ top ∧ top ≤ 10 ^ 26 ∧
  ∀ (l' : Nat) (us : List Int), Wt s l' us → (s ^ l' ≤ 256 ∨ l' = l) → (∀ r : List Int, r ≠ [] → Signs s r → ringSum s l' us r = ringSum s l vs r) → (∀ u ∈ us, ∃ v ∈ vs, v - 2 * top ≤ u ∧ u ≤ v + 2 * top) → R (wtD s l' us)
def t__law_alike (K : PySem.W.Frag) : TS :=
  (tSeq (tAsg (tVar 1) (gTup K 3 (gNames [3, 4, 5])))
    (tSeq (tIfS (tAnd (tTest (tOp (rEqU K) (tCall (spT K W__law_draw) [] E0 (tCons (tVar 0) (tCons (tC (.int 2)) tNil))) (tC (.int 0)))) (tTest (tOp rLeI (tOp rTimes (tCB (rLenA K) (tCons (tVar 5) tNil)) (tVar 3)) (tC (.int 256)))))
    (tAsg (tTup (tCons (tOp (rPlus K) (tVar 4) (tC (.int 1))) (tCons (tLc (iRg1 (tCons (tOp rTimes (tCB (rLenA K) (tCons (tVar 5) tNil)) (tVar 3)) tNil)) (gName 6) tYes (tOp (rIx K) (tVar 5) (tOp rDivI (tVar 6) (tVar 3))) [6]) tNil))) (gTup K 2 (gNames [4, 5])))
    tNext)
    (tSeq (tAsg (tCall (spP K W__law_many) [] E0 (tCons (tVar 3) (tCons (tOp rMinus (tVar 4) (tC (.int 1))) tNil))) (gName 7))
    (tSeq (tAsg (tLc (iRg1 (tCons (tVar 7) tNil)) (gName 6) tYes (tOp rMinus (tCall (spT K W__law_draw) [] E0 (tCons (tVar 0) (tCons (tOp (rPlus K) (tOp rTimes (tC (.int 2)) (tVar 2)) (tC (.int 1))) tNil))) (tVar 2)) [6]) (gName 8))
    (tSeq (tAsg (tLc (iRg1 (tCons (tCB (rLenA K) (tCons (tVar 5) tNil)) tNil)) (gName 10) tYes (tOp rMinus (tOp (rPlus K) (tOp (rIx K) (tVar 5) (tVar 10)) (tOp (rIx K) (tVar 8) (tOp rDivI (tVar 10) (tVar 3)))) (tOp (rIx K) (tVar 8) (tOp rModI (tCB rIntA (tCons (tVar 10) tNil)) (tVar 7)))) [10]) (gName 9))
    (tRet (tTup (tCons (tVar 3) (tCons (tVar 4) (tCons (tVar 9) tNil))))))))))
end Cf
namespace Cf
open PySem PySem.Spec PyProof.Rows L2
open Evl (Ex)
local macro_rules | `(tactic| walk_at "d") => `(tactic| first
  | (with_reducible refine DS_seq ?_)
  | (with_reducible refine DS_if ?_)
  | (with_reducible refine DS_ret ?_)
  | (with_reducible refine DS_next ?_)
  | (with_reducible refine DS_retN ?_)
  | (with_reducible refine DS_set ?_)
  | (with_reducible refine DS_drop ?_)
  | (with_reducible refine DS_unpack ?_)
  | (with_reducible refine DS_par ?_)
  | (with_reducible refine DE_int ?_)
  | (with_reducible refine DE_bl ?_)
  | (with_reducible refine DE_non ?_)
  | (with_reducible refine DE_str ?_)
  | (with_reducible refine DE_isi ?_)
  | (with_reducible refine DE_and ?_)
  | (with_reducible refine DE_or ?_)
  | (with_reducible refine DE_not ?_)
  | (with_reducible refine DE_if ?_)
  | (with_reducible refine DE_chain ?_)
  | (with_reducible refine DE_tyIs ?_)
  | (with_reducible refine DE_tyNot ?_)
  | (with_reducible refine DE_call ?_)
  | ((with_reducible refine' DE_lenOw ?k1 ?_); (case k1 => exact rfl))
  | ((with_reducible refine' DE_reprOw ?k1 ?_); (case k1 => exact rfl))
  | ((with_reducible refine' DE_ixOw ?k1 ?_); (case k1 => exact rfl))
  | ((with_reducible refine' DE_lenOw ?k1 ?_); (case k1 => exact rfl))
  | (with_reducible refine DE_cb ?_)
  | (with_reducible refine DE_new (DL_rep (DL_lst ?_)))
  | (with_reducible refine DE_op ?_)
  | (with_reducible refine DE_un ?_)
  | (with_reducible refine DE_tup ?_)
  | (with_reducible refine DT_test ?_)
  | (with_reducible refine DT_B ?_)
  | (with_reducible refine DT_and ?_)
  | (with_reducible refine DT_or ?_)
  | (with_reducible refine DT_not ?_)
  | (with_reducible refine DT_yes ?_)
  | (with_reducible refine DA_nil ?_)
  | (with_reducible refine DA_cons ?_)
  | (with_reducible refine DO_no ?_)
  | (with_reducible refine DO_at ?_)
  | (with_reducible refine DR_minus ?_)
  | (with_reducible refine DR_mod ?_)
  | (with_reducible refine DR_div ?_)
  | (with_reducible refine DR_pow ?_)
  | (with_reducible refine DR_lt ?_)
  | (with_reducible refine DR_le ?_)
  | (with_reducible refine DR_gt ?_)
  | (with_reducible refine DR_ge ?_)
  | (with_reducible refine DR_eq ?_)
  | (with_reducible refine DR_ne ?_)
  | (with_reducible refine DR_isN ?_)
  | (with_reducible refine DR_notN ?_)
  | (with_reducible refine DU_neg ?_)
  | (with_reducible refine DC_len ?_)
  | (with_reducible refine DC_int ?_)
  | (with_reducible refine DC_abs ?_)
  | (with_reducible refine DC_max2 ?_)
  | (with_reducible refine DC_min2 ?_)
  | (with_reducible refine DC_sum ?_)
  | (with_reducible refine DC_all ?_)
  | (with_reducible refine DC_any ?_)
  | (with_reducible refine DC_repr ?_)
  | (with_reducible refine ⟨_, kb_int _, ?_⟩)
  | (with_reducible refine ⟨_, kb_bool _, ?_⟩)
  | (with_reducible refine ⟨_, kb_list _, ?_⟩)
  | (with_reducible refine ⟨_, kb_tuple _, ?_⟩)
  | (with_reducible refine ⟨_, rfl, ?_⟩)
  | (with_reducible refine ⟨_, _, rfl, rfl, ?_⟩)
  | (with_reducible refine DE_callN ?_)
  | (with_reducible refine DE_callX ?_)
  | (with_reducible refine DR_notB ?_)
  | (with_reducible refine DE_emp ?_)
  | (with_reducible refine DE_new (DL_lst ?_))
  | (with_reducible refine DE_new (DL_callF ?_))
  | (with_reducible refine DE_new (DL_sl ?_))
  | (with_reducible refine DE_slT ?_)
  | (with_reducible refine DC_list ?_)
  | ((with_reducible refine' DE_callT ?k1 ?_); (case k1 => exact rfl))
  | ((with_reducible refine' DE_var ?k1 ?_); (case k1 => exact rfl))
  | ((with_reducible refine' DE_varO ?k1 ?_); (case k1 => exact rfl))
  | ((with_reducible refine' DE_varN ?k1 ?_); (case k1 => exact rfl)))


/-! k08: the greatest common divisor, by the law; weights added, by the law -/
theorem gcd_same {s : Int} (h : 0 < s) {a b : Nat} {us ts : List Int} (a1 : 1 ≤ a) (b1 : 1 ≤ b) (ha : s ^ a = (us.length : Int)) (hb : s ^ b = (ts.length : Int)) (za : ZeroB s a us) (zb : ZeroB s b ts)
    (hs : ∀ r : List Int, r ≠ [] → Signs s r → ringSum s a us r = ringSum s b ts r) : gcdL us = gcdL ts :=
  gcdL_eq (fun d hd => value_dvd h b1 hb zb fun r hr _ sr => by
      rw [← hs r hr sr]
      exact ring_dvd h ha hr sr hd)
    fun d hd => value_dvd h a1 ha za fun r hr _ sr => by
      rw [hs r hr sr]
      exact ring_dvd h hb hr sr hd
theorem gcdF_mul (t g v : Int) : gcdF ((t.natAbs : Int) * g) (t * v) = (t.natAbs : Int) * gcdF g v := by
  unfold gcdF
  rw [Int.natAbs_mul, Int.natAbs_mul, Int.natAbs_natCast, Nat.gcd_mul_left]
  push_cast
  rfl
theorem gcd_fold_mul (t : Int) : ∀ (vs : List Int) (g : Int), (vs.map fun v => t * v).foldl gcdF ((t.natAbs : Int) * g) = (t.natAbs : Int) * vs.foldl gcdF g
  | [], g => rfl
  | v :: vs, g => by
    rw [List.map_cons, List.foldl_cons, List.foldl_cons, gcdF_mul, gcd_fold_mul t vs]
theorem gcdL_mul (t : Int) (vs : List Int) : gcdL (vs.map fun v => t * v) = (t.natAbs : Int) * gcdL vs := by
  have := gcd_fold_mul t vs 0
  rw [Int.mul_zero] at this
  exact this
theorem itm_scale (t : Int) (vs : List Int) (n : Int) : itm (vs.map fun v => t * v) n = t * itm vs n := by
  unfold itm
  rw [List.getD_eq_getElem?_getD, List.getD_eq_getElem?_getD, List.getElem?_map]
  cases vs[n.toNat]? with
  | none => simp
  | some v => rfl
theorem sum_scale (t : Int) {f : Nat → Int} : ∀ ks : List Nat, (ks.map fun c => t * f c).sum = t * (ks.map f).sum
  | [] => by simp
  | k :: ks => by
    rw [List.map_cons, List.map_cons, List.sum_cons, List.sum_cons, sum_scale t ks, Int.mul_add]
theorem ring_scale (s t : Int) (l : Nat) (vs r : List Int) : ringSum s l (vs.map fun v => t * v) r = t * ringSum s l vs r := by
  rw [ringSum_val, ringSum_val, ← sum_scale]
  congr 1
  refine List.map_congr_left fun c _ => ?_
  show itm (vs.map fun v => t * v) _ = t * itm vs _
  exact itm_scale t vs _
/-- the divisor of a weight times t -/
theorem gcd_times {s t : Int} {l : Nat} {vs : List Int} (hw : Wt s l vs) : gcdL (plainOf s l (vs.map fun v => t * v)).2 = (t.natAbs : Int) * gcdL (plainOf s l vs).2 := by
  have h : 0 < s := by have := hw.s2; omega
  have hw2 : Wt s l (vs.map fun v => t * v) := ⟨hw.s2, hw.s4, hw.l1, hw.le, by rw [List.length_map]; exact hw.ln⟩
  obtain ⟨w1, l1, z1, q1⟩ := plain_ok hw
  obtain ⟨w2, l2, z2, q2⟩ := plain_ok hw2
  rw [← gcdL_mul]
  refine gcd_same h w2.l1 w1.l1 w2.ln (by rw [List.length_map]; exact w1.ln) z2 (fun n n0 n1 => by rw [itm_scale, itm_scale, z1 n n0 n1]) fun r hr hs => ?_
  rw [q2 r hr hs, ring_scale, ring_scale, q1 r hr hs]
/-- no ring has a sum: the divisor is 0 -/
theorem gcd_none {s : Int} {l : Nat} {vs : List Int} (hw : Wt s l vs) (hz : ∀ r : List Int, r ≠ [] → Signs s r → ringSum s l vs r = 0) : gcdL (plainOf s l vs).2 = 0 := by
  have h : 0 < s := by have := hw.s2; omega
  obtain ⟨w1, l1, z1, q1⟩ := plain_ok hw
  have : (0 : Int) ∣ gcdL (plainOf s l vs).2 := gcdL_dvd.mpr (value_dvd h w1.l1 w1.ln z1 fun r hr _ sr => by
    rw [q1 r hr sr, hz r hr sr]
    exact ⟨0, rfl⟩)
  obtain ⟨c, hc⟩ := this
  omega
theorem abs_if8 (a : Int) : (if a < 0 then -a else a) = (a.natAbs : Int) := by split <;> omega
def W__law_common (ds : List PyData) (R : PyData → Prop) : Prop := ∃ xs : List Int, ds = [LI xs] ∧ R (.int (gcdL xs))
def t__law_common (K : PySem.W.Frag) : TS :=
  (tSeq (tAsg (tC (.int 0)) (gName 1))
    (tSeq (tFor (iList K (tVar 0)) (gName 2)
    (tSeq (tPar 3 4 (tCons (tCB rAbsA (tCons (tVar 2) tNil)) (tCons (tVar 1) tNil)))
    (tSeq (tWhile (tTest (tOp (rNeU K) (tVar 4) (tC (.int 0))))
    (tPar 3 4 (tCons (tVar 4) (tCons (tOp rModI (tCB rIntA (tCons (tVar 3) tNil)) (tVar 4)) tNil))))
    (tAsg (tVar 3) (gName 1)))))
    (tRet (tVar 1))))
theorem ds__law_common : Keeps W__law_common 5 t__law_common := by
  intro K ds R h
  obtain ⟨xs, rfl, q⟩ := h
  refine ⟨by simp, ?_⟩
  show DS K _ (t__law_common K) [.sh (LI xs), .no, .no, .no, .no] _ _ _ _
  unfold t__law_common
  repeat walk_at "d"
  refine DS_forL ?_
  repeat walk_at "d"
  refine ⟨fun k ρ => ∃ z2 z3 z4, ρ = [.sh (LI xs), .sh (.int (gcdL (xs.take k))), z2, z3, z4], ⟨.no, .no, .no, rfl⟩, ?_, ?_⟩
  · rintro k d ρ hd ⟨z2, z3, z4, rfl⟩
    obtain ⟨v, hv, rfl⟩ := map_at hd
    have g0 := gcdL_nonneg (xs.take k)
    obtain ⟨g, hg⟩ : ∃ g : Nat, gcdL (xs.take k) = (g : Int) := ⟨(gcdL (xs.take k)).toNat, by omega⟩
    have e1 : gcdL (xs.take (k + 1)) = ((Nat.gcd g v.natAbs : Nat) : Int) := by
      rw [take_snoc hv]
      unfold gcdL at hg ⊢
      rw [List.foldl_append, hg]
      show gcdF (g : Int) v = _
      unfold gcdF
      rw [Int.natAbs_natCast]
    rw [hg]
    show DS K none _ [.sh (LI xs), .sh (.int (g : Int)), .sh (.int v), z3, z4] _ _ _ _
    refine DS_seq (DS_par ?_)
    repeat walk_at "d"
    refine ⟨_, _, rfl, ?_⟩
    refine DS_seq (DS_while (fun m ρ => ∃ x y : Nat, m = y ∧ Nat.gcd x y = Nat.gcd g v.natAbs ∧ ρ = [.sh (LI xs), .sh (.int (g : Int)), .sh (.int v), .sh (.int (x : Int)), .sh (.int (y : Int))]) g ⟨v.natAbs, g, rfl, Nat.gcd_comm _ _, by rw [abs_if8]; rfl⟩ fun m ρ hI => ?_)
    obtain ⟨x, y, rfl, hxy, rfl⟩ := hI
    repeat walk_at "d"
    refine ⟨shp_int _, shp_int _, _, rfl, ?_⟩
    rw [eqv_ints]
    by_cases hy : m = 0
    · subst hy
      refine iteF' (by rfl) ?_
      repeat walk_at "d"
      refine ⟨.sh (.int v), .sh (.int (x : Int)), .sh (.int ((0 : Nat) : Int)), ?_⟩
      rw [e1, ← hxy, Nat.gcd_zero_right]
      rfl
    · refine iteT' (by rw [decide_eq_false (by omega)]; rfl) ?_
      refine DS_par ?_
      repeat walk_at "d"
      refine .inl ⟨_, rfl, ?_⟩
      repeat walk_at "d"
      refine ⟨by omega, ?_⟩
      repeat walk_at "d"
      refine ⟨_, _, rfl, x % m, Nat.mod_lt _ (by omega), m, x % m, rfl, ?_, ?_⟩
      · rw [← hxy, Nat.gcd_comm m, ← Nat.gcd_rec, Nat.gcd_comm]
      · show [_, _, _, Sl.sh (PyData.int (m : Int)), Sl.sh (PyData.int ((x : Int) % (m : Int)))] = _
        rw [Int.natCast_emod]
  · rintro ρ ⟨z2, z3, z4, rfl⟩
    rw [List.length_map, List.take_length]
    repeat walk_at "d"
    exact q

/-- the sums of all rings of up to so many cells -/
def sumRow (s : Int) (l : Nat) (vs : List Int) (k : Nat) : List Int := (List.range (s ^ (k + 1)).toNat).map fun (j : Nat) => ringSum s l vs (wordOf s (k + 1) (j : Int))
def sumsL (s : Int) (l : Nat) (vs : List Int) (c : Nat) : List Int := ((List.range c).map (sumRow s l vs)).flatten
theorem sumsL_succ (s : Int) (l : Nat) (vs : List Int) (c : Nat) : sumsL s l vs (c + 1) = sumsL s l vs c ++ sumRow s l vs c := by
  unfold sumsL
  rw [List.range_succ, List.map_append, List.flatten_append]
  simp
theorem sumsL_len {s : Int} (h : 2 ≤ s) (l : Nat) (vs : List Int) : ∀ c : Nat, ((sumsL s l vs c).length : Int) ≤ 2 * s ^ c
  | 0 => by simp [sumsL]
  | c + 1 => by
    have p := pow_pos' (s := s) (by omega) (c + 1)
    have ih := sumsL_len h l vs c
    have q := pow_pos' (s := s) (by omega) c
    have e : s ^ (c + 1) = s ^ c * s := Int.pow_succ ..
    have : s ^ c * 2 ≤ s ^ c * s := Int.mul_le_mul_of_nonneg_left h (by omega)
    rw [sumsL_succ, List.length_append]
    unfold sumRow
    rw [List.length_map, List.length_range]
    push_cast
    omega
theorem sumsL_mem {s : Int} (h : 0 < s) {l : Nat} {vs : List Int} {c : Nat} {r : List Int} (hr : r ≠ []) (hc : r.length ≤ c) (hs : Signs s r) : ringSum s l vs r ∈ sumsL s l vs c := by
  have hn := List.length_pos_iff.mpr hr
  have b := num_bound h r hs
  unfold sumsL
  rw [List.mem_flatten]
  refine ⟨sumRow s l vs (r.length - 1), List.mem_map.mpr ⟨r.length - 1, List.mem_range.mpr (by omega), rfl⟩, ?_⟩
  unfold sumRow
  rw [show r.length - 1 + 1 = r.length by omega]
  refine List.mem_map.mpr ⟨(num s r).toNat, List.mem_range.mpr (by omega), ?_⟩
  rw [Int.toNat_of_nonneg b.1, wordOf_num h r hs]
theorem sumsL_of {s : Int} (h : 0 < s) {l : Nat} {vs : List Int} {c : Nat} {x : Int} (hx : x ∈ sumsL s l vs c) : ∃ r : List Int, r ≠ [] ∧ Signs s r ∧ x = ringSum s l vs r := by
  unfold sumsL at hx
  rw [List.mem_flatten] at hx
  obtain ⟨row, hrow, hx⟩ := hx
  obtain ⟨k, _, rfl⟩ := List.mem_map.mp hrow
  obtain ⟨j, _, rfl⟩ := List.mem_map.mp hx
  refine ⟨_, fun e => ?_, wordOf_signs h _ _, rfl⟩
  have := congrArg List.length e
  rw [wordOf_length] at this
  simp at this
theorem gcd_sums {s : Int} {l : Nat} {vs : List Int} (hw : Wt s l vs) : gcdL (sumsL s l vs (2 * l - 1)) = gcdL (plainOf s l vs).2 := by
  have h : 0 < s := by have := hw.s2; omega
  obtain ⟨w1, l1, z1, q1⟩ := plain_ok hw
  refine (gcd_rings h w1.l1 w1.ln z1 (fun x hx => ?_) fun r hr hl hs => ?_).symm
  · obtain ⟨r, hr, hs, e⟩ := sumsL_of h hx
    exact ⟨r, hr, hs, by rw [e, q1 r hr hs]⟩
  · rw [q1 r hr hs]
    exact sumsL_mem h hr (by omega) hs
theorem DS_par3L {K : PySem.W.Frag} {t : Option Addr} {ρ : Rho} {i j k : Nat} {ta tb tl : TE} {N B C : Rho → Prop} {R : PyData → Prop} (hik : i ≠ k) (hjk : j ≠ k) (h : DE K t ta ρ fun d => DE K t tb ρ fun e => DL K t tl ρ fun ds => N (((ρ.set i (.sh d)).set j (.sh e)).set k (.ow ds))) :
    DS K t (tPar3 i j k (tCons ta (tCons tb (tCons tl tNil)))) ρ N R B C := fun F0 H0 F H σ D A kn kr kb kc =>
  h F0 H0 F H σ A _ fun d v F1 H1 hb e1 z1 => hb F0 H0 F1 H1 σ (A.step e1) _ fun e w F2 H2 hl e2 z2 => by
    have A2 := (A.step e1).step e2
    refine hl F0 H0 F2 H2 σ A2 _ fun ds p xs F3 H3 q e3 n n1 n2 z3 => ?_
    have A3 := A2.step e3
    have f := A2.fs n
    refine ⟨v, w, .ref p, rfl, kn _ F3 H3 _ q ?_ ((e1.ff.trans e2.ff).trans e3.ff)⟩
    have B0 := (A3.set (i := i) (s := .sh d) (o := some v) ⟨v, rfl, (z1.up e2.ff).up e3.ff⟩ fun _ e => by cases e).set (i := j) (s := .sh e) (o := some w) ⟨w, rfl, z2.up e3.ff⟩ fun _ e => by cases e
    refine B0.setOw (i := k) ⟨p, xs, rfl, n2, n1, f.old, f.tap, z3⟩ fun m es hm h3 h4 => ?_
    have ni : i ≠ m := fun w => by
      subst w
      by_cases y : j = i
      · subst y
        have hi := (List.getElem?_eq_some_iff.mp h3).1
        rw [List.length_set] at hi
        rw [List.getElem?_set_self hi] at h3
        cases h3
      · rw [List.getElem?_set_ne y] at h3
        have hi := (List.getElem?_eq_some_iff.mp h3).1
        rw [List.length_set] at hi
        rw [List.getElem?_set_self hi] at h3
        cases h3
    have nj : j ≠ m := fun w => by
      subst w
      have hi := (List.getElem?_eq_some_iff.mp h3).1
      rw [List.length_set] at hi
      rw [List.getElem?_set_self hi] at h3
      cases h3
    rw [List.getElem?_set_ne nj, List.getElem?_set_ne ni] at h3 h4
    exact f.own m es h3 h4
def W__law_by_rings (ds : List PyData) (R : PyData → Prop) : Prop := ∃ (s : Int) (l : Nat) (vs : List Int), ds = [wtD s l vs] ∧ Wt s l vs ∧ s ^ (2 * l - 1) ≤ 243 ∧ R (.int (gcdL (plainOf s l vs).2))
def t__law_by_rings (K : PySem.W.Frag) : TS :=
  (tSeq (tPar3 1 2 3 (tCons (tOp (rIx K) (tVar 0) (tC (.int 0))) (tCons (tOp (rIx K) (tVar 0) (tC (.int 1))) (tCons (tLst tNil) tNil))))
    (tSeq (tFor (iRg2 (tCons (tC (.int 1)) (tCons (tOp rTimes (tC (.int 2)) (tVar 2)) tNil))) (gName 4)
    (tFor (iRg1 (tCons (tCall (spP K W__law_many) [] E0 (tCons (tVar 1) (tCons (tVar 4) tNil))) tNil)) (gName 5)
    (tDrop (tBM K "list" rAppend (tVar 3) (tCons (tCall (spP K W__law_sum) [] E0 (tCons (tVar 0) (tCons (tCall (spP K W__law_word) [] E0 (tCons (tVar 1) (tCons (tVar 5) (tCons (tVar 4) tNil)))) tNil))) tNil)))))
    (tRet (tCall (spP K W__law_common) [] E0 (tCons (tVar 3) tNil)))))
theorem ds__law_by_rings : Keeps W__law_by_rings 6 t__law_by_rings := by
  intro K ds R h
  obtain ⟨s, l, vs, rfl, hw, h243, q⟩ := h
  have s2 := hw.s2
  have s4 := hw.s4
  have l1 := hw.l1
  have lsm := hw.small
  have hp : 0 < s := by omega
  have sl := sumsL_len s2 l vs
  have pm : ∀ c : Nat, c ≤ 2 * l - 1 → s ^ c ≤ 243 := fun c hc => Int.le_trans (pow_mono (by omega) hc) h243
  refine ⟨by simp, ?_⟩
  show DS K _ (t__law_by_rings K) [.sh (wtD s l vs), .no, .no, .no, .no, .no] _ _ _ _
  unfold t__law_by_rings
  refine DS_seq (DS_par3L (by decide) (by decide) ?_)
  repeat walk_at "d"
  refine DR_ix (.inr ⟨_, 0, _, rfl, rfl, rfl, ?_⟩)
  repeat walk_at "d"
  refine DR_ix (.inr ⟨_, 1, _, rfl, rfl, rfl, ?_⟩)
  refine DL_lst (DA_nil ⟨by simp, ?_⟩)
  show DS K none _ [.sh (wtD s l vs), .sh (.int s), .sh (.int (l : Int)), .ow [], .no, .no] _ _ _ _
  refine DS_seq (DS_forR2 ?_)
  repeat walk_at "d"
  refine DR_timesI ⟨_, _, rfl, rfl, .inl ⟨by omega, by omega⟩, ?_⟩
  refine DA_nil ⟨1, 2 * (l : Int), rfl, fun k ρ => ∃ z4 z5, ρ = [.sh (wtD s l vs), .sh (.int s), .sh (.int (l : Int)), .ow ((sumsL s l vs k).map .int), z4, z5], ⟨.no, .no, rfl⟩, ?_, ?_⟩
  · rintro k ρ hk ⟨z4, z5, rfl⟩
    have hk : k < 2 * l - 1 := by omega
    have pk := pm (k + 1) (by omega)
    have pk0 := pm k (by omega)
    have lk := sl k
    show DS K none _ [.sh (wtD s l vs), .sh (.int s), .sh (.int (l : Int)), .ow ((sumsL s l vs k).map .int), .sh (.int (1 + (k : Int))), z5] _ _ _ _
    rw [show (1 + (k : Int)) = ((k + 1 : Nat) : Int) by omega]
    refine DS_forR1 ?_
    repeat walk_at "d"
    refine ⟨s, ((k + 1 : Nat) : Int), rfl, s2, s4, ?_⟩
    rw [Int.toNat_natCast]
    refine DA_nil ⟨_, rfl, fun j ρ => ∃ z5, ρ = [.sh (wtD s l vs), .sh (.int s), .sh (.int (l : Int)), .ow ((sumsL s l vs k ++ (List.range j).map fun (j : Nat) => ringSum s l vs (wordOf s (k + 1) (j : Int))).map .int), .sh (.int ((k + 1 : Nat) : Int)), z5], ⟨z5, by simp⟩, ?_, ?_⟩
    · rintro j ρ hj ⟨z5, rfl⟩
      have hj : (j : Int) < s ^ (k + 1) := by omega
      show DS K none _ [.sh (wtD s l vs), .sh (.int s), .sh (.int (l : Int)), .ow ((sumsL s l vs k ++ (List.range j).map fun (j : Nat) => ringSum s l vs (wordOf s (k + 1) (j : Int))).map .int), .sh (.int ((k + 1 : Nat) : Int)), .sh (.int (0 + (j : Int)))] _ _ _ _
      rw [Int.zero_add]
      refine DS_append (i := 3) (by rfl) (by rw [List.length_map, List.length_append, List.length_map, List.length_range]; omega) ?_
      repeat walk_at "d"
      refine ⟨s, (j : Int), k + 1, rfl, s2, s4, by omega, ?_⟩
      repeat walk_at "d"
      refine ⟨s, l, vs, _, rfl, hw, fun e => ?_, by rw [wordOf_length]; omega, wordOf_signs hp _ _, ?_⟩
      · have := congrArg List.length e
        rw [wordOf_length] at this
        simp at this
      · refine ⟨.sh (.int (j : Int)), ?_⟩
        rw [List.range_succ]
        simp only [List.map_append, List.append_assoc]
        rfl
    · rintro ρ ⟨z5, rfl⟩
      refine ⟨.sh (.int ((k + 1 : Nat) : Int)), z5, ?_⟩
      rw [sumsL_succ]
      rfl
  · rintro ρ ⟨z4, z5, rfl⟩
    rw [show (2 * (l : Int) - 1).toNat = 2 * l - 1 by omega]
    refine DS_freeze (i := 3) (by rfl) ?_
    repeat walk_at "d"
    refine ⟨_, rfl, ?_⟩
    rw [gcd_sums hw]
    exact q

/-- weights added, by the law -/
def W__law_added (ds : List PyData) (R : PyData → Prop) : Prop := ∃ (s : Int) (a b : Nat) (xs ys : List Int) (t : Int), ds = [wtD s a xs, wtD s b ys, .int t] ∧ Wt s a xs ∧ Wt s b ys ∧ -(2 ^ 64) < t ∧ t < 2 ^ 64 ∧ R (wtD s (max a b) (addV (wideV s (max a b - a) xs) (wideV s (max a b - b) ys) t))
def t__law_added (K : PySem.W.Frag) : TS :=
  (tSeq (tPar 3 4 (tCons (tOp (rIx K) (tVar 0) (tC (.int 0))) (tCons (tCB rMax2A (tCons (tOp (rIx K) (tVar 0) (tC (.int 1))) (tCons (tOp (rIx K) (tVar 1) (tC (.int 1))) tNil))) tNil)))
    (tSeq (tPar 5 6 (tCons (tCall (spP K W__law_many) [] E0 (tCons (tVar 3) (tCons (tOp rMinus (tVar 4) (tOp (rIx K) (tVar 0) (tC (.int 1)))) tNil))) (tCons (tCall (spP K W__law_many) [] E0 (tCons (tVar 3) (tCons (tOp rMinus (tVar 4) (tOp (rIx K) (tVar 1) (tC (.int 1)))) tNil))) tNil)))
    (tSeq (tAsg (tLst tNil) (gName 7))
    (tSeq (tFor (iRg1 (tCons (tCall (spP K W__law_many) [] E0 (tCons (tVar 3) (tCons (tVar 4) tNil))) tNil)) (gName 8)
    (tSeq (tAsg (tOp rTimes (tVar 2) (tOp (rIx K) (tOp (rIx K) (tVar 1) (tC (.int 2))) (tOp rDivI (tVar 8) (tVar 6)))) (gName 9))
    (tDrop (tBM K "list" rAppend (tVar 7) (tCons (tOp (rPlus K) (tOp (rIx K) (tOp (rIx K) (tVar 0) (tC (.int 2))) (tOp rDivI (tVar 8) (tVar 5))) (tVar 9)) tNil)))))
    (tRet (tTup (tCons (tVar 3) (tCons (tVar 4) (tCons (tVar 7) tNil)))))))))
theorem ds__law_added : Keeps W__law_added 10 t__law_added := by
  intro K ds R h
  obtain ⟨s, a, b, xs, ys, t, rfl, hx, hy, t0, t1, q⟩ := h
  have s2 := hx.s2
  have s4 := hx.s4
  have hp : 0 < s := by omega
  have xl := hx.ln
  have yl := hy.ln
  have xle := hx.le
  have yle := hy.le
  obtain ⟨M, hM⟩ : ∃ M, max a b = M := ⟨_, rfl⟩
  have aM : a ≤ M := by omega
  have bM : b ≤ M := by omega
  have Mle : s ^ M ≤ 1024 := by
    rcases Nat.le_total a b with c | c
    · rw [show M = b by omega]
      exact yle
    · rw [show M = a by omega]
      exact xle
  have pa := pow_pos' hp (M - a)
  have pb := pow_pos' hp (M - b)
  have lea : s ^ (M - a) ≤ s ^ M := pow_mono (by omega) (by omega)
  have leb : s ^ (M - b) ≤ s ^ M := pow_mono (by omega) (by omega)
  have wx := wide_len hp xl (M - a)
  have ea : s ^ M = s ^ a * s ^ (M - a) := by rw [← Int.pow_add, show a + (M - a) = M by omega]
  have eb : s ^ M = s ^ b * s ^ (M - b) := by rw [← Int.pow_add, show b + (M - b) = M by omega]
  rw [show a + (M - a) = M by omega] at wx
  rw [hM] at q
  have pM := pow_pos' hp M
  obtain ⟨n, hn⟩ : ∃ n : Nat, s ^ M = (n : Int) := ⟨(s ^ M).toNat, by omega⟩
  refine ⟨by simp, ?_⟩
  show DS K _ (t__law_added K) [.sh (wtD s a xs), .sh (wtD s b ys), .sh (.int t), .no, .no, .no, .no, .no, .no, .no] _ _ _ _
  unfold t__law_added
  refine DS_seq (DS_par ?_)
  repeat walk_at "d"
  refine DR_ix (.inr ⟨_, 0, _, rfl, rfl, rfl, ?_⟩)
  repeat walk_at "d"
  refine DR_ix (.inr ⟨_, 1, _, rfl, rfl, rfl, ?_⟩)
  repeat walk_at "d"
  refine DR_ix (.inr ⟨_, 1, _, rfl, rfl, rfl, ?_⟩)
  refine DA_nil (DC_max2 ⟨_, _, rfl, ?_⟩)
  refine DA_nil ⟨_, _, rfl, ?_⟩
  rw [show max (a : Int) (b : Int) = (M : Int) by omega]
  show DS K none _ [.sh (wtD s a xs), .sh (wtD s b ys), .sh (.int t), .sh (.int s), .sh (.int (M : Int)), .no, .no, .no, .no, .no] _ _ _ _
  refine DS_seq (DS_par ?_)
  repeat walk_at "d"
  refine DR_ix (.inr ⟨_, 1, _, rfl, rfl, rfl, ?_⟩)
  repeat walk_at "d"
  refine ⟨s, (M : Int) - (a : Int), rfl, s2, s4, ?_⟩
  rw [show ((M : Int) - (a : Int)).toNat = M - a by omega]
  repeat walk_at "d"
  refine DR_ix (.inr ⟨_, 1, _, rfl, rfl, rfl, ?_⟩)
  repeat walk_at "d"
  refine ⟨s, (M : Int) - (b : Int), rfl, s2, s4, ?_⟩
  rw [show ((M : Int) - (b : Int)).toNat = M - b by omega]
  refine DA_nil ⟨_, _, rfl, ?_⟩
  show DS K none _ [.sh (wtD s a xs), .sh (wtD s b ys), .sh (.int t), .sh (.int s), .sh (.int (M : Int)), .sh (.int (s ^ (M - a))), .sh (.int (s ^ (M - b))), .no, .no, .no] _ _ _ _
  refine DS_seq (DS_setOw (DL_lst (DA_nil ⟨by simp, ?_⟩)))
  refine DS_seq (DS_forR1 ?_)
  repeat walk_at "d"
  refine ⟨s, (M : Int), rfl, s2, s4, ?_⟩
  rw [Int.toNat_natCast, hn]
  refine DA_nil ⟨_, rfl, fun k ρ => ∃ z8 z9, ρ = [.sh (wtD s a xs), .sh (wtD s b ys), .sh (.int t), .sh (.int s), .sh (.int (M : Int)), .sh (.int (s ^ (M - a))), .sh (.int (s ^ (M - b))), .ow (((List.range k).map fun (k : Nat) => itm (wideV s (M - a) xs) k + t * itm (wideV s (M - b) ys) k).map .int), z8, z9], ⟨.no, .no, rfl⟩, ?_, ?_⟩
  · rintro k ρ hk ⟨z8, z9, rfl⟩
    have hk : k < n := by omega
    have hka : (k : Int) < s ^ a * s ^ (M - a) := by omega
    have hkb : (k : Int) < s ^ b * s ^ (M - b) := by omega
    have a0 : (0 : Int) ≤ k / s ^ (M - a) := Int.ediv_nonneg (by omega) (by omega)
    have a1 : (k : Int) / s ^ (M - a) < s ^ a := Int.ediv_lt_of_lt_mul pa hka
    have b0 : (0 : Int) ≤ k / s ^ (M - b) := Int.ediv_nonneg (by omega) (by omega)
    have b1 : (k : Int) / s ^ (M - b) < s ^ b := Int.ediv_lt_of_lt_mul pb hkb
    have ia := itm_wide hp xl (M - a) (k : Int) (by omega) (by rw [show a + (M - a) = M by omega]; omega)
    have ib := itm_wide hp yl (M - b) (k : Int) (by omega) (by rw [show b + (M - b) = M by omega]; omega)
    show DS K none _ [.sh (wtD s a xs), .sh (wtD s b ys), .sh (.int t), .sh (.int s), .sh (.int (M : Int)), .sh (.int (s ^ (M - a))), .sh (.int (s ^ (M - b))), .ow (((List.range k).map fun (k : Nat) => itm (wideV s (M - a) xs) k + t * itm (wideV s (M - b) ys) k).map .int), .sh (.int (0 + (k : Int))), z9] _ _ _ _
    rw [Int.zero_add]
    repeat walk_at "d"
    refine DR_ix (.inr ⟨_, 2, _, rfl, rfl, rfl, ?_⟩)
    repeat walk_at "d"
    refine ⟨wide_div (b := 11) (by omega) (by omega) (by decide) (by decide), ?_⟩
    refine DR_ix (.inl ⟨_, _, _, rfl, rfl, atI_ok b0 (by omega), ?_⟩)
    refine DR_timesI ⟨_, _, rfl, rfl, .inl ⟨t0, t1⟩, ?_⟩
    refine DS_append (i := 7) (by rfl) (by rw [List.length_map, List.length_map, List.length_range]; omega) ?_
    repeat walk_at "d"
    refine DR_ix (.inr ⟨_, 2, _, rfl, rfl, rfl, ?_⟩)
    repeat walk_at "d"
    refine ⟨wide_div (b := 11) (by omega) (by omega) (by decide) (by decide), ?_⟩
    refine DR_ix (.inl ⟨_, _, _, rfl, rfl, atI_ok a0 (by omega), ?_⟩)
    repeat walk_at "d"
    refine DR_plusI ⟨_, _, rfl, rfl, ?_⟩
    refine ⟨.sh (.int (k : Int)), .sh (.int (t * ys.getD ((k : Int) / s ^ (M - b)).toNat 0)), ?_⟩
    have ev : xs.getD ((k : Int) / s ^ (M - a)).toNat 0 + t * ys.getD ((k : Int) / s ^ (M - b)).toNat 0 = itm (wideV s (M - a) xs) (k : Int) + t * itm (wideV s (M - b) ys) (k : Int) := by
      rw [ia, ib]
      rfl
    rw [List.range_succ, List.map_append, List.map_append, ev]
    rfl
  · rintro ρ ⟨z8, z9, rfl⟩
    refine DS_freeze (i := 7) (by rfl) ?_
    repeat walk_at "d"
    refine ⟨by simp, ?_⟩
    have e : addV (wideV s (M - a) xs) (wideV s (M - b) ys) t = (List.range (n : Int).toNat).map fun (k : Nat) => itm (wideV s (M - a) xs) k + t * itm (wideV s (M - b) ys) k := by
      unfold addV
      rw [Int.toNat_natCast, show (wideV s (M - a) xs).length = n by omega]
    rw [← e]
    exact q

end Cf
namespace Cf
open PySem PySem.Spec PyProof.Rows L2
open Evl (Ex)
local macro_rules | `(tactic| walk_at "d") => `(tactic| first
  | (with_reducible refine DS_seq ?_)
  | (with_reducible refine DS_if ?_)
  | (with_reducible refine DS_ret ?_)
  | (with_reducible refine DS_next ?_)
  | (with_reducible refine DS_retN ?_)
  | (with_reducible refine DS_set ?_)
  | (with_reducible refine DS_drop ?_)
  | (with_reducible refine DS_unpack ?_)
  | (with_reducible refine DS_par ?_)
  | (with_reducible refine DE_int ?_)
  | (with_reducible refine DE_bl ?_)
  | (with_reducible refine DE_non ?_)
  | (with_reducible refine DE_str ?_)
  | (with_reducible refine DE_isi ?_)
  | (with_reducible refine DE_and ?_)
  | (with_reducible refine DE_or ?_)
  | (with_reducible refine DE_not ?_)
  | (with_reducible refine DE_if ?_)
  | (with_reducible refine DE_chain ?_)
  | (with_reducible refine DE_tyIs ?_)
  | (with_reducible refine DE_tyNot ?_)
  | (with_reducible refine DE_call ?_)
  | ((with_reducible refine' DE_lenOw ?k1 ?_); (case k1 => exact rfl))
  | ((with_reducible refine' DE_reprOw ?k1 ?_); (case k1 => exact rfl))
  | ((with_reducible refine' DE_ixOw ?k1 ?_); (case k1 => exact rfl))
  | ((with_reducible refine' DE_lenOw ?k1 ?_); (case k1 => exact rfl))
  | (with_reducible refine DE_cb ?_)
  | (with_reducible refine DE_new (DL_rep (DL_lst ?_)))
  | (with_reducible refine DE_op ?_)
  | (with_reducible refine DE_un ?_)
  | (with_reducible refine DE_tup ?_)
  | (with_reducible refine DT_test ?_)
  | (with_reducible refine DT_B ?_)
  | (with_reducible refine DT_and ?_)
  | (with_reducible refine DT_or ?_)
  | (with_reducible refine DT_not ?_)
  | (with_reducible refine DT_yes ?_)
  | (with_reducible refine DA_nil ?_)
  | (with_reducible refine DA_cons ?_)
  | (with_reducible refine DO_no ?_)
  | (with_reducible refine DO_at ?_)
  | (with_reducible refine DR_minus ?_)
  | (with_reducible refine DR_mod ?_)
  | (with_reducible refine DR_div ?_)
  | (with_reducible refine DR_pow ?_)
  | (with_reducible refine DR_lt ?_)
  | (with_reducible refine DR_le ?_)
  | (with_reducible refine DR_gt ?_)
  | (with_reducible refine DR_ge ?_)
  | (with_reducible refine DR_eq ?_)
  | (with_reducible refine DR_ne ?_)
  | (with_reducible refine DR_isN ?_)
  | (with_reducible refine DR_notN ?_)
  | (with_reducible refine DU_neg ?_)
  | (with_reducible refine DC_len ?_)
  | (with_reducible refine DC_int ?_)
  | (with_reducible refine DC_abs ?_)
  | (with_reducible refine DC_max2 ?_)
  | (with_reducible refine DC_min2 ?_)
  | (with_reducible refine DC_sum ?_)
  | (with_reducible refine DC_all ?_)
  | (with_reducible refine DC_any ?_)
  | (with_reducible refine DC_repr ?_)
  | (with_reducible refine ⟨_, kb_int _, ?_⟩)
  | (with_reducible refine ⟨_, kb_bool _, ?_⟩)
  | (with_reducible refine ⟨_, kb_list _, ?_⟩)
  | (with_reducible refine ⟨_, kb_tuple _, ?_⟩)
  | (with_reducible refine ⟨_, rfl, ?_⟩)
  | (with_reducible refine ⟨_, _, rfl, rfl, ?_⟩)
  | (with_reducible refine DE_callN ?_)
  | (with_reducible refine DE_callX ?_)
  | (with_reducible refine DR_notB ?_)
  | (with_reducible refine DE_emp ?_)
  | (with_reducible refine DE_new (DL_lst ?_))
  | (with_reducible refine DE_new (DL_callF ?_))
  | (with_reducible refine DE_new (DL_sl ?_))
  | (with_reducible refine DE_slT ?_)
  | (with_reducible refine DC_list ?_)
  | ((with_reducible refine' DE_callT ?k1 ?_); (case k1 => exact rfl))
  | ((with_reducible refine' DE_var ?k1 ?_); (case k1 => exact rfl))
  | ((with_reducible refine' DE_varO ?k1 ?_); (case k1 => exact rfl))
  | ((with_reducible refine' DE_varN ?k1 ?_); (case k1 => exact rfl)))


/-! k08: weights added, right -/
abbrev B26 : Int := 100000000000000000000000000
theorem shw_wtA {s : Int} {l : Nat} {vs : List Int} (hs : -1000 ≤ s ∧ s ≤ 1000) (hl : l ≤ 1000) (hn : vs.length ≤ 1024) (hv : ∀ v ∈ vs, -(10 ^ 40) ≤ v ∧ v ≤ 10 ^ 40) : Shw 300000 4 (wtD s l vs) := by
  have iv : ∀ d ∈ vs.map PyData.int, Itm d := fun d hd => by
    obtain ⟨v, hm, rfl⟩ := List.mem_map.mp hd
    exact itm_int (hv v hm)
  have sv : Shw 67720 2 (LI vs) := shw_vals iv (by rw [List.length_map]; omega)
  refine (nice_3 (itm_up (itm_int (by omega))) (itm_up (itm_int (by omega))) sv ?_).2
  show decide ((vs.map PyData.int).length < 100000) = true
  exact decide_eq_true (by rw [List.length_map]; omega)
theorem mul_small {t y B : Int} (t0 : -2000 ≤ t) (t1 : t ≤ 2000) (h0 : -B ≤ y) (h1 : y ≤ B) : -(2000 * B) ≤ t * y ∧ t * y ≤ 2000 * B := by
  have hB : 0 ≤ B := by omega
  have h : (t * y).natAbs ≤ 2000 * B.natAbs := by
    rw [Int.natAbs_mul]
    exact Nat.mul_le_mul (by omega) (by omega)
  omega
def W__law_added_right (ds : List PyData) (R : PyData → Prop) : Prop := ∃ (s : Int) (a b : Nat) (xs ys : List Int) (t : Int), ds = [wtD s a xs, wtD s b ys, .int t] ∧ Wt s a xs ∧ Wt s b ys ∧ -2000 ≤ t ∧ t ≤ 2000 ∧ (∀ v ∈ xs, -B26 ≤ v ∧ v ≤ B26) ∧ (∀ v ∈ ys, -B26 ≤ v ∧ v ≤ B26) ∧ R (.bool true)
def t__law_added_right (K : PySem.W.Frag) : TS :=
  (tSeq (tPar 4 5 (tCons (tCall (spP K W__law_same) [] E0 (tCons (tVar 1) tNil)) (tCons (tCall (spP K W__law_same) [] E0 (tCons (tVar 2) tNil)) tNil)))
    (tSeq (tAsg (tCall (spP K W__law_added) [] E0 (tCons (tVar 1) (tCons (tVar 2) (tCons (tVar 3) tNil)))) (gName 6))
    (tSeq (tAsg (tCall (spN K W_added) [] E0 (tCons (tVar 4) (tCons (tVar 5) (tCons (tVar 3) tNil)))) (gName 7))
    (tSeq (tIfS (tOr (tTest (tOp (rNeU K) (tCB (rReprD K) (tCons (tVar 7) tNil)) (tCB (rReprD K) (tCons (tVar 6) tNil)))) (tOr (tTest (tOp (rNeU K) (tVar 4) (tVar 1))) (tTest (tOp (rNeU K) (tVar 5) (tVar 2)))))
    (tRet (tC (.bl false)))
    tNext)
    (tSeq (tFor (iRg1 (tCons (tC (.int 3)) tNil)) (gName 8)
    (tSeq (tAsg (tCall (spT K W__law_ring) [] E0 (tCons (tVar 0) (tCons (tOp (rIx K) (tVar 1) (tC (.int 0))) (tCons (tC (.int 7)) tNil)))) (gName 9))
    (tIfS (tTest (tOp (rNeU K) (tCall (spP K W__law_sum) [] E0 (tCons (tVar 7) (tCons (tVar 9) tNil))) (tOp (rPlus K) (tCall (spP K W__law_sum) [] E0 (tCons (tVar 1) (tCons (tVar 9) tNil))) (tOp rTimes (tVar 3) (tCall (spP K W__law_sum) [] E0 (tCons (tVar 2) (tCons (tVar 9) tNil)))))))
    (tRet (tC (.bl false)))
    tNext)))
    (tSeq (tDrop (tBM K "list" rAppend (tOp (rIx K) (tVar 7) (tC (.int 2))) (tCons (tC (.int 0)) tNil)))
    (tRet (tAndV (tOp (rEqU K) (tCB (rReprD K) (tCons (tCall (spN K W_added) [] E0 (tCons (tVar 4) (tCons (tVar 5) (tCons (tVar 3) tNil)))) tNil)) (tCB (rReprD K) (tCons (tVar 6) tNil))) (tAndV (tOp (rEqU K) (tVar 4) (tVar 1)) (tOp (rEqU K) (tVar 5) (tVar 2)))))))))))
theorem ds__law_added_right : KeepsT W__law_added_right 10 t__law_added_right := by
  intro K p ds R h
  obtain ⟨s, a, b, xs, ys, t, rfl, hx, hy, t0, t1, bx, bys, q⟩ := h
  have s2 := hx.s2
  have s4 := hx.s4
  have hp : 0 < s := by omega
  have b26 : B26 = 100000000000000000000000000 := rfl
  have xsm := hx.small
  have ysm := hy.small
  obtain ⟨M, hM⟩ : ∃ M, max a b = M := ⟨_, rfl⟩
  have aM : a ≤ M := by omega
  have bM : b ≤ M := by omega
  have Mle : s ^ M ≤ 1024 := by
    rcases Nat.le_total a b with c | c
    · rw [show M = b by omega]
      exact hy.le
    · rw [show M = a by omega]
      exact hx.le
  have wx := wide_len hp hx.ln (M - a)
  have wy := wide_len hp hy.ln (M - b)
  rw [show a + (M - a) = M by omega] at wx
  rw [show b + (M - b) = M by omega] at wy
  have ring : ∀ r : List Int, r ≠ [] → Signs s r → ringSum s M (addV (wideV s (M - a) xs) (wideV s (M - b) ys) t) r = ringSum s a xs r + t * ringSum s b ys r := fun r hr hs => by
    have e1 := ringSum_wide hp hx.ln hr hs (M - a)
    have e2 := ringSum_wide hp hy.ln hr hs (M - b)
    rw [show a + (M - a) = M by omega] at e1
    rw [show b + (M - b) = M by omega] at e2
    rw [ringSum_add hp wx t hr hs, e1, e2]
  have bu : ∀ u ∈ addV (wideV s (M - a) xs) (wideV s (M - b) ys) t, -(10 ^ 40) ≤ u ∧ u ≤ 10 ^ 40 := fun u hu => by
    obtain ⟨n, _, rfl⟩ := List.mem_map.mp hu
    have a1 := itm_bound (B := B26) (by decide) (fun v hv => bx v (wide_mem hp hx.ln (M - a) v hv)) n
    have a2 := itm_bound (B := B26) (by decide) (fun v hv => bys v (wide_mem hp hy.ln (M - b) v hv)) n
    have a3 := mul_small (t := t) (y := itm (wideV s (M - b) ys) n) (B := B26) t0 t1 a2.1 a2.2
    omega
  have wU : Wt s M (addV (wideV s (M - a) xs) (wideV s (M - b) ys) t) := ⟨s2, s4, by have := hx.l1; omega, Mle, by rw [addV_length]; exact wx⟩
  obtain ⟨us, hus⟩ : ∃ us, addV (wideV s (M - a) xs) (wideV s (M - b) ys) t = us := ⟨_, rfl⟩
  rw [hus] at ring bu wU
  have wUs := wU.small
  have wUl : us.length ≤ 1024 := by have := wU.ln; have := wU.le; omega
  have sh := shw_fits (shw_wtA (s := s) (l := M) (vs := us) (by omega) (by omega) (by omega) bu) (by decide) (by decide)
  refine ⟨by simp, ?_⟩
  show DS K _ (t__law_added_right K) [.tp, .sh (wtD s a xs), .sh (wtD s b ys), .sh (.int t), .no, .no, .no, .no, .no, .no] _ _ _ _
  unfold t__law_added_right
  refine DS_seq (DS_par ?_)
  repeat walk_at "d"
  refine ⟨_, _, _, rfl, ?_⟩
  repeat walk_at "d"
  refine ⟨_, _, _, rfl, ?_⟩
  refine DA_nil ⟨_, _, rfl, ?_⟩
  repeat walk_at "d"
  refine ⟨s, a, b, xs, ys, t, rfl, hx, hy, by omega, by omega, ?_⟩
  rw [hM, hus]
  refine DS_rebase ?_
  show DS K (some p) _ [.tp, .od (wtD s a xs), .od (wtD s b ys), .od (.int t), .od (wtD s a xs), .od (wtD s b ys), .od (wtD s M us), .no, .no, .no] _ _ _ _
  refine DS_seq (DS_callNw ?_)
  repeat walk_at "d"
  refine ⟨s, a, b, xs, ys, t, rfl, hx, hy, .inl ⟨by omega, by omega⟩, ?_⟩
  rw [hM, hus]
  refine DS_seq ?_
  repeat walk_at "d"
  refine ⟨sh.1, sh.2.1, sh.2.2, ?_⟩
  repeat walk_at "d"
  refine ⟨sh.1, sh.2.1, sh.2.2, DR_neS ⟨_, _, rfl, rfl, _, rfl, ?_⟩⟩
  rw [ne_self]
  refine iteF ?_
  repeat walk_at "d"
  refine ⟨shp_wt .., shp_wt .., _, rfl, ?_⟩
  rw [eqv_shaped (shp_wt ..)]
  refine iteF ?_
  repeat walk_at "d"
  refine ⟨shp_wt .., shp_wt .., _, rfl, ?_⟩
  rw [eqv_shaped (shp_wt ..)]
  refine iteF (DS_next ?_)
  refine DS_seq (DS_forR1 ?_)
  repeat walk_at "d"
  refine ⟨fun k ρ => ∃ z8 z9, ρ = [.tp, .od (wtD s a xs), .od (wtD s b ys), .od (.int t), .od (wtD s a xs), .od (wtD s b ys), .od (wtD s M us), .nw (wtD s M us), z8, z9], ⟨_, _, rfl⟩, ?_, ?_⟩
  · rintro k ρ hk ⟨z8, z9, rfl⟩
    repeat walk_at "d"
    refine DR_ix (.inr ⟨_, 0, _, rfl, rfl, rfl, ?_⟩)
    repeat walk_at "d"
    refine ⟨s, 7, rfl, s2, s4, by decide, by decide, fun r rn rl rs => ?_⟩
    repeat walk_at "d"
    refine ⟨s, M, us, r, rfl, wU, rn, by omega, rs, ?_⟩
    repeat walk_at "d"
    refine ⟨s, a, xs, r, rfl, hx, rn, by omega, rs, ?_⟩
    repeat walk_at "d"
    refine ⟨s, b, ys, r, rfl, hy, rn, by omega, rs, ?_⟩
    refine DR_timesI ⟨_, _, rfl, rfl, .inl ⟨by omega, by omega⟩, DR_plusI ⟨_, _, rfl, rfl, ?_⟩⟩
    rw [ring r rn rs]
    refine DR_ne ⟨shp_int _, shp_int _, _, rfl, iteF' (by rw [eqv_shaped (shp_int _)]; rfl) (DS_next ?_)⟩
    exact ⟨_, _, rfl⟩
  · rintro ρ ⟨z8, z9, rfl⟩
    refine DS_appN (ρ := [.tp, .od (wtD s a xs), .od (wtD s b ys), .od (.int t), .od (wtD s a xs), .od (wtD s b ys), .od (wtD s M us), .nw (wtD s M us), z8, z9]) (i := 7) (m := 2) (ds := [.int s, .int (M : Int), LI us]) (by rfl) ⟨rfl, by decide⟩ ?_
    show DS K (some p) _ [.tp, .od (wtD s a xs), .od (wtD s b ys), .od (.int t), .od (wtD s a xs), .od (wtD s b ys), .od (wtD s M us), .no, z8.keep, z9.keep] _ _ _ _
    repeat walk_at "d"
    refine ⟨s, a, b, xs, ys, t, rfl, hx, hy, .inl ⟨by omega, by omega⟩, ?_⟩
    rw [hM, hus]
    repeat walk_at "d"
    refine ⟨sh.1, sh.2.1, sh.2.2, ?_⟩
    repeat walk_at "d"
    refine ⟨sh.1, sh.2.1, sh.2.2, DR_eqS ⟨_, _, rfl, rfl, _, rfl, ?_⟩⟩
    rw [eq_self']
    refine iteT ?_
    repeat walk_at "d"
    refine ⟨shp_wt .., shp_wt .., _, rfl, ?_⟩
    rw [eqv_shaped (shp_wt ..)]
    refine iteT ?_
    repeat walk_at "d"
    refine ⟨shp_wt .., shp_wt .., ?_⟩
    rw [eqv_shaped (shp_wt ..)]
    exact q

end Cf
namespace Cf
open PySem PySem.Spec PyProof.Rows L2
open Evl (Ex)
local macro_rules | `(tactic| walk_at "d") => `(tactic| first
  | (with_reducible refine DS_seq ?_)
  | (with_reducible refine DS_if ?_)
  | (with_reducible refine DS_ret ?_)
  | (with_reducible refine DS_next ?_)
  | (with_reducible refine DS_retN ?_)
  | (with_reducible refine DS_set ?_)
  | (with_reducible refine DS_drop ?_)
  | (with_reducible refine DS_unpack ?_)
  | (with_reducible refine DS_par ?_)
  | (with_reducible refine DE_int ?_)
  | (with_reducible refine DE_bl ?_)
  | (with_reducible refine DE_non ?_)
  | (with_reducible refine DE_str ?_)
  | (with_reducible refine DE_isi ?_)
  | (with_reducible refine DE_and ?_)
  | (with_reducible refine DE_or ?_)
  | (with_reducible refine DE_not ?_)
  | (with_reducible refine DE_if ?_)
  | (with_reducible refine DE_chain ?_)
  | (with_reducible refine DE_tyIs ?_)
  | (with_reducible refine DE_tyNot ?_)
  | (with_reducible refine DE_call ?_)
  | ((with_reducible refine' DE_lenOw ?k1 ?_); (case k1 => exact rfl))
  | ((with_reducible refine' DE_reprOw ?k1 ?_); (case k1 => exact rfl))
  | ((with_reducible refine' DE_ixOw ?k1 ?_); (case k1 => exact rfl))
  | ((with_reducible refine' DE_lenOw ?k1 ?_); (case k1 => exact rfl))
  | (with_reducible refine DE_cb ?_)
  | (with_reducible refine DE_new (DL_rep (DL_lst ?_)))
  | (with_reducible refine DE_op ?_)
  | (with_reducible refine DE_un ?_)
  | (with_reducible refine DE_tup ?_)
  | (with_reducible refine DT_test ?_)
  | (with_reducible refine DT_B ?_)
  | (with_reducible refine DT_and ?_)
  | (with_reducible refine DT_or ?_)
  | (with_reducible refine DT_not ?_)
  | (with_reducible refine DT_yes ?_)
  | (with_reducible refine DA_nil ?_)
  | (with_reducible refine DA_cons ?_)
  | (with_reducible refine DO_no ?_)
  | (with_reducible refine DO_at ?_)
  | (with_reducible refine DR_minus ?_)
  | (with_reducible refine DR_mod ?_)
  | (with_reducible refine DR_div ?_)
  | (with_reducible refine DR_pow ?_)
  | (with_reducible refine DR_lt ?_)
  | (with_reducible refine DR_le ?_)
  | (with_reducible refine DR_gt ?_)
  | (with_reducible refine DR_ge ?_)
  | (with_reducible refine DR_eq ?_)
  | (with_reducible refine DR_ne ?_)
  | (with_reducible refine DR_isN ?_)
  | (with_reducible refine DR_notN ?_)
  | (with_reducible refine DU_neg ?_)
  | (with_reducible refine DC_len ?_)
  | (with_reducible refine DC_int ?_)
  | (with_reducible refine DC_abs ?_)
  | (with_reducible refine DC_max2 ?_)
  | (with_reducible refine DC_min2 ?_)
  | (with_reducible refine DC_sum ?_)
  | (with_reducible refine DC_all ?_)
  | (with_reducible refine DC_any ?_)
  | (with_reducible refine DC_repr ?_)
  | (with_reducible refine ⟨_, kb_int _, ?_⟩)
  | (with_reducible refine ⟨_, kb_bool _, ?_⟩)
  | (with_reducible refine ⟨_, kb_list _, ?_⟩)
  | (with_reducible refine ⟨_, kb_tuple _, ?_⟩)
  | (with_reducible refine ⟨_, rfl, ?_⟩)
  | (with_reducible refine ⟨_, _, rfl, rfl, ?_⟩)
  | (with_reducible refine DE_callN ?_)
  | (with_reducible refine DE_callX ?_)
  | (with_reducible refine DR_notB ?_)
  | (with_reducible refine DE_emp ?_)
  | (with_reducible refine DE_new (DL_lst ?_))
  | (with_reducible refine DE_new (DL_callF ?_))
  | (with_reducible refine DE_new (DL_sl ?_))
  | (with_reducible refine DE_slT ?_)
  | (with_reducible refine DC_list ?_)
  | ((with_reducible refine' DE_callT ?k1 ?_); (case k1 => exact rfl))
  | ((with_reducible refine' DE_var ?k1 ?_); (case k1 => exact rfl))
  | ((with_reducible refine' DE_varO ?k1 ?_); (case k1 => exact rfl))
  | ((with_reducible refine' DE_varN ?k1 ?_); (case k1 => exact rfl)))


/-! k08: divisors right -/
theorem zero_scale (vs : List Int) (n : Int) : itm (vs.map fun v => 0 * v) n = 0 := by rw [itm_scale, Int.zero_mul]
def W__law_divisor_right (ds : List PyData) (R : PyData → Prop) : Prop := ∃ (s : Int) (l : Nat) (vs : List Int), ds = [wtD s l vs] ∧ Wt s l vs ∧ (∀ v ∈ vs, -B26 ≤ v ∧ v ≤ B26) ∧ R (.bool true)
def t__law_divisor_right (K : PySem.W.Frag) : TS :=
  (tSeq (tAsg (tTup (tCons (tOp rMinus (tCall (spT K W__law_draw) [] E0 (tCons (tVar 0) (tCons (tC (.int 7)) tNil))) (tC (.int 3))) (tCons (tCall (spP K W__law_same) [] E0 (tCons (tVar 1) tNil)) tNil))) (gTup K 2 (gNames [2, 3])))
    (tSeq (tPar 4 5 (tCons (tCall (spP K W__law_common) [] E0 (tCons (tOp (rIx K) (tCall (spP K W__law_plain) [] E0 (tCons (tVar 1) tNil)) (tC (.int 2))) tNil)) (tCons (tTup (tCons (tOp (rIx K) (tVar 1) (tC (.int 0))) (tCons (tOp (rIx K) (tVar 1) (tC (.int 1))) (tCons (tLc (iList K (tOp (rIx K) (tVar 1) (tC (.int 2)))) (gName 6) tYes (tOp rTimes (tVar 2) (tVar 6)) [6]) tNil)))) tNil)))
    (tSeq (tIfS (tOr (tTest (tOp (rNeU K) (tCB (rReprD K) (tCons (tCall (spP K W_divisor) [] E0 (tCons (tVar 3) tNil)) tNil)) (tCB (rReprD K) (tCons (tVar 4) tNil)))) (tOr (tTest (tOp (rNeU K) (tVar 3) (tVar 1))) (tTest (tOp (rNeU K) (tCall (spP K W_divisor) [] E0 (tCons (tVar 5) tNil)) (tOp rTimes (tCB rAbsA (tCons (tVar 2) tNil)) (tVar 4))))))
    (tRet (tC (.bl false)))
    tNext)
    (tSeq (tIfS (tAnd (tTest (tOp rLeI (tCall (spP K W__law_many) [] E0 (tCons (tOp (rIx K) (tVar 1) (tC (.int 0))) (tCons (tOp rMinus (tOp rTimes (tC (.int 2)) (tOp (rIx K) (tVar 1) (tC (.int 1)))) (tC (.int 1))) tNil))) (tC (.int 243)))) (tTest (tOp (rNeU K) (tCall (spP K W__law_by_rings) [] E0 (tCons (tVar 1) tNil)) (tVar 4))))
    (tRet (tC (.bl false)))
    tNext)
    (tSeq (tAsg (tOp rDivI (tCB (rLenA K) (tCons (tOp (rIx K) (tVar 1) (tC (.int 2))) tNil)) (tOp (rIx K) (tVar 1) (tC (.int 0)))) (gName 7))
    (tSeq (tAsg (tLc (iRg1 (tCons (tVar 7) tNil)) (gName 9) tYes (tOp rMinus (tCall (spT K W__law_draw) [] E0 (tCons (tVar 0) (tCons (tC (.int 9)) tNil))) (tC (.int 4))) [9]) (gName 8))
    (tSeq (tAsg (tLc (iRg1 (tCons (tCB (rLenA K) (tCons (tOp (rIx K) (tVar 1) (tC (.int 2))) tNil)) tNil)) (gName 11) tYes (tOp rMinus (tOp (rIx K) (tVar 8) (tOp rDivI (tVar 11) (tOp (rIx K) (tVar 1) (tC (.int 0))))) (tOp (rIx K) (tVar 8) (tOp rModI (tCB rIntA (tCons (tVar 11) tNil)) (tVar 7)))) [11]) (gName 10))
    (tSeq (tIfS (tTest (tOp (rNeU K) (tCall (spP K W_divisor) [] E0 (tCons (tTup (tCons (tOp (rIx K) (tVar 1) (tC (.int 0))) (tCons (tOp (rIx K) (tVar 1) (tC (.int 1))) (tCons (tVar 10) tNil)))) tNil)) (tC (.int 0))))
    (tRet (tC (.bl false)))
    tNext)
    (tRet (tOp (rEqU K) (tCall (spP K W_divisor) [] E0 (tCons (tTup (tCons (tOp (rIx K) (tVar 1) (tC (.int 0))) (tCons (tOp (rIx K) (tVar 1) (tC (.int 1))) (tCons (tLc (iZip K (tCons (tOp (rIx K) (tVar 1) (tC (.int 2))) (tCons (tVar 10) tNil))) (gTup K 2 (gNames [12, 13])) tYes (tOp (rPlus K) (tVar 12) (tVar 13)) [12, 13]) tNil)))) tNil)) (tVar 4)))))))))))
theorem ds__law_divisor_right : KeepsT W__law_divisor_right 14 t__law_divisor_right := by
  intro K p ds R h
  obtain ⟨s, l, vs, rfl, hw, bv, q⟩ := h
  have s2 := hw.s2
  have s4 := hw.s4
  have hp : 0 < s := by omega
  have le := hw.le
  have lsm := hw.small
  have b26 : B26 = 100000000000000000000000000 := rfl
  have e45 : (10 : Nat) ^ 45 = 1000000000000000000000000000000000000000000000 := rfl
  have pb := plain_bound (s := s) (B := B26) (by decide) bv (by omega)
  have gs := gcd_small (B := 21 * B26) (by decide) pb
  have gt : ∀ t : Int, gcdL (plainOf s l (vs.map fun v => t * v)).2 = (t.natAbs : Int) * gcdL (plainOf s l vs).2 := fun t => gcd_times hw
  have pok := plain_ok hw
  obtain ⟨m, rfl⟩ : ∃ m, l = m + 1 := ⟨l - 1, by have := hw.l1; omega⟩
  have ln := hw.ln
  have pm := pow_pos' hp m
  have e1 : s ^ (m + 1) = s ^ m * s := Int.pow_succ ..
  have dv : (vs.length : Int) / s = s ^ m := by rw [← ln, e1, Int.mul_ediv_cancel _ (by omega)]
  have lem : s ^ m ≤ s ^ (m + 1) := pow_mono (by omega) (by omega)
  obtain ⟨S, hS⟩ : ∃ S : Nat, s ^ m = (S : Int) := ⟨(s ^ m).toNat, by omega⟩
  obtain ⟨g, hg⟩ : ∃ g, gcdL (plainOf s (m + 1) vs).2 = g := ⟨_, rfl⟩
  rw [hg] at gs
  have fits : ∀ {n k : Nat} {d : PyData}, Shw n k d → n ≤ 16000000 → k ≤ 60 → d.showable = true ∧ d.shown.length ≤ sizeLine ∧ d.depth ≤ 60 := fun h hn hk => ⟨h.sb, by rw [sizeLine_eq]; exact Nat.le_trans h.ln (by omega), Nat.le_trans h.dp hk⟩
  have fg := fits (shw_int (i := g) (by omega)) (by decide) (by decide)
  refine ⟨by simp, ?_⟩
  show DS K _ (t__law_divisor_right K) [.tp, .sh (wtD s (m + 1) vs), .no, .no, .no, .no, .no, .no, .no, .no, .no, .no, .no, .no] _ _ _ _
  unfold t__law_divisor_right
  refine DS_seq (DS_unpack ?_)
  repeat walk_at "d"
  refine ⟨7, rfl, by decide, big_lt (by decide), fun r r0 r1 => ?_⟩
  repeat walk_at "d"
  refine ⟨_, _, _, rfl, ?_⟩
  refine DA_nil ⟨by simp, _, rfl, rfl, rfl, ?_⟩
  obtain ⟨t, ht⟩ : ∃ t, r - 3 = t := ⟨_, rfl⟩
  rw [ht]
  show DS K _ _ [.tp, .sh (wtD s (m + 1) vs), .sh (.int t), .sh (wtD s (m + 1) vs), .no, .no, .no, .no, .no, .no, .no, .no, .no, .no] _ _ _ _
  refine DS_seq (DS_par ?_)
  repeat walk_at "d"
  refine ⟨s, m + 1, vs, rfl, hw, ?_⟩
  repeat walk_at "d"
  refine DR_ix (.inr ⟨_, 2, _, rfl, rfl, rfl, ?_⟩)
  refine DA_nil ⟨_, rfl, ?_⟩
  rw [hg]
  repeat walk_at "d"
  refine DR_ix (.inr ⟨_, 0, _, rfl, rfl, rfl, ?_⟩)
  repeat walk_at "d"
  refine DR_ix (.inr ⟨_, 1, _, rfl, rfl, rfl, ?_⟩)
  refine DA_cons (DE_new (DL_mapL (f := fun d => (match d with | .int n => PyData.int (t * n) | x => x : PyData)) ?_))
  repeat walk_at "d"
  refine DR_ix (.inr ⟨_, 2, _, rfl, rfl, rfl, ?_⟩)
  refine ⟨_, rfl, by rw [List.length_map]; omega, fun d hd => ?_, ?_⟩
  · obtain ⟨v, _, rfl⟩ := List.mem_map.mp hd
    repeat walk_at "d"
    exact DR_timesI ⟨_, _, rfl, rfl, .inl ⟨by omega, by omega⟩, rfl⟩
  have em : (vs.map PyData.int).map (fun d => (match d with | .int n => PyData.int (t * n) | x => x : PyData)) = (vs.map fun v => t * v).map .int := by
    rw [List.map_map, List.map_map]
    rfl
  rw [em]
  have wT : Wt s (m + 1) (vs.map fun v => t * v) := ⟨s2, s4, by omega, le, by rw [List.length_map]; exact ln⟩
  refine DA_nil ⟨by simp, ?_⟩
  refine DA_nil ⟨_, _, rfl, ?_⟩
  show DS K _ _ [.tp, .sh (wtD s (m + 1) vs), .sh (.int t), .sh (wtD s (m + 1) vs), .sh (.int g), .sh (wtD s (m + 1) (vs.map fun v => t * v)), .no, .no, .no, .no, .no, .no, .no, .no] _ _ _ _
  repeat walk_at "d"
  refine ⟨s, m + 1, vs, rfl, hw, ?_⟩
  rw [hg]
  repeat walk_at "d"
  refine ⟨fg.1, fg.2.1, fg.2.2, ?_⟩
  repeat walk_at "d"
  refine ⟨fg.1, fg.2.1, fg.2.2, DR_neS ⟨_, _, rfl, rfl, _, rfl, ?_⟩⟩
  rw [ne_self]
  refine iteF ?_
  repeat walk_at "d"
  refine ⟨shp_wt .., shp_wt .., _, rfl, ?_⟩
  rw [eqv_shaped (shp_wt ..)]
  refine iteF ?_
  repeat walk_at "d"
  refine ⟨s, m + 1, _, rfl, wT, ?_⟩
  rw [gt t, hg]
  repeat walk_at "d"
  rw [abs_if8]
  refine DR_timesI ⟨_, _, rfl, rfl, .inl ⟨by omega, by omega⟩, ?_⟩
  refine DR_ne ⟨shp_int _, shp_int _, _, rfl, iteF' (by rw [eqv_shaped (shp_int _)]; rfl) (DS_next ?_)⟩
  have rest : DS K (some p) (tSeq (tAsg (tOp rDivI (tCB (rLenA K) (tCons (tOp (rIx K) (tVar 1) (tC (.int 2))) tNil)) (tOp (rIx K) (tVar 1) (tC (.int 0)))) (gName 7))
    (tSeq (tAsg (tLc (iRg1 (tCons (tVar 7) tNil)) (gName 9) tYes (tOp rMinus (tCall (spT K W__law_draw) [] E0 (tCons (tVar 0) (tCons (tC (.int 9)) tNil))) (tC (.int 4))) [9]) (gName 8))
    (tSeq (tAsg (tLc (iRg1 (tCons (tCB (rLenA K) (tCons (tOp (rIx K) (tVar 1) (tC (.int 2))) tNil)) tNil)) (gName 11) tYes (tOp rMinus (tOp (rIx K) (tVar 8) (tOp rDivI (tVar 11) (tOp (rIx K) (tVar 1) (tC (.int 0))))) (tOp (rIx K) (tVar 8) (tOp rModI (tCB rIntA (tCons (tVar 11) tNil)) (tVar 7)))) [11]) (gName 10))
    (tSeq (tIfS (tTest (tOp (rNeU K) (tCall (spP K W_divisor) [] E0 (tCons (tTup (tCons (tOp (rIx K) (tVar 1) (tC (.int 0))) (tCons (tOp (rIx K) (tVar 1) (tC (.int 1))) (tCons (tVar 10) tNil)))) tNil)) (tC (.int 0))))
    (tRet (tC (.bl false)))
    tNext)
    (tRet (tOp (rEqU K) (tCall (spP K W_divisor) [] E0 (tCons (tTup (tCons (tOp (rIx K) (tVar 1) (tC (.int 0))) (tCons (tOp (rIx K) (tVar 1) (tC (.int 1))) (tCons (tLc (iZip K (tCons (tOp (rIx K) (tVar 1) (tC (.int 2))) (tCons (tVar 10) tNil))) (gTup K 2 (gNames [12, 13])) tYes (tOp (rPlus K) (tVar 12) (tVar 13)) [12, 13]) tNil)))) tNil)) (tVar 4))))))) [.tp, .sh (wtD s (m + 1) vs), .sh (.int t), .sh (wtD s (m + 1) vs), .sh (.int g), .sh (wtD s (m + 1) (vs.map fun v => t * v)), .no, .no, .no, .no, .no, .no, .no, .no] (fun _ => R .none) R NoR NoR := by
    repeat walk_at "d"
    refine DR_ix (.inr ⟨_, 2, _, rfl, rfl, rfl, ?_⟩)
    repeat walk_at "d"
    refine DR_ix (.inr ⟨_, 0, _, rfl, rfl, rfl, ?_⟩)
    rw [List.length_map]
    refine DR_div ⟨_, _, rfl, rfl, wide_div (b := 11) (by omega) (by omega) (by decide) (by decide), ?_⟩
    rw [dv, hS]
    refine DS_seq (DS_set (DE_new (DL_intsR1 (P := fun m => -4 ≤ m ∧ m ≤ 4) ?_)))
    repeat walk_at "d"
    refine ⟨by omega, fun k hk => ?_, fun ns nl hn => ?_⟩
    · repeat walk_at "d"
      refine ⟨9, rfl, by decide, big_lt (by decide), fun x x0 x1 => ?_⟩
      repeat walk_at "d"
      exact ⟨by omega, by omega⟩
    refine DS_seq (DS_set (DE_new (DL_mapR1 (f := fun k => .int (itm ns ((k : Int) / s) - itm ns ((k : Int) % s ^ m))) ?_)))
    repeat walk_at "d"
    refine DR_ix (.inr ⟨_, 2, _, rfl, rfl, rfl, ?_⟩)
    repeat walk_at "d"
    rw [List.length_map]
    refine ⟨by omega, fun k hk => ?_, ?_⟩
    · have hk' : (k : Int) < s ^ m * s := by omega
      have q0 : (0 : Int) ≤ k / s := Int.ediv_nonneg (by omega) (by omega)
      have q1 : (k : Int) / s < s ^ m := Int.ediv_lt_of_lt_mul hp hk'
      have r0 := Int.emod_nonneg (k : Int) (show s ^ m ≠ 0 by omega)
      have r1 := Int.emod_lt_of_pos (k : Int) pm
      repeat walk_at "d"
      refine DR_ix (.inr ⟨_, 0, _, rfl, rfl, rfl, ?_⟩)
      refine DR_div ⟨_, _, rfl, rfl, wide_div (b := 8) (by omega) (by omega) (by decide) (by decide), ?_⟩
      refine DR_ix (.inl ⟨_, _, _, rfl, rfl, atI_ok q0 (by omega), ?_⟩)
      repeat walk_at "d"
      refine .inl ⟨_, rfl, ?_⟩
      repeat walk_at "d"
      rw [← hS]
      refine ⟨pm, ?_⟩
      refine DR_ix (.inl ⟨_, _, _, rfl, rfl, atI_ok r0 (by omega), ?_⟩)
      repeat walk_at "d"
      rfl
    have eI : ((List.range vs.length).map fun k : Nat => PyData.int (itm ns ((k : Int) / s) - itm ns ((k : Int) % s ^ m))) = (shiftT s m (vs.map fun v => 0 * v) fun n => itm ns n).map .int := by
      unfold shiftT
      rw [List.map_map, List.length_map]
      refine List.map_congr_left fun k _ => ?_
      show _ = PyData.int (itm (vs.map fun v => 0 * v) k + itm ns ((k : Int) / s) - itm ns ((k : Int) % s ^ m))
      rw [zero_scale, Int.zero_add]
    rw [eI]
    have zl : s ^ (m + 1) = ((vs.map fun v => 0 * v).length : Int) := by rw [List.length_map]; exact ln
    have lI : (shiftT s m (vs.map fun v => 0 * v) fun n => itm ns n).length = vs.length := by
      unfold shiftT
      rw [List.length_map, List.length_range, List.length_map]
    have iI : ∀ k : Nat, k < vs.length → itm (shiftT s m (vs.map fun v => 0 * v) fun n => itm ns n) k = itm ns ((k : Int) / s) - itm ns ((k : Int) % s ^ m) := fun k hk => by
      unfold shiftT
      rw [itm_map (by omega) (by rw [List.length_map]; omega), Int.toNat_natCast, zero_scale, Int.zero_add]
    have wI : Wt s (m + 1) (shiftT s m (vs.map fun v => 0 * v) fun n => itm ns n) := ⟨s2, s4, by omega, le, by rw [lI]; exact ln⟩
    have zI := gcd_none wI fun r hr hs => by
      rw [ringSum_shift hp zl _ hr hs, ring_scale, Int.zero_mul]
    obtain ⟨idle, hI⟩ : ∃ idle, (shiftT s m (vs.map fun v => 0 * v) fun n => itm ns n) = idle := ⟨_, rfl⟩
    rw [hI] at wI zI lI iI ⊢
    repeat walk_at "d"
    refine DR_ix (.inr ⟨_, 0, _, rfl, rfl, rfl, ?_⟩)
    repeat walk_at "d"
    refine DR_ix (.inr ⟨_, 1, _, rfl, rfl, rfl, ?_⟩)
    repeat walk_at "d"
    refine ⟨by simp, ?_⟩
    repeat walk_at "d"
    refine ⟨s, m + 1, idle, rfl, wI, ?_⟩
    rw [zI]
    repeat walk_at "d"
    refine ⟨shp_int _, shp_int _, _, rfl, iteF' (by rw [eqv_shaped (shp_int _)]; rfl) (DS_next ?_)⟩
    repeat walk_at "d"
    refine DR_ix (.inr ⟨_, 0, _, rfl, rfl, rfl, ?_⟩)
    repeat walk_at "d"
    refine DR_ix (.inr ⟨_, 1, _, rfl, rfl, rfl, ?_⟩)
    refine DA_cons (DE_new (DL_lcZ (by decide) ?_))
    repeat walk_at "d"
    refine DR_ix (.inr ⟨_, 2, _, rfl, rfl, rfl, ?_⟩)
    repeat walk_at "d"
    refine ⟨_, _, rfl, by simp [lI], fun k acc => acc = ((List.range k).map fun (k : Nat) => itm vs k + itm ns ((k : Int) / s) - itm ns ((k : Int) % s ^ m)).map .int, rfl, ?_, ?_⟩
    · rintro j d e acc hd he rfl
      obtain ⟨v, hv, rfl⟩ := map_at hd
      obtain ⟨u, hu, rfl⟩ := map_at he
      have hj := (List.getElem?_eq_some_iff.mp hv).1
      refine ⟨by rw [List.length_map, List.length_map, List.length_range]; omega, DT_yes (iteT ?_)⟩
      repeat walk_at "d"
      refine DR_plusI ⟨_, _, rfl, rfl, ?_⟩
      have ev : v + u = itm vs j + itm ns ((j : Int) / s) - itm ns ((j : Int) % s ^ m) := by
        have a1 : itm vs j = v := by
          unfold itm
          rw [Int.toNat_natCast, List.getD_eq_getElem?_getD, hv]
          rfl
        have a2 : itm idle j = u := by
          unfold itm
          rw [Int.toNat_natCast, List.getD_eq_getElem?_getD, hu]
          rfl
        have a3 := iI j hj
        omega
      rw [ev]
      show _ = List.map PyData.int (List.map _ (List.range (j + 1)))
      rw [List.range_succ, List.map_append, List.map_append]
      rfl
    · rintro acc rfl
      rw [List.length_map]
      have eS : ((List.range vs.length).map fun (k : Nat) => itm vs k + itm ns ((k : Int) / s) - itm ns ((k : Int) % s ^ m)) = shiftT s m vs fun n => itm ns n := rfl
      rw [eS]
      have lS : (shiftT s m vs fun n => itm ns n).length = vs.length := by
        unfold shiftT
        rw [List.length_map, List.length_range]
      have wS : Wt s (m + 1) (shiftT s m vs fun n => itm ns n) := ⟨s2, s4, by omega, le, by rw [lS]; exact ln⟩
      have eq : plainOf s (m + 1) (shiftT s m vs fun n => itm ns n) = plainOf s (m + 1) vs := (plain_same wS hw).mpr fun r hr hs => ringSum_shift hp ln _ hr hs
      refine DA_nil ⟨by simp, ?_⟩
      refine DA_nil ⟨s, m + 1, _, rfl, wS, ?_⟩
      rw [eq, hg]
      repeat walk_at "d"
      refine ⟨shp_int _, shp_int _, ?_⟩
      rw [eqv_shaped (shp_int _)]
      exact q
  refine DS_seq ?_
  repeat walk_at "d"
  refine DR_ix (.inr ⟨_, 0, _, rfl, rfl, rfl, ?_⟩)
  repeat walk_at "d"
  refine DR_ix (.inr ⟨_, 1, _, rfl, rfl, rfl, ?_⟩)
  refine DR_timesI ⟨_, _, rfl, rfl, .inl ⟨by omega, by omega⟩, ?_⟩
  repeat walk_at "d"
  refine ⟨s, 2 * ((m + 1 : Nat) : Int) - 1, rfl, s2, s4, ?_⟩
  rw [show (2 * ((m + 1 : Nat) : Int) - 1).toNat = 2 * (m + 1) - 1 by omega]
  repeat walk_at "d"
  refine ite2 (fun h => ?_) fun h => DS_next rest
  have h := of_decide_eq_true h
  repeat walk_at "d"
  refine ⟨s, m + 1, vs, rfl, hw, h, ?_⟩
  rw [hg]
  repeat walk_at "d"
  refine ⟨shp_int _, shp_int _, _, rfl, iteF' (by rw [eqv_shaped (shp_int _)]; rfl) (DS_next rest)⟩

end Cf
/-! the same layer for lists of draws that count: a budget β of draws, shared out from above -/
namespace Cg
open PySem PySem.Spec PyProof.Rows L2 Cf
open Evl (Ex)
/-- how far a list of draws may count -/
def Lim : Int := 2 ^ 4000
/-- the list of draws: where it is, whether it counts -/
structure Al where
  a : Addr
  b : Bool
/-- a list of draws from which β more can be drawn -/
inductive TapOk (β : Nat) : Bool → List V → Prop
  | three (x y z : Int) (x0 : 0 ≤ x) (y0 : 0 ≤ y) (y1 : y < 2 ^ 200) (z0 : 0 ≤ z) (z1 : z + β ≤ Lim) : TapOk β true [.int x, .int y, .int z]
  | two (x y : Int) (x0 : 0 ≤ x) (y0 : 0 ≤ y) (y1 : y < 2 ^ 64) : TapOk β false [.int x, .int y]
theorem TapOk.mono {β γ : Nat} {b : Bool} {xs : List V} (h : TapOk β b xs) (l : γ ≤ β) : TapOk γ b xs := by
  cases h with
  | three x y z x0 y0 y1 z0 z1 => exact .three x y z x0 y0 y1 z0 (by omega)
  | two x y x0 y0 y1 => exact .two x y x0 y0 y1
def Bud (α : Al) (β : Nat) (H : Hp) : Prop := ∃ xs, H α.a = some (.lst xs) ∧ TapOk β α.b xs
theorem Bud.mono {α : Al} {β γ : Nat} {H : Hp} (h : Bud α β H) (l : γ ≤ β) : Bud α γ H := by
  obtain ⟨xs, a, b⟩ := h
  exact ⟨xs, a, b.mono l⟩
/-- at most β are drawn from H to H' -/
def To (α : Al) (β : Nat) (H H' : Hp) : Prop := ∀ u, Bud α (β + u) H → Bud α u H'
theorem To.mono {α : Al} {β γ : Nat} {H H' : Hp} (h : To α β H H') (l : β ≤ γ) : To α γ H H' := fun u b => h u (b.mono (by omega))
theorem To.trans {α : Al} {β γ δ : Nat} {H H' H2 : Hp} (h : To α β H H') (h' : To α γ H' H2) (l : β + γ ≤ δ) : To α δ H H2 := fun u b => h' u (h (γ + u) (b.mono (by omega)))
theorem To.rfl {α : Al} {β : Nat} {H : Hp} : To α β H H := fun u b => b.mono (by omega)
def TpOk (α : Al) (β : Nat) (F H : Hp) : Prop := F α.a = none ∧ Bud α β H
structure At (K : PySem.W.Frag) (α : Al) (β : Nat) (F0 H0 F H : Hp) (σ : L2.St) (ρ : Rho) : Prop where
  gr : Gr (some α.a) F0 H0 F H
  len : σ.length = ρ.length
  sl : ∀ (i : Nat) (o : Option V) (s : Sl), σ[i]? = some o → ρ[i]? = some s → SlOk K (some α.a) F0 H0 F H o s
  ap : ∀ (i j : Nat) (p : Addr) (ds es : List PyData), i ≠ j → ρ[i]? = some (.ow ds) → ρ[j]? = some (.ow es) → σ[i]? = some (some (.ref p)) → σ[j]? ≠ some (some (.ref p))
  tp : TpOk α β F H

section
variable {K : PySem.W.Frag} {α : Al} {β γ : Nat} {F0 H0 F H F' H' : Hp} {σ : L2.St} {ρ : Rho} {i : Nat} {d : PyData} {v : V}
theorem At.slot (A : At K α β F0 H0 F H σ ρ) {s : Sl} (h : ρ[i]? = some s) : ∃ o, σ[i]? = some o ∧ SlOk K (some α.a) F0 H0 F H o s := by
  have hi : i < σ.length := by
    rw [A.len]
    exact (List.getElem?_eq_some_iff.mp h).1
  exact ⟨σ[i], List.getElem?_eq_getElem hi, A.sl i _ s (List.getElem?_eq_getElem hi) h⟩
theorem At.var (A : At K α β F0 H0 F H σ ρ) (h : ρ[i]? = some (.sh d)) : ∃ v, σ[i]? = some (some v) ∧ Dq K F d v := by
  obtain ⟨o, e, v, rfl, q⟩ := A.slot h
  exact ⟨v, e, q⟩
theorem At.own (A : At K α β F0 H0 F H σ ρ) {ds : List PyData} (h : ρ[i]? = some (.ow ds)) :
    ∃ p xs, σ[i]? = some (some (.ref p)) ∧ H p = some (.lst xs) ∧ F p = none ∧ H0 p = none ∧ some α.a ≠ some p ∧ Dqs K F ds xs := by
  obtain ⟨o, e, p, xs, rfl, q⟩ := A.slot h
  exact ⟨p, xs, e, q⟩
/-- the heaps grow, the slots stay -/
theorem At.grow (A : At K α β F0 H0 F H σ ρ) (g : Gr (some α.a) F H F' H') (ht : TpOk α γ F' H') : At K α γ F0 H0 F' H' σ ρ where
  gr := A.gr.trans g fun a e => by cases e; exact ht.1
  len := A.len
  sl := fun i o s h1 h2 => by
    have q := A.sl i o s h1 h2
    cases s with
    | no => trivial
    | sh d =>
      obtain ⟨v, e, h⟩ := q
      exact ⟨v, e, h.up g.ff⟩
    | ow ds =>
      obtain ⟨p, xs, e, h1, h2, h3, h4, h5⟩ := q
      refine ⟨p, xs, e, g.hh p _ h4 h1, ?_, h3, h4, h5.up g.ff⟩
      cases e' : F' p with
      | none => rfl
      | some o =>
        have z := g.nw p o e' h2
        rw [h1] at z
        cases z
    | tp => exact q
    | vl v => exact q
    | od d => exact q
    | nw d =>
      obtain ⟨v, e, h, n⟩ := q
      exact ⟨v, e, h.up g.ff, n.up g.ff⟩
    | dk p kvs =>
      obtain ⟨e, ⟨xs, h1, hq⟩, h2, h3, h4⟩ := q
      refine ⟨e, ⟨xs, g.hh p _ h4 h1, hq.up g.ff⟩, ?_, h3, h4⟩
      cases e' : F' p with
      | none => rfl
      | some o =>
        have z := g.nw p o e' h2
        rw [h1] at z
        cases z
    | dt p kvs =>
      obtain ⟨e, ⟨xs, h1, hq⟩, h2, h3, h4⟩ := q
      refine ⟨e, ⟨xs, g.hh p _ h4 h1, hq.up g.ff⟩, ?_, h3, h4⟩
      cases e' : F' p with
      | none => rfl
      | some o =>
        have z := g.nw p o e' h2
        rw [h1] at z
        cases z
  ap := A.ap
  tp := ht
/-- what a pure callee leaves -/
theorem TpOk.call (h : TpOk α β F H) (g : Gr none F H F' H') : TpOk α β F' H' := by
  obtain ⟨h1, xs, h2, h3⟩ := h
  refine ⟨?_, xs, g.hh α.a _ (by simp) h2, h3⟩
  cases e' : F' α.a with
  | none => rfl
  | some o =>
    have q := g.nw α.a o e' h1
    rw [h2] at q
    cases q
theorem At.call (A : At K α β F0 H0 F H σ ρ) (g : Gr none F H F' H') : At K α β F0 H0 F' H' σ ρ := A.grow g.any (A.tp.call g)
theorem At.fh (A : At K α β F0 H0 F H σ ρ) : Ex F H := A.gr.fh
/-- a slot is given another value -/
theorem At.set (A : At K α β F0 H0 F H σ ρ) {s : Sl} {o : Option V} (h : SlOk K (some α.a) F0 H0 F H o s) (hn : ∀ ds, s ≠ .ow ds) : At K α β F0 H0 F H (σ.set i o) (ρ.set i s) where
  gr := A.gr
  len := by rw [List.length_set, List.length_set, A.len]
  sl := fun j o' s' h1 h2 => by
    by_cases e : i = j
    · subst e
      have hi : i < σ.length := by
        have := (List.getElem?_eq_some_iff.mp h1).1
        rwa [List.length_set] at this
      rw [List.getElem?_set_self hi] at h1
      rw [List.getElem?_set_self (by rw [← A.len]; exact hi)] at h2
      cases h1
      cases h2
      exact h
    · rw [List.getElem?_set_ne e] at h1 h2
      exact A.sl j o' s' h1 h2
  ap := fun a b p ds es n h1 h2 h3 => by
    have ha : i ≠ a := fun e => by
      subst e
      have hi := (List.getElem?_eq_some_iff.mp h1).1
      rw [List.length_set] at hi
      rw [List.getElem?_set_self hi] at h1
      cases h1
      exact hn ds rfl
    have hb : i ≠ b := fun e => by
      subst e
      have hi := (List.getElem?_eq_some_iff.mp h2).1
      rw [List.length_set] at hi
      rw [List.getElem?_set_self hi] at h2
      cases h2
      exact hn es rfl
    rw [List.getElem?_set_ne ha] at h1 h3
    rw [List.getElem?_set_ne hb] at h2 ⊢
    exact A.ap a b p ds es n h1 h2 h3
  tp := A.tp
/-- a slot is given a list of its own -/
theorem At.setOw (A : At K α β F0 H0 F H σ ρ) {p : Addr} {ds : List PyData} (h : SlOk K (some α.a) F0 H0 F H (some (.ref p)) (.ow ds)) (hn : ∀ (j : Nat) (es : List PyData), i ≠ j → ρ[j]? = some (.ow es) → σ[j]? ≠ some (some (.ref p))) :
    At K α β F0 H0 F H (σ.set i (some (.ref p))) (ρ.set i (.ow ds)) where
  gr := A.gr
  len := by rw [List.length_set, List.length_set, A.len]
  sl := fun j o' s' h1 h2 => by
    by_cases e : i = j
    · subst e
      have hi : i < σ.length := by
        have := (List.getElem?_eq_some_iff.mp h1).1
        rwa [List.length_set] at this
      rw [List.getElem?_set_self hi] at h1
      rw [List.getElem?_set_self (by rw [← A.len]; exact hi)] at h2
      cases h1
      cases h2
      exact h
    · rw [List.getElem?_set_ne e] at h1 h2
      exact A.sl j o' s' h1 h2
  ap := fun a b q ds' es n h1 h2 h3 => by
    by_cases ha : i = a
    · subst ha
      have hi : i < σ.length := by
        have := (List.getElem?_eq_some_iff.mp h3).1
        rwa [List.length_set] at this
      rw [List.getElem?_set_self hi] at h3
      cases h3
      rw [List.getElem?_set_ne n] at h2 ⊢
      exact hn b es n h2
    · rw [List.getElem?_set_ne ha] at h1 h3
      by_cases hb : i = b
      · subst hb
        intro h4
        have hi : i < σ.length := by
          have := (List.getElem?_eq_some_iff.mp h4).1
          rwa [List.length_set] at this
        rw [List.getElem?_set_self hi] at h4
        cases h4
        exact hn a ds' (fun e => ha e) h1 h3
      · rw [List.getElem?_set_ne hb] at h2 ⊢
        exact A.ap a b q ds' es n h1 h2 h3
  tp := A.tp
/-- an owned list is changed -/
theorem At.put (A : At K α β F0 H0 F H σ ρ) {p : Addr} {ds es : List PyData} {ys : List V} (h : ρ[i]? = some (.ow ds)) (hp : σ[i]? = some (some (.ref p))) (hy : Dqs K F es ys) :
    At K α β F0 H0 F (upd H p (.lst ys)) σ (ρ.set i (.ow es)) := by
  obtain ⟨p', xs, e, h1, h2, h3, h4, h5⟩ := A.own h
  rw [hp] at e
  cases e
  refine ⟨⟨A.gr.ff, fun a o n q => ?_, fun a o q => ?_, A.gr.nw⟩, ?_, fun j o s q1 q2 => ?_, fun a b q ds' es' n q1 q2 q3 => ?_, ?_⟩
  · rw [upd_ne (fun z => by rw [z, h3] at q; cases q)]
    exact A.gr.hh a o n q
  · rw [upd_ne (fun z => by rw [z, h2] at q; cases q)]
    exact A.fh a o q
  · rw [List.length_set]
    exact A.len
  · by_cases z : i = j
    · subst z
      have hi : i < ρ.length := (List.getElem?_eq_some_iff.mp h).1
      rw [List.getElem?_set_self hi] at q2
      cases q2
      rw [hp] at q1
      cases q1
      exact ⟨p, ys, rfl, upd_same, h2, h3, h4, hy⟩
    · rw [List.getElem?_set_ne z] at q2
      have w := A.sl j o s q1 q2
      cases s with
      | no => trivial
      | sh d => exact w
      | ow fs =>
        obtain ⟨r, zs, e, w1, w2⟩ := w
        subst e
        refine ⟨r, zs, rfl, ?_, w2⟩
        rw [upd_ne (fun y => A.ap i j p ds fs z h q2 hp (by rw [q1, y]))]
        exact w1
      | tp => exact w
      | vl v => exact w
      | od d => exact w
      | nw d => exact w
      | dk r kvs =>
        obtain ⟨e, ⟨zs, w1, wq⟩, w2⟩ := w
        exact ⟨e, ⟨zs, by rw [upd_ne (fun y => by rw [y, h1] at w1; cases w1)]; exact w1, wq⟩, w2⟩
      | dt r kvs =>
        obtain ⟨e, ⟨zs, w1, wq⟩, w2⟩ := w
        exact ⟨e, ⟨zs, by rw [upd_ne (fun y => by rw [y, h1] at w1; cases w1)]; exact w1, wq⟩, w2⟩
  · have ow : ∀ (c : Nat) (fs : List PyData), (ρ.set i (Sl.ow es))[c]? = some (Sl.ow fs) → ∃ gs, ρ[c]? = some (Sl.ow gs) := fun c fs z => by
      by_cases y : i = c
      · subst y
        exact ⟨ds, h⟩
      · rw [List.getElem?_set_ne y] at z
        exact ⟨fs, z⟩
    obtain ⟨g1, r1⟩ := ow a ds' q1
    obtain ⟨g2, r2⟩ := ow b es' q2
    exact A.ap a b q g1 g2 n r1 r2 q3
  · obtain ⟨w1, xs, w2, w3⟩ := A.tp
    refine ⟨w1, xs, ?_, w3⟩
    rw [upd_ne (fun e => h4 (by rw [e]))]
    exact w2
/-- an owned list is frozen -/
theorem At.freeze (A : At K α β F0 H0 F H σ ρ) {ds : List PyData} (h : ρ[i]? = some (.ow ds)) : ∃ F', At K α β F0 H0 F' H σ (ρ.set i (.sh (.list ds))) ∧ Ex F F' := by
  obtain ⟨p, xs, e, h1, h2, h3, h4, h5⟩ := A.own h
  have ef : Ex F (upd F p (.lst xs)) := Ex.new h2
  refine ⟨upd F p (.lst xs), ⟨⟨A.gr.ff.trans ef, A.gr.hh, fun a o q => ?_, fun a o q f => ?_⟩, ?_, fun j o s q1 q2 => ?_, fun a b q ds' es' n q1 q2 q3 => ?_, ?_⟩, ef⟩
  · by_cases z : a = p
    · subst z
      rw [upd_same] at q
      cases q
      exact h1
    · rw [upd_ne z] at q
      exact A.fh a o q
  · by_cases z : a = p
    · subst z
      exact h3
    · rw [upd_ne z] at q
      exact A.gr.nw a o q f
  · rw [List.length_set]
    exact A.len
  · by_cases z : i = j
    · subst z
      have hi : i < ρ.length := (List.getElem?_eq_some_iff.mp h).1
      rw [List.getElem?_set_self hi] at q2
      cases q2
      rw [e] at q1
      cases q1
      exact ⟨.ref p, rfl, .lst (.inl (.inl upd_same)) (h5.up ef)⟩
    · rw [List.getElem?_set_ne z] at q2
      have w := A.sl j o s q1 q2
      cases s with
      | no => trivial
      | sh d =>
        obtain ⟨v, e', w'⟩ := w
        exact ⟨v, e', w'.up ef⟩
      | ow fs =>
        obtain ⟨r, zs, e', w1, w2, w3, w4, w5⟩ := w
        subst e'
        refine ⟨r, zs, rfl, w1, ?_, w3, w4, w5.up ef⟩
        rw [upd_ne (fun y => A.ap i j p ds fs z h q2 e (by rw [q1, y]))]
        exact w2
      | tp => exact w
      | vl v => exact w
      | od d => exact w
      | nw d =>
        obtain ⟨v, e', w', n'⟩ := w
        exact ⟨v, e', w'.up ef, n'.up ef⟩
      | dk r kvs =>
        obtain ⟨e', ⟨zs, w1, wq⟩, w2, w3⟩ := w
        exact ⟨e', ⟨zs, w1, wq.up ef⟩, by rw [upd_ne (fun y => by rw [y, h1] at w1; cases w1)]; exact w2, w3⟩
      | dt r kvs =>
        obtain ⟨e', ⟨zs, w1, wq⟩, w2, w3⟩ := w
        exact ⟨e', ⟨zs, w1, wq.up ef⟩, by rw [upd_ne (fun y => by rw [y, h1] at w1; cases w1)]; exact w2, w3⟩
  · have ow : ∀ (c : Nat) (fs : List PyData), (ρ.set i (Sl.sh (.list ds)))[c]? = some (Sl.ow fs) → ρ[c]? = some (Sl.ow fs) := fun c fs z => by
      by_cases y : i = c
      · subst y
        have hi : i < ρ.length := (List.getElem?_eq_some_iff.mp h).1
        rw [List.getElem?_set_self hi] at z
        cases z
      · rw [List.getElem?_set_ne y] at z
        exact z
    exact A.ap a b q ds' es' n (ow a ds' q1) (ow b es' q2) q3
  · obtain ⟨w1, xs, w2, w3⟩ := A.tp
    refine ⟨?_, xs, w2, w3⟩
    rw [upd_ne (fun e => h4 (by rw [e]))]
    exact w1
end

theorem At.mono {K : PySem.W.Frag} {α : Al} {β γ : Nat} {F0 H0 F H : Hp} {σ : L2.St} {ρ : Rho} (A : At K α β F0 H0 F H σ ρ) (l : γ ≤ β) : At K α γ F0 H0 F H σ ρ := ⟨A.gr, A.len, A.sl, A.ap, A.tp.1, A.tp.2.mono l⟩
theorem At.bud {K : PySem.W.Frag} {α : Al} {β γ : Nat} {F0 H0 F H : Hp} {σ : L2.St} {ρ : Rho} (A : At K α β F0 H0 F H σ ρ) (l : Bud α γ H) : At K α γ F0 H0 F H σ ρ := ⟨A.gr, A.len, A.sl, A.ap, A.tp.1, l⟩
end Cg
namespace Cg
open PySem PySem.Spec PyProof.Rows L2 Cf
open Evl (Ex)

/-- a step of evaluation: nothing that was there changes, but the draws, at most β of them -/
structure Stp (α : Al) (β : Nat) (F H F' H' : Hp) : Prop where
  g : Gr (some α.a) F H F' H'
  n : F' α.a = none
  to : To α β H H'
section
variable {K : PySem.W.Frag} {α : Al} {β γ : Nat} {F0 H0 F H F' H' F2 H2 : Hp} {σ : L2.St} {ρ : Rho}
theorem At.h (A : At K α β F0 H0 F H σ ρ) : At K α (β / 2) F0 H0 F H σ ρ := A.mono (Nat.div_le_self _ _)
theorem At.z (A : At K α β F0 H0 F H σ ρ) : At K α 0 F0 H0 F H σ ρ := A.mono (Nat.zero_le _)
theorem At.step (A : At K α β F0 H0 F H σ ρ) {u : Nat} (e : Stp α γ F H F' H') (l : γ + u ≤ β) : At K α u F0 H0 F' H' σ ρ := A.grow e.g ⟨e.n, e.to u (A.tp.2.mono l)⟩
theorem half_two (β : Nat) : β / 2 + β / 2 ≤ β := by omega
theorem At.nx (A : At K α β F0 H0 F H σ ρ) (e : Stp α (β / 2) F H F' H') : At K α (β / 2) F0 H0 F' H' σ ρ := A.step e (half_two β)
theorem At.st (A : At K α β F0 H0 F H σ ρ) (e : Stp α β F H F' H') : At K α 0 F0 H0 F' H' σ ρ := A.step e (Nat.le_refl _)
theorem Stp.ff (e : Stp α β F H F' H') : Ex F F' := e.g.ff
theorem Stp.mono (e : Stp α β F H F' H') (l : β ≤ γ) : Stp α γ F H F' H' := ⟨e.g, e.n, e.to.mono l⟩
theorem Stp.up (e : Stp α (β / 2) F H F' H') : Stp α β F H F' H' := e.mono (Nat.div_le_self _ _)
theorem Stp.tr {δ : Nat} (e : Stp α β F H F' H') (e' : Stp α γ F' H' F2 H2) (l : β + γ ≤ δ) : Stp α δ F H F2 H2 := ⟨e.g.trans e'.g fun a z => by cases z; exact e'.n, e'.n, e.to.trans e'.to l⟩
theorem Stp.two (e : Stp α (β / 2) F H F' H') (e' : Stp α (β / 2) F' H' F2 H2) : Stp α β F H F2 H2 := e.tr e' (half_two β)
theorem to_call (g : Gr none F H F' H') : To α 0 H H' := fun u ⟨xs, h1, h2⟩ => ⟨xs, g.hh α.a _ (by simp) h1, h2.mono (by omega)⟩
theorem At.stp (A : At K α β F0 H0 F H σ ρ) (g : Gr none F H F' H') : Stp α 0 F H F' H' := ⟨g.any, (A.call g).tp.1, to_call g⟩
theorem Stp.pure (e : Stp α β F H F' H') (g : Gr none F' H' F2 H2) (b : Bud α γ H') : Stp α β F H F2 H2 :=
  e.tr (γ := 0) ⟨g.any, (TpOk.call (β := γ) ⟨e.n, b⟩ g).1, to_call g⟩ (by omega)
theorem Stp.back (e : Stp α β F H F' H') (b : Bud α γ H') {p : Addr} (n : H' p = none) : H p = none := by
  have nt : some α.a ≠ some p := fun z => by
    cases z
    obtain ⟨xs, h, _⟩ := b
    rw [n] at h
    cases h
  exact none_back (fun o q => e.g.hh p o nt q) n
/-- what is new is frozen -/
theorem Stp.ice (A : At K α γ F0 H0 F H σ ρ) (e : Stp α β F H F' H') {p : Addr} {xs : List V} {ds : List PyData} (f : H p = none) (n : F' p = none) (h : H' p = some (.lst xs)) (q : Dqs K F' ds xs) :
    Stp α β F H (upd F' p (.lst xs)) H' ∧ Dq K (upd F' p (.lst xs)) (.list ds) (.ref p) := by
  have e1 : Ex F' (upd F' p (.lst xs)) := Ex.new n
  refine ⟨⟨⟨e.ff.trans e1, e.g.hh, fun a o z => ?_, fun a o z w => ?_⟩, ?_, e.to⟩, .lst (.inl (.inl upd_same)) (q.up e1)⟩
  · by_cases y : a = p
    · subst y
      rw [upd_same] at z
      cases z
      exact h
    · rw [upd_ne y] at z
      exact e.g.fh a o z
  · by_cases y : a = p
    · rw [y]
      exact f
    · rw [upd_ne y] at z
      exact e.g.nw a o z w
  · by_cases y : α.a = p
    · subst y
      obtain ⟨_, ys, w4, _⟩ := A.tp
      rw [f] at w4
      cases w4
    · rw [upd_ne y]
      exact e.n
theorem At.rfl (A : At K α β F0 H0 F H σ ρ) : Stp α γ F H F H := ⟨Gr.refl A.fh, A.tp.1, To.rfl⟩
end

def DE (K : PySem.W.Frag) (α : Al) (β : Nat) (te : TE) (ρ : Rho) (Q : PyData → Prop) : Prop :=
  ∀ (F0 H0 F H : Hp) (σ : L2.St), At K α β F0 H0 F H σ ρ → ∀ QK : VK, (∀ d v F' H', Q d → Stp α β F H F' H' → Dq K F' d v → QK v H') → te σ H QK
/-- p is apart from what was there -/
structure Fs (α : Al) (H0 : Hp) (σ : L2.St) (ρ : Rho) (p : Addr) : Prop where
  old : H0 p = none
  tap : some α.a ≠ some p
  own : ∀ (j : Nat) (es : List PyData), ρ[j]? = some (.ow es) → σ[j]? ≠ some (some (.ref p))
theorem At.fs {K : PySem.W.Frag} {α : Al} {β : Nat} {F0 H0 F H : Hp} {σ : L2.St} {ρ : Rho} (A : At K α β F0 H0 F H σ ρ) {p : Addr} (n : H p = none) : Fs α H0 σ ρ p := by
  have nt : some α.a ≠ some p := fun e => by
    cases e
    obtain ⟨_, xs, h, _⟩ := A.tp
    rw [n] at h
    cases h
  refine ⟨none_back (fun o q => A.gr.hh p o nt q) n, nt, fun j es h e => ?_⟩
  obtain ⟨q, xs, e', h1, _⟩ := A.own h
  rw [e] at e'
  cases e'
  rw [n] at h1
  cases h1
/-- a new list, not frozen -/
def DL (K : PySem.W.Frag) (α : Al) (β : Nat) (te : TE) (ρ : Rho) (Q : List PyData → Prop) : Prop :=
  ∀ (F0 H0 F H : Hp) (σ : L2.St), At K α β F0 H0 F H σ ρ → ∀ QK : VK, (∀ ds p xs F' H', Q ds → Stp α β F H F' H' → H p = none → F' p = none → H' p = some (.lst xs) → Dqs K F' ds xs → QK (.ref p) H') → te σ H QK
def DA (K : PySem.W.Frag) (α : Al) (β : Nat) (ta : TA) (ρ : Rho) (Q : List PyData → Prop) : Prop :=
  ∀ (F0 H0 F H : Hp) (σ : L2.St), At K α β F0 H0 F H σ ρ → ∀ QK : List V → Hp → Prop, (∀ ds vs F' H', Q ds → Stp α β F H F' H' → Dqs K F' ds vs → QK vs H') → ta σ H QK
def DT (K : PySem.W.Frag) (α : Al) (β : Nat) (tt : TT) (ρ : Rho) (Q : Bool → Prop) : Prop :=
  ∀ (F0 H0 F H : Hp) (σ : L2.St), At K α β F0 H0 F H σ ρ → ∀ QK : Bool → Hp → Prop, (∀ b F' H', Q b → Stp α β F H F' H' → QK b H') → tt σ H QK
def DO (K : PySem.W.Frag) (α : Al) (β : Nat) (to : TO) (ρ : Rho) (Q : Option Int → Prop) : Prop :=
  ∀ (F0 H0 F H : Hp) (σ : L2.St), At K α β F0 H0 F H σ ρ → ∀ QK : Option Int → Hp → Prop, (∀ b F' H', Q b → Stp α β F H F' H' → QK b H') → to σ H QK

section
variable {K : PySem.W.Frag} {α : Al} {β γ : Nat} {ρ : Rho} {i : Nat} {d : PyData} {te ta tb tc : TE} {Q : PyData → Prop}
theorem DE.mono {Q' : PyData → Prop} (h : DE K α β te ρ Q) (m : ∀ d, Q d → Q' d) : DE K α β te ρ Q' := fun F0 H0 F H σ A QK k => h F0 H0 F H σ A QK fun d v F' H' q => k d v F' H' (m d q)
theorem DT.mono {tt : TT} {Q Q' : Bool → Prop} (h : DT K α β tt ρ Q) (m : ∀ d, Q d → Q' d) : DT K α β tt ρ Q' := fun F0 H0 F H σ A QK k => h F0 H0 F H σ A QK fun d F' H' q => k d F' H' (m d q)
theorem DL.mono {Q Q' : List PyData → Prop} (h : DL K α β te ρ Q) (m : ∀ d, Q d → Q' d) : DL K α β te ρ Q' := fun F0 H0 F H σ A QK k => h F0 H0 F H σ A QK fun ds p xs F' H' q => k ds p xs F' H' (m ds q)
theorem DE_var (h : ρ[i]? = some (.sh d)) (q : Q d) : DE K α β (tVar i) ρ Q := fun F0 H0 F H σ A QK k => by
  obtain ⟨v, e, z⟩ := A.var h
  exact ⟨v, e, k d v F H q A.rfl z⟩
theorem DE_int {z : Int} (q : Q (.int z)) : DE K α β (tC (.int z)) ρ Q := fun F0 H0 F H σ A QK k => k _ _ F H q A.rfl (.int z)
theorem DE_str {z : Str} (q : Q (.str z)) : DE K α β (tC (.str z)) ρ Q := fun F0 H0 F H σ A QK k => k _ _ F H q A.rfl (.str z)
theorem DE_bl {z : Bool} (q : Q (.bool z)) : DE K α β (tC (.bl z)) ρ Q := fun F0 H0 F H σ A QK k => k _ _ F H q A.rfl (.bl z)
theorem DE_non (q : Q .none) : DE K α β (tC .non) ρ Q := fun F0 H0 F H σ A QK k => k _ _ F H q A.rfl .non
theorem DE_op {r : R2} (h : DE K α (β / 2) ta ρ fun x => DE K α (β / 2) tb ρ fun y => DR K r x y Q) : DE K α β (tOp r ta tb) ρ Q := fun F0 H0 F H σ A QK k =>
  h F0 H0 F H σ A.h _ fun x v F1 H1 hb e1 q1 => have A1 := A.nx e1;  hb F0 H0 F1 H1 σ A1 _ fun y w F2 H2 hr e2 q2 => have A2 := A1.st e2;  hr v w F2 H2 A2.fh (q1.up e2.ff) q2 QK fun d u F3 H3 q g q3 =>
    k d u F3 H3 q ((e1.two e2).pure g A2.tp.2) q3
theorem DL_op {r : R2} {Q : List PyData → Prop} (h : DE K α (β / 2) ta ρ fun x => DE K α (β / 2) tb ρ fun y => DRL K r x y Q) : DL K α β (tOp r ta tb) ρ Q := fun F0 H0 F H σ A QK k =>
  h F0 H0 F H σ A.h _ fun x v F1 H1 hb e1 q1 => have A1 := A.nx e1;  hb F0 H0 F1 H1 σ A1 _ fun y w F2 H2 hr e2 q2 => have A2 := A1.st e2;  hr v w F2 H2 A2.fh (q1.up e2.ff) q2 QK fun ds p xs F3 H3 q g n1 n2 n3 q3 =>
    k ds p xs F3 H3 q ((e1.two e2).pure g A2.tp.2) ((e1.two e2).back A2.tp.2 n1) n2 n3 q3
theorem DE_new (h : DL K α β te ρ fun ds => Q (.list ds)) : DE K α β te ρ Q := fun F0 H0 F H σ A QK k => h F0 H0 F H σ A QK fun ds p xs F' H' q e f n1 n2 z => by
  obtain ⟨e2, z2⟩ := e.ice A f n1 n2 z
  exact k _ _ _ _ q e2 z2
theorem DE_un {r : V → Hp → VK → Prop} (h : DE K α β ta ρ fun x => DU K r x Q) : DE K α β (tUn r ta) ρ Q := fun F0 H0 F H σ A QK k =>
  h F0 H0 F H σ A _ fun x v F1 H1 hr e1 q1 => have A1 := A.st e1;  hr v F1 H1 A1.fh q1 QK fun d u F3 H3 q g q3 => k d u F3 H3 q (e1.pure g A1.tp.2) q3
theorem DE_cb {r : List V → Hp → VK → Prop} {tr : TA} (h : DA K α β tr ρ fun xs => DC K r xs Q) : DE K α β (tCB r tr) ρ Q := fun F0 H0 F H σ A QK k =>
  h F0 H0 F H σ A _ fun x v F1 H1 hr e1 q1 => have A1 := A.st e1;  hr v F1 H1 A1.fh q1 QK fun d u F3 H3 q g q3 => k d u F3 H3 q (e1.pure g A1.tp.2) q3
theorem DL_cb {r : List V → Hp → VK → Prop} {tr : TA} {Q : List PyData → Prop} (h : DA K α β tr ρ fun xs => DCL K r xs Q) : DL K α β (tCB r tr) ρ Q := fun F0 H0 F H σ A QK k =>
  h F0 H0 F H σ A _ fun x v F1 H1 hr e1 q1 => have A1 := A.st e1;  hr v F1 H1 A1.fh q1 QK fun ds p ys F3 H3 q g n1 n2 n3 q3 => k ds p ys F3 H3 q (e1.pure g A1.tp.2) (e1.back A1.tp.2 n1) n2 n3 q3
theorem DA_nil {Q : List PyData → Prop} (q : Q []) : DA K α β tNil ρ Q := fun F0 H0 F H σ A QK k => k [] [] F H q A.rfl .nil
theorem DA_cons {tr : TA} {Q : List PyData → Prop} (h : DE K α (β / 2) te ρ fun x => DA K α (β / 2) tr ρ fun xs => Q (x :: xs)) : DA K α β (tCons te tr) ρ Q := fun F0 H0 F H σ A QK k =>
  h F0 H0 F H σ A.h _ fun x v F1 H1 hr e1 q1 => have A1 := A.nx e1;  hr F0 H0 F1 H1 σ A1 _ fun xs vs F2 H2 q e2 q2 => k _ _ F2 H2 q (e1.two e2) (.cons (q1.up e2.ff) q2)
theorem DE_tup {tr : TA} (h : DA K α β tr ρ fun xs => xs.length ≤ 100000 ∧ Q (.tuple xs)) : DE K α β (tTup tr) ρ Q := fun F0 H0 F H σ A QK k =>
  h F0 H0 F H σ A _ fun xs vs F1 H1 hq e1 q1 => have A1 := A.st e1;  ⟨Evl.sz_of (by rw [q1.len]; exact hq.1), fun p n =>
    have g := Gr.new A1.fh (o := .tup vs) n
    k _ _ _ _ hq.2 (e1.pure g A1.tp.2) (.tup (.inl (.inl upd_same)) (q1.up g.ff))⟩
theorem DL_lst {tr : TA} {Q : List PyData → Prop} (h : DA K α β tr ρ fun xs => xs.length ≤ 100000 ∧ Q xs) : DL K α β (tLst tr) ρ Q := fun F0 H0 F H σ A QK k =>
  h F0 H0 F H σ A _ fun xs vs F1 H1 hq e1 q1 => have A1 := A.st e1;  ⟨Evl.sz_of (by rw [q1.len]; exact hq.1), fun p n =>
    have g := Gr.free A1.fh (o := .lst vs) n
    k _ p _ _ _ hq.2 (e1.pure g A1.tp.2) (e1.back A1.tp.2 n) (ex_none A1.fh n) upd_same (q1.up g.ff)⟩
theorem DE_if {tt : TT} (h : DT K α (β / 2) tt ρ fun b => if b = true then DE K α (β / 2) ta ρ Q else DE K α (β / 2) tb ρ Q) : DE K α β (tIf tt ta tb) ρ Q := fun F0 H0 F H σ A QK k =>
  h F0 H0 F H σ A.h _ fun b F1 H1 hb e1 => by
    have A1 := A.nx e1
    cases b with
    | true => exact hb F0 H0 F1 H1 σ A1 QK fun d v F2 H2 q e2 q2 => k d v F2 H2 q (e1.two e2) q2
    | false => exact hb F0 H0 F1 H1 σ A1 QK fun d v F2 H2 q e2 q2 => k d v F2 H2 q (e1.two e2) q2
theorem DE_and (h : DE K α (β / 2) ta ρ fun x => ∃ b, x = .bool b ∧ if b = true then DE K α (β / 2) tb ρ Q else Q (.bool false)) : DE K α β (tAndV ta tb) ρ Q := fun F0 H0 F H σ A QK k =>
  h F0 H0 F H σ A.h _ fun x v F1 H1 hb e1 q1 => by
    have A1 := A.nx e1
    obtain ⟨b, rfl, hb⟩ := hb
    cases q1
    refine ⟨b, rfl, ?_⟩
    cases b with
    | true => exact hb F0 H0 F1 H1 σ A1 QK fun d v F2 H2 q e2 q2 => k d v F2 H2 q (e1.two e2) q2
    | false => exact k _ _ F1 H1 hb e1.up (.bl false)
theorem DE_or (h : DE K α (β / 2) ta ρ fun x => ∃ b, x = .bool b ∧ if b = true then Q (.bool true) else DE K α (β / 2) tb ρ Q) : DE K α β (tOrV ta tb) ρ Q := fun F0 H0 F H σ A QK k =>
  h F0 H0 F H σ A.h _ fun x v F1 H1 hb e1 q1 => by
    have A1 := A.nx e1
    obtain ⟨b, rfl, hb⟩ := hb
    cases q1
    refine ⟨b, rfl, ?_⟩
    cases b with
    | true => exact k _ _ F1 H1 hb e1.up (.bl true)
    | false => exact hb F0 H0 F1 H1 σ A1 QK fun d v F2 H2 q e2 q2 => k d v F2 H2 q (e1.two e2) q2
theorem DE_not (h : DE K α β ta ρ fun x => ∃ b, x = .bool b ∧ Q (.bool (!b))) : DE K α β (tNotV ta) ρ Q := fun F0 H0 F H σ A QK k =>
  h F0 H0 F H σ A _ fun x v F1 H1 hb e1 q1 => by
    obtain ⟨b, rfl, hb⟩ := hb
    cases q1
    exact ⟨b, rfl, k _ _ F1 H1 hb e1 (.bl _)⟩
theorem DE_chain {r r' : R2} (h : DE K α (β / 2) ta ρ fun x => DE K α (β / 2 / 2) tb ρ fun y => DR K r x y fun z => ∃ b, z = .bool b ∧ if b = true then DE K α (β / 2 / 2) tc ρ fun w => DR K r' y w Q else Q (.bool false)) :
    DE K α β (tChain r r' ta tb tc) ρ Q := fun F0 H0 F H σ A QK k =>
  h F0 H0 F H σ A.h _ fun x v F1 H1 hb e1 q1 => have A1 := A.nx e1;  hb F0 H0 F1 H1 σ A1.h _ fun y w F2 H2 hr e2 q2 => have A2 := A1.nx e2;  hr v w F2 H2 A2.fh (q1.up e2.ff) q2 _ fun z u F3 H3 hz g q3 => by
    obtain ⟨b, rfl, hz⟩ := hz
    cases q3
    refine ⟨b, rfl, ?_⟩
    have A3 := A2.call g
    have e3 := e2.pure g A2.tp.2
    cases b with
    | true => exact hz F0 H0 F3 H3 σ A3 _ fun y2 w2 F4 H4 hr2 e4 q4 => have A4 := A3.st e4;  hr2 w w2 F4 H4 A4.fh ((q2.up g.ff).up e4.ff) q4 QK fun d u F5 H5 q g2 q5 => k d u F5 H5 q ((e1.two (e3.two e4)).pure g2 A4.tp.2) q5
    | false => exact k _ _ F3 H3 hz (e1.two e3.up) (.bl false)
theorem DT_test {tt : TE} {Q : Bool → Prop} (h : DE K α β tt ρ fun x => ∃ b, x = .bool b ∧ Q b) : DT K α β (tTest tt) ρ Q := fun F0 H0 F H σ A QK k =>
  h F0 H0 F H σ A _ fun x v F1 H1 hb e1 q1 => by
    obtain ⟨b, rfl, hb⟩ := hb
    cases q1
    exact ⟨b, rfl, k b F1 H1 hb e1⟩
theorem DT_B {tt : TE} {Q : Bool → Prop} (h : DE K α β tt ρ fun x => ∃ b, x = .bool b ∧ Q b) : DT K α β (tB tt) ρ Q := fun F0 H0 F H σ A QK k =>
  h F0 H0 F H σ A _ fun x v F1 H1 hb e1 q1 => by
    obtain ⟨b, rfl, hb⟩ := hb
    cases q1
    exact ⟨b, rfl, k b F1 H1 hb e1⟩
theorem DT_and {ua ub : TT} {Q : Bool → Prop} (h : DT K α (β / 2) ua ρ fun b => if b = true then DT K α (β / 2) ub ρ Q else Q false) : DT K α β (tAnd ua ub) ρ Q := fun F0 H0 F H σ A QK k =>
  h F0 H0 F H σ A.h _ fun b F1 H1 hb e1 => by
    have A1 := A.nx e1
    cases b with
    | true => exact hb F0 H0 F1 H1 σ A1 QK fun d F2 H2 q e2 => k d F2 H2 q (e1.two e2)
    | false => exact k _ F1 H1 hb e1.up
theorem DT_or {ua ub : TT} {Q : Bool → Prop} (h : DT K α (β / 2) ua ρ fun b => if b = true then Q true else DT K α (β / 2) ub ρ Q) : DT K α β (tOr ua ub) ρ Q := fun F0 H0 F H σ A QK k =>
  h F0 H0 F H σ A.h _ fun b F1 H1 hb e1 => by
    have A1 := A.nx e1
    cases b with
    | true => exact k _ F1 H1 hb e1.up
    | false => exact hb F0 H0 F1 H1 σ A1 QK fun d F2 H2 q e2 => k d F2 H2 q (e1.two e2)
theorem DT_not {ua : TT} {Q : Bool → Prop} (h : DT K α β ua ρ fun b => Q (!b)) : DT K α β (tNot ua) ρ Q := fun F0 H0 F H σ A QK k =>
  h F0 H0 F H σ A _ fun b F1 H1 hb e1 => k _ F1 H1 hb e1
theorem DT_yes {Q : Bool → Prop} (h : Q true) : DT K α β tYes ρ Q := fun F0 H0 F H σ A QK k => k true F H h A.rfl
theorem DO_no {Q : Option Int → Prop} (h : Q none) : DO K α β tNoPart ρ Q := fun F0 H0 F H σ A QK k => k none F H h A.rfl
theorem DO_at {Q : Option Int → Prop} (h : DE K α β te ρ fun x => ∃ z, x = .int z ∧ Q (some z)) : DO K α β (tPart te) ρ Q := fun F0 H0 F H σ A QK k =>
  h F0 H0 F H σ A _ fun x v F1 H1 hb e1 q1 => by
    obtain ⟨b, rfl, hb⟩ := hb
    cases q1
    exact ⟨b, rfl, k _ F1 H1 hb e1⟩
/-! slices -/
theorem DL_sl {tl th : TO} {Q : List PyData → Prop} (h : DE K α (β / 2) te ρ fun x => ∃ ds, x = .list ds ∧ DO K α (β / 2 / 2) tl ρ fun lo => DO K α (β / 2 / 2) th ρ fun hi => Q (cutD ds lo hi)) : DL K α β (tSl (rSlL K) te tl th) ρ Q := fun F0 H0 F H σ A QK k =>
  h F0 H0 F H σ A.h _ fun x v F1 H1 hb e1 q1 => by
    have A1 := A.nx e1
    obtain ⟨ds, rfl, hb⟩ := hb
    refine hb F0 H0 F1 H1 σ A1.h _ fun lo F2 H2 hc e2 => have A2 := A1.nx e2;  hc F0 H0 F2 H2 σ A2 _ fun hi F3 H3 q e3 => ?_
    have A3 := (A1.nx e2).st e3
    have q2 := (q1.up e2.ff).up e3.ff
    cases q2 with
    | @lst a xs _ s1 s2 =>
      refine ⟨a, xs, rfl, Evl.ex_l A3.fh s1, fun p n => ?_⟩
      have g := Gr.free A3.fh (o := .lst (cutV xs lo hi)) n
      exact k _ p _ _ _ q ((e1.two (e2.two e3)).pure g A3.tp.2) ((e1.two (e2.two e3)).back A3.tp.2 n) (ex_none A3.fh n) upd_same (cutV_dqs lo hi s2)
/-! kinds -/
theorem DE_isi {n : String} (h : DE K α β te ρ fun x => ∃ b, kitB (tyD x) n = some b ∧ Q (.bool b)) : DE K α β (tCB (rIsi K) (tCons te (tCons (tC (.ty n)) tNil))) ρ Q := fun F0 H0 F H σ A QK k =>
  h F0 H0 F H σ A _ fun x v F1 H1 hq e1 z => by
    obtain ⟨b, hb, q⟩ := hq
    exact ⟨v, .ty n, _, _, b, rfl, .ty n, dq_ty e1.g.fh z, kit_ty hb, k _ _ F1 H1 q e1 (.bl b)⟩
theorem DE_emp (q : Q (.dict [])) : DE K α β tDNewK ρ Q := fun F0 H0 F H σ A QK k p n => by
  have g := Gr.new A.fh (o := .dK []) n
  exact k _ _ _ _ q ((A.stp g).mono (Nat.zero_le _)) (.emp upd_same)
theorem DE_lenOw {ds : List PyData} (h : ρ[i]? = some (.ow ds)) (q : Q (.int ds.length)) : DE K α β (tCB (rLenA K) (tCons (tVar i) tNil)) ρ Q := fun F0 H0 F H σ A QK k => by
  obtain ⟨p, xs, e, h1, h2, h3, h4, h5⟩ := A.own h
  exact ⟨.ref p, e, .inl ⟨p, xs, rfl, .inl (.inl (.inl h1)), by rw [h5.len]; exact k _ _ F H q A.rfl (.int _)⟩⟩
theorem DL_rep {Q : List PyData → Prop} (h : DL K α (β / 2) ta ρ fun ds => DE K α (β / 2) tb ρ fun y => ∃ z : Int, y = .int z ∧ -(2 ^ 62) ≤ z ∧ z < 2 ^ 62 ∧ ds.length * z.toNat ≤ 100000 ∧ Q (List.replicate z.toNat ds).flatten) : DL K α β (tOp rTimes ta tb) ρ Q := fun F0 H0 F H σ A QK k =>
  h F0 H0 F H σ A.h _ fun ds p xs F1 H1 hb e1 n n1 n2 z => hb F0 H0 F1 H1 σ (A.nx e1) _ fun y w F2 H2 hy e2 zy => by
    have A2 := (A.nx e1).st e2
    obtain ⟨m, rfl, b1, b2, b3, q⟩ := hy
    cases zy
    have nt : some α.a ≠ some p := (A.fs n).tap
    refine .inr (.inl ⟨p, m, xs, rfl, rfl, e2.g.hh p _ nt n2, by omega, by omega, Evl.sz_of (by rw [z.len]; exact b3), fun r hr => ?_⟩)
    have g := Gr.free A2.fh (o := .lst (List.replicate m.toNat xs).flatten) hr
    exact k _ r _ _ _ q ((e1.two e2).pure g A2.tp.2) ((e1.two e2).back A2.tp.2 hr) (ex_none A2.fh hr) upd_same (rep_dqs (z.up e2.ff) _)
end
end Cg
namespace Cg
open PySem PySem.Spec PyProof.Rows L2 Cf
open Evl (Ex)

/-- what follows, what is returned, break, continue -/
def DS (K : PySem.W.Frag) (α : Al) (β : Nat) (ts : TS) (ρ : Rho) (N : Rho → Prop) (R : PyData → Prop) (B C : Rho → Prop) : Prop :=
  ∀ (F0 H0 F H : Hp) (σ : L2.St) (D : Ends), At K α β F0 H0 F H σ ρ →
    (∀ ρ' F' H' σ', N ρ' → At K α 0 F0 H0 F' H' σ' ρ' → Ex F F' → To α β H H' → D.nx σ' H') →
    (∀ d v F' H', R d → Gr (some α.a) F0 H0 F' H' → F' α.a = none → To α β H H' → Dq K F' d v → D.rt v H') →
    (∀ ρ' F' H' σ', B ρ' → At K α 0 F0 H0 F' H' σ' ρ' → Ex F F' → To α β H H' → D.bk σ' H') →
    (∀ ρ' F' H' σ', C ρ' → At K α 0 F0 H0 F' H' σ' ρ' → Ex F F' → To α β H H' → D.ct σ' H') → ts D σ H

section
variable {K : PySem.W.Frag} {α : Al} {β γ : Nat} {ρ : Rho} {i : Nat} {d : PyData} {te ta tb tc : TE} {t1 t2 : TS} {N B C : Rho → Prop} {R : PyData → Prop}
theorem DS.mono {N' B' C' : Rho → Prop} {R' : PyData → Prop} (h : DS K α β t1 ρ N R B C) (hN : ∀ x, N x → N' x) (hR : ∀ x, R x → R' x) (hB : ∀ x, B x → B' x) (hC : ∀ x, C x → C' x) : DS K α β t1 ρ N' R' B' C' :=
  fun F0 H0 F H σ D A kn kr kb kc => h F0 H0 F H σ D A (fun r F' H' s q => kn r F' H' s (hN r q)) (fun d v F' H' q => kr d v F' H' (hR d q)) (fun r F' H' s q => kb r F' H' s (hB r q)) fun r F' H' s q => kc r F' H' s (hC r q)
/-- what goes on behind a part -/
theorem DS_then {F0 H0 F H F1 H1 : Hp} {s1 : L2.St} {ρ1 : Rho} {D : Ends} {δ : Nat} (l : β + γ ≤ δ) (q : DS K α γ t2 ρ1 N R B C) (A : At K α δ F0 H0 F H ([] : L2.St) [] ∨ Bud α δ H) (A1 : At K α 0 F0 H0 F1 H1 s1 ρ1) (e1 : Ex F F1) (t : To α β H H1)
    (kn : ∀ ρ' F' H' σ', N ρ' → At K α 0 F0 H0 F' H' σ' ρ' → Ex F F' → To α δ H H' → D.nx σ' H')
    (kr : ∀ d v F' H', R d → Gr (some α.a) F0 H0 F' H' → F' α.a = none → To α δ H H' → Dq K F' d v → D.rt v H')
    (kb : ∀ ρ' F' H' σ', B ρ' → At K α 0 F0 H0 F' H' σ' ρ' → Ex F F' → To α δ H H' → D.bk σ' H')
    (kc : ∀ ρ' F' H' σ', C ρ' → At K α 0 F0 H0 F' H' σ' ρ' → Ex F F' → To α δ H H' → D.ct σ' H') : t2 D s1 H1 := by
  have b : Bud α δ H := A.elim (fun A => A.tp.2) id
  exact q F0 H0 F1 H1 s1 D (A1.bud (t γ (b.mono l))) (fun r F' H' s q A' e z => kn r F' H' s q A' (e1.trans e) (t.trans z l)) (fun d v F' H' q g n z => kr d v F' H' q g n (t.trans z l))
    (fun r F' H' s q A' e z => kb r F' H' s q A' (e1.trans e) (t.trans z l)) fun r F' H' s q A' e z => kc r F' H' s q A' (e1.trans e) (t.trans z l)
theorem DS_seq (h : DS K α (β / 2) t1 ρ (fun ρ1 => DS K α (β / 2) t2 ρ1 N R B C) R B C) : DS K α β (tSeq t1 t2) ρ N R B C := fun F0 H0 F H σ D A kn kr kb kc => by
  have up : ∀ {H' : Hp}, To α (β / 2) H H' → To α β H H' := fun z => z.mono (Nat.div_le_self _ _)
  exact h F0 H0 F H σ { D with nx := t2 D } A.h (fun r F1 H1 s1 q A1 e1 z => DS_then (D := D) (half_two β) q (.inr A.tp.2) A1 e1 z kn kr kb kc) (fun d v F' H' q g n z => kr d v F' H' q g n (up z)) (fun r F' H' s q A' e z => kb r F' H' s q A' e (up z)) fun r F' H' s q A' e z => kc r F' H' s q A' e (up z)
theorem DS_next (q : N ρ) : DS K α β tNext ρ N R B C := fun F0 H0 F H σ D A kn kr kb kc => kn ρ F H σ q A.z (Ex.refl F) To.rfl
theorem DS_set (h : DE K α β te ρ fun d => N (ρ.set i (.sh d))) : DS K α β (tAsg te (gName i)) ρ N R B C := fun F0 H0 F H σ D A kn kr kb kc =>
  h F0 H0 F H σ A _ fun d v F1 H1 q e1 z => kn _ F1 H1 _ q ((A.st e1).set (s := .sh d) ⟨v, rfl, z⟩ fun _ e => by cases e) e1.ff e1.to
theorem DS_setOw (h : DL K α β te ρ fun ds => N (ρ.set i (.ow ds))) : DS K α β (tAsg te (gName i)) ρ N R B C := fun F0 H0 F H σ D A kn kr kb kc =>
  h F0 H0 F H σ A _ fun ds p xs F1 H1 q e1 n n1 n2 z => have f := A.fs n; kn _ F1 H1 _ q ((A.st e1).setOw ⟨p, xs, rfl, n2, n1, f.old, f.tap, z⟩ fun j es _ h => f.own j es h) e1.ff e1.to
theorem DS_drop (h : DE K α β te ρ fun _ => N ρ) : DS K α β (tDrop te) ρ N R B C := fun F0 H0 F H σ D A kn kr kb kc =>
  h F0 H0 F H σ A _ fun d v F1 H1 q e1 z => kn _ F1 H1 _ q (A.st e1) e1.ff e1.to
theorem DS_ret (h : DE K α β te ρ R) : DS K α β (tRet te) ρ N R B C := fun F0 H0 F H σ D A kn kr kb kc =>
  h F0 H0 F H σ A _ fun d v F1 H1 q e1 z => kr d v F1 H1 q (A.st e1).gr e1.n e1.to z
theorem DS_retN (h : R .none) : DS K α β tRetN ρ N R B C := fun F0 H0 F H σ D A kn kr kb kc => kr _ _ F H h A.gr A.tp.1 To.rfl .non
theorem DS_retOw {ds : List PyData} (h : ρ[i]? = some (.ow ds)) (q : R (.list ds)) : DS K α β (tRet (tVar i)) ρ N R B C := fun F0 H0 F H σ D A kn kr kb kc => by
  obtain ⟨p, xs, e, h1, h2, h3, h4, h5⟩ := A.own h
  obtain ⟨F', A', _⟩ := A.freeze h
  obtain ⟨v, e2, z⟩ := A'.var (i := i) (d := .list ds) (List.getElem?_set_self (List.getElem?_eq_some_iff.mp h).1)
  rw [e] at e2
  cases e2
  exact ⟨_, e, kr _ _ _ _ q A'.gr A'.tp.1 To.rfl z⟩
theorem DS_freeze {ds : List PyData} (h : ρ[i]? = some (.ow ds)) (q : DS K α β t1 (ρ.set i (.sh (.list ds))) N R B C) : DS K α β t1 ρ N R B C := fun F0 H0 F H σ D A kn kr kb kc => by
  obtain ⟨F', A', e⟩ := A.freeze h
  exact q F0 H0 F' H σ D A' (fun r F1 H1 s q a e1 => kn r F1 H1 s q a (e.trans e1)) kr (fun r F1 H1 s q a e1 => kb r F1 H1 s q a (e.trans e1)) fun r F1 H1 s q a e1 => kc r F1 H1 s q a (e.trans e1)
/-- a slot is forgotten -/
theorem At.forget {F0 H0 F H : Hp} {σ : L2.St} (A : At K α β F0 H0 F H σ ρ) (i : Nat) : At K α β F0 H0 F H σ (ρ.set i .no) where
  gr := A.gr
  len := by rw [List.length_set, A.len]
  sl := fun j o s h1 h2 => by
    by_cases z : i = j
    · subst z
      have hi : i < ρ.length := by
        have := (List.getElem?_eq_some_iff.mp h2).1
        rwa [List.length_set] at this
      rw [List.getElem?_set_self hi] at h2
      cases h2
      trivial
    · rw [List.getElem?_set_ne z] at h2
      exact A.sl j o s h1 h2
  ap := fun a b p ds es n h1 h2 => by
    have aux : ∀ (c : Nat) (fs : List PyData), (ρ.set i Sl.no)[c]? = some (Sl.ow fs) → ρ[c]? = some (Sl.ow fs) := fun c fs z => by
      by_cases y : i = c
      · subst y
        have hi : i < ρ.length := by
          have := (List.getElem?_eq_some_iff.mp z).1
          rwa [List.length_set] at this
        rw [List.getElem?_set_self hi] at z
        cases z
      · rw [List.getElem?_set_ne y] at z
        exact z
    exact A.ap a b p ds es n (aux a ds h1) (aux b es h2)
  tp := A.tp
theorem DS_if {c : TT} (h : DT K α (β / 2) c ρ fun b => if b = true then DS K α (β / 2) t1 ρ N R B C else DS K α (β / 2) t2 ρ N R B C) : DS K α β (tIfS c t1 t2) ρ N R B C := fun F0 H0 F H σ D A kn kr kb kc =>
  h F0 H0 F H σ A.h _ fun b F1 H1 hb s1 => by
    have A1 := (A.h).st s1
    cases b with
    | true => exact DS_then (half_two β) hb (.inr A.tp.2) A1 s1.ff s1.to kn kr kb kc
    | false => exact DS_then (half_two β) hb (.inr A.tp.2) A1 s1.ff s1.to kn kr kb kc
theorem names_run {F0 H0 F H : Hp} : ∀ (is : List Nat) (ds : List PyData) (vs : List V) (σ : L2.St) (ρ : Rho) (Q : L2.St → Hp → Prop), is.length = ds.length → Dqs K F ds vs → At K α β F0 H0 F H σ ρ →
    (∀ σ', At K α β F0 H0 F H σ' (setAll is ds ρ) → Q σ' H) → gNames is vs σ H Q
  | [], [], _, σ, ρ, Q, _, .nil, A, k => ⟨rfl, k σ A⟩
  | i :: is, d :: ds, v :: vs, σ, ρ, Q, hl, .cons h1 h2, A, k => ⟨v, vs, rfl, names_run is ds vs _ _ Q (by simpa using hl) h2 (A.set (i := i) (s := .sh d) ⟨v, rfl, h1⟩ fun _ e => by cases e) k⟩
theorem DS_unpack {is : List Nat} {n : Nat} (h : DE K α β te ρ fun x => ∃ ds, x = .tuple ds ∧ ds.length = n ∧ is.length = n ∧ N (setAll is ds ρ)) : DS K α β (tAsg te (gTup K n (gNames is))) ρ N R B C := fun F0 H0 F H σ D A kn kr kb kc =>
  h F0 H0 F H σ A _ fun x v F1 H1 hq s1 z => by
    have A1 := A.st s1
    obtain ⟨ds, rfl, h1, h2, q⟩ := hq
    cases z with
    | @tup a xs _ s2 s3 =>
      exact ⟨a, xs, rfl, Evl.ex_t A1.fh s2, by rw [s3.len, h1], names_run is ds xs σ ρ _ (by rw [h1, h2]) s3 A1 fun σ' A' => kn _ F1 H1 σ' q A' s1.ff s1.to⟩
/-- a, b = x, y, two different names -/
theorem DS_par {i j : Nat} {tr : TA} (h : DA K α β tr ρ fun xs => ∃ d e, xs = [d, e] ∧ N ((ρ.set i (.sh d)).set j (.sh e))) : DS K α β (tPar i j tr) ρ N R B C := fun F0 H0 F H σ D A kn kr kb kc =>
  h F0 H0 F H σ A _ fun xs vs F1 H1 hq s1 z => by
    have A1 := A.st s1
    obtain ⟨d, e, rfl, q⟩ := hq
    obtain ⟨v, w, rfl, z1, z2⟩ := dqs2 z
    exact ⟨v, w, rfl, kn _ F1 H1 _ q ((A1.set (i := i) (s := .sh d) ⟨v, rfl, z1⟩ fun _ e => by cases e).set (i := j) (s := .sh e) ⟨w, rfl, z2⟩ fun _ e => by cases e) s1.ff s1.to⟩
/-- xs.append(e), xs a list of its own -/
theorem DS_append {ds : List PyData} (h : ρ[i]? = some (.ow ds)) (hl : ds.length < 100000) (he : DE K α β te ρ fun d => N (ρ.set i (.ow (ds ++ [d])))) : DS K α β (tDrop (tBM K "list" rAppend (tVar i) (tCons te tNil))) ρ N R B C :=
  fun F0 H0 F H σ D A kn kr kb kc => by
    obtain ⟨p, xs, e, h1, h2, h3, h4, h5⟩ := A.own h
    refine ⟨.ref p, e, .inl ⟨rfl, xs, .inl (.inl h1)⟩, he F0 H0 F H σ A _ fun d v F1 H1 q s1 z => ?_⟩
    have A1 := A.st s1
    obtain ⟨p', xs', e', g1, g2, g3, g4, g5⟩ := A1.own h
    rw [e] at e'
    cases e'
    have hy := g5.app (.cons z .nil)
    have w : To α 0 H1 (upd H1 p (.lst (xs' ++ [v]))) := fun u ⟨ys, b1, b2⟩ => ⟨ys, by rw [upd_ne (fun y => g4 (by rw [y]))]; exact b1, b2.mono (by omega)⟩
    exact ⟨p, xs', v, rfl, rfl, g1, Evl.sz_lt (by rw [g5.len]; exact hl), kn _ F1 _ σ q (A1.put h e hy) s1.ff (s1.to.trans w (by omega))⟩
/-- xs[k] of a list of its own -/
theorem DE_ixOw {ds : List PyData} {Q : PyData → Prop} (h : ρ[i]? = some (.ow ds)) (he : DE K α β te ρ fun y => ∃ z d, y = .int z ∧ atI ds z = some d ∧ Q d) : DE K α β (tOp (rIx K) (tVar i) te) ρ Q := fun F0 H0 F H σ A QK k => by
  obtain ⟨p, xs, e, _⟩ := A.own h
  refine ⟨.ref p, e, he F0 H0 F H σ A _ fun y w F1 H1 hq s1 z => ?_⟩
  have A1 := A.st s1
  obtain ⟨m, d, rfl, ha, q⟩ := hq
  cases z
  obtain ⟨p', xs', e', g1, g2, g3, g4, g5⟩ := A1.own h
  rw [e] at e'
  cases e'
  obtain ⟨v, hv, zq⟩ := atI_dqs g5 ha
  exact .inl ⟨p, xs', m, v, rfl, rfl, .inl (.inl g1), hv, k d v F1 H1 q s1 zq⟩
/-! ### loops: at most 131072 turns, each with a share of the budget -/
abbrev shr (β : Nat) : Nat := β / 262144
theorem shr_le {β k : Nat} (h : k ≤ 262144) : k * shr β ≤ β := by
  have := Nat.div_mul_le_self β 262144
  exact Nat.le_trans (Nat.mul_le_mul_right _ h) (by rw [Nat.mul_comm]; exact this)
theorem shr_next {β k : Nat} (h : k < 262144) : k * shr β + shr β ≤ β := by
  have := shr_le (β := β) (k := k + 1) h
  rwa [Nat.succ_mul] at this
theorem DS_for {g : TG} {J : It} {n : Nat} {G : Hp → Prop} {Y : Nat → Hp → V → Hp → Prop} {F0 H0 F H : Hp} {σ : L2.St} {D : Ends} (w : Walk J n G Y) (hn : n ≤ 262144) (I : Nat → Rho → Prop) (A : At K α β F0 H0 F H σ ρ) (h0 : I 0 ρ)
    (hG : ∀ F' H', Ex F F' → Ex F' H' → G H')
    (kn : ∀ ρ' F' H' σ', I n ρ' → At K α 0 F0 H0 F' H' σ' ρ' → Ex F F' → To α β H H' → D.nx σ' H')
    (hs : ∀ k x σ' ρ' F1 H1 H2 (Nx : L2.St → Hp → Prop), k < n → I k ρ' → At K α (shr β) F0 H0 F1 H1 σ' ρ' → Ex F F1 → To α (k * shr β) H H1 → Y k H1 x H2 →
      (∀ ρ2 F2 H3 σ2, I (k + 1) ρ2 → At K α 0 F0 H0 F2 H3 σ2 ρ2 → Ex F F2 → To α ((k + 1) * shr β) H H3 → Nx σ2 H3) → g x σ' H2 fun σ2 H3 => t1 { D with nx := Nx, ct := Nx, bk := D.nx } σ2 H3) :
    ∃ W : Nat → Nat → L2.St → Hp → Prop, (∃ m, W 0 m σ H) ∧ ∀ i m σ H, W i m σ H →
      (J.stop i H ∧ D.nx σ H) ∨ (J.go i H ∧ ∃ N : L2.St → Hp → Prop, (∀ σ' H', N σ' H' → ∃ m', m' < m ∧ W (i + 1) m' σ' H') ∧ ∀ x H', J.yld i H x H' → g x σ H' fun σ2 H2 => t1 { D with nx := N, ct := N, bk := D.nx } σ2 H2) := by
  refine for_it w (fun k σ' H' => ∃ F' ρ', I k ρ' ∧ At K α 0 F0 H0 F' H' σ' ρ' ∧ Ex F F' ∧ To α (k * shr β) H H') ⟨F, ρ, h0, A.z, Ex.refl F, To.rfl⟩ (fun k σ' H' _ ⟨F', ρ', _, A', e, _⟩ => hG F' H' e A'.fh) ?_ fun σ' H' ⟨F', ρ', q, A', e, z⟩ => kn ρ' F' H' σ' q A' e (z.mono (shr_le hn))
  rintro k x σ' H1 H2 hk ⟨F1, ρ', q, A1, e1, z1⟩ y
  exact hs k x σ' ρ' F1 H1 H2 _ hk q (A1.bud (z1 (shr β) (A.tp.2.mono (shr_next (by omega))))) e1 z1 y fun ρ2 F2 H3 σ2 q2 A2 e2 z2 => ⟨F2, ρ2, q2, A2, e2, z2⟩
/-- a body within a turn -/
theorem DS_turn {F0 H0 F H F1 H1 : Hp} {s1 : L2.St} {ρ1 : Rho} {D : Ends} {k : Nat} {I : Rho → Prop} {Nx : L2.St → Hp → Prop} (hk : k < 262144) (q : DS K α (shr β) t1 ρ1 I R N I) (A1 : At K α (shr β) F0 H0 F1 H1 s1 ρ1) (e1 : Ex F F1) (t : To α (k * shr β) H H1)
    (kN : ∀ ρ2 F2 H3 σ2, I ρ2 → At K α 0 F0 H0 F2 H3 σ2 ρ2 → Ex F F2 → To α ((k + 1) * shr β) H H3 → Nx σ2 H3)
    (kn : ∀ ρ' F' H' σ', N ρ' → At K α 0 F0 H0 F' H' σ' ρ' → Ex F F' → To α β H H' → D.nx σ' H')
    (kr : ∀ d v F' H', R d → Gr (some α.a) F0 H0 F' H' → F' α.a = none → To α β H H' → Dq K F' d v → D.rt v H') : t1 { D with nx := Nx, ct := Nx, bk := D.nx } s1 H1 := by
  have l1 : k * shr β + shr β ≤ (k + 1) * shr β := by rw [Nat.succ_mul]; exact Nat.le_refl _
  have l2 : k * shr β + shr β ≤ β := shr_next hk
  exact q F0 H0 F1 H1 s1 _ A1 (fun r F' H' s q A' e z => kN r F' H' s q A' (e1.trans e) (t.trans z l1)) (fun d v F' H' q g n z => kr d v F' H' q g n (t.trans z l2))
    (fun r F' H' s q A' e z => kn r F' H' s q A' (e1.trans e) (t.trans z l2)) fun r F' H' s q A' e z => kN r F' H' s q A' (e1.trans e) (t.trans z l1)
theorem to_ex {δ : Nat} {F H F1 H1 : Hp} {D : Ends} {F0 H0 : Hp} (s1 : Stp α (β / 2) F H F1 H1)
    (kn : ∀ ρ' F' H' σ', N ρ' → At K α 0 F0 H0 F' H' σ' ρ' → Ex F F' → To α β H H' → D.nx σ' H') : ∀ ρ' F' H' σ', N ρ' → At K α 0 F0 H0 F' H' σ' ρ' → Ex F1 F' → To α (β / 2) H1 H' → D.nx σ' H' :=
  fun ρ' F' H' σ' q A' e z => kn ρ' F' H' σ' q A' (s1.ff.trans e) (s1.to.trans z (half_two β))
theorem to_rt {F H F1 H1 : Hp} {D : Ends} {F0 H0 : Hp} (s1 : Stp α (β / 2) F H F1 H1)
    (kr : ∀ d v F' H', R d → Gr (some α.a) F0 H0 F' H' → F' α.a = none → To α β H H' → Dq K F' d v → D.rt v H') : ∀ d v F' H', R d → Gr (some α.a) F0 H0 F' H' → F' α.a = none → To α (β / 2) H1 H' → Dq K F' d v → D.rt v H' :=
  fun d v F' H' q g n z => kr d v F' H' q g n (s1.to.trans z (half_two β))
/-- for x in a list -/
theorem DS_forL (h : DE K α (β / 2) te ρ fun x => ∃ ds, x = .list ds ∧ ds.length ≤ 262144 ∧ ∃ I : Nat → Rho → Prop, I 0 ρ ∧ (∀ k d ρ', ds[k]? = some d → I k ρ' → DS K α (shr (β / 2)) t1 (ρ'.set i (.sh d)) (I (k + 1)) R N (I (k + 1))) ∧ ∀ ρ', I ds.length ρ' → N ρ') :
    DS K α β (tFor (iList K te) (gName i) t1) ρ N R B C := fun F0 H0 F H σ D A kn kr kb kc =>
  h F0 H0 F H σ A.h _ fun x v F1 H1 hq s1 z => by
    have A1 := A.nx s1
    obtain ⟨ds, rfl, hl, I, h0, hs, hd⟩ := hq
    cases z with
    | @lst a xs _ s2 s3 =>
      refine ⟨a, rfl, ⟨xs, Evl.ex_l A1.fh s2⟩, ?_⟩
      refine DS_for (walk_list (K := K) (xs := xs)) (by rw [s3.len]; exact hl) I A1 h0 (fun F' H' e e' => Evl.ex_l (e.trans e') s2) (fun ρ' F' H' σ' q A' e z => to_ex (δ := 0) s1 kn ρ' F' H' σ' (hd ρ' (by rwa [s3.len] at q)) A' e z) ?_
      rintro k x σ' ρ' F2 H2 H3 Nx hk q A2 e2 z2 ⟨rfl, hx⟩ kN
      obtain ⟨d, hd', zd⟩ := s3.get hx
      exact DS_turn (by rw [s3.len] at hk; omega) (hs k d ρ' hd' q) (A2.set (i := i) (s := .sh d) ⟨x, rfl, zd.up e2⟩ fun _ e => by cases e) e2 z2 kN (to_ex (δ := 0) s1 kn) (to_rt s1 kr)
/-- for x in range(n) -/
theorem DS_forR1 {tr : TA} (h : DA K α (β / 2) tr ρ fun xs => ∃ j : Int, xs = [.int j] ∧ j ≤ 262144 ∧ ∃ I : Nat → Rho → Prop, I 0 ρ ∧
      (∀ k ρ', k < j.toNat → I k ρ' → DS K α (shr (β / 2)) t1 (ρ'.set i (.sh (.int (0 + k)))) (I (k + 1)) R N (I (k + 1))) ∧ ∀ ρ', I j.toNat ρ' → N ρ') : DS K α β (tFor (iRg1 tr) (gName i) t1) ρ N R B C := fun F0 H0 F H σ D A kn kr kb kc =>
  h F0 H0 F H σ A.h _ fun xs vs F1 H1 hq s1 z => by
    have A1 := A.nx s1
    obtain ⟨j, rfl, hl, I, h0, hs, hd⟩ := hq
    obtain ⟨v, rfl, z1⟩ := dqs1 z
    cases z1
    refine ⟨j, rfl, ?_⟩
    refine DS_for (walk_range (lo := 0) (n := j.toNat)) (by omega) I A1 h0 (fun _ _ _ _ => trivial) (fun ρ' F' H' σ' q A' e z => to_ex (δ := 0) s1 kn ρ' F' H' σ' (hd ρ' q) A' e z) ?_
    rintro k x σ' ρ' F2 H2 H3 Nx hk q A2 e2 z2 ⟨rfl, rfl⟩ kN
    exact DS_turn (by omega) (hs k ρ' hk q) (A2.set (i := i) (s := .sh _) ⟨_, rfl, .int _⟩ fun _ e => by cases e) e2 z2 kN (to_ex (δ := 0) s1 kn) (to_rt s1 kr)
theorem DS_forR2 {tr : TA} (h : DA K α (β / 2) tr ρ fun xs => ∃ l j : Int, xs = [.int l, .int j] ∧ j - l ≤ 262144 ∧ ∃ I : Nat → Rho → Prop, I 0 ρ ∧
      (∀ k ρ', k < (j - l).toNat → I k ρ' → DS K α (shr (β / 2)) t1 (ρ'.set i (.sh (.int (l + k)))) (I (k + 1)) R N (I (k + 1))) ∧ ∀ ρ', I (j - l).toNat ρ' → N ρ') : DS K α β (tFor (iRg2 tr) (gName i) t1) ρ N R B C := fun F0 H0 F H σ D A kn kr kb kc =>
  h F0 H0 F H σ A.h _ fun xs vs F1 H1 hq s1 z => by
    have A1 := A.nx s1
    obtain ⟨l, j, rfl, hl, I, h0, hs, hd⟩ := hq
    obtain ⟨v, w, rfl, z1, z2⟩ := dqs2 z
    cases z1
    cases z2
    refine ⟨l, j, rfl, ?_⟩
    refine DS_for (walk_range (lo := l) (n := (j - l).toNat)) (by omega) I A1 h0 (fun _ _ _ _ => trivial) (fun ρ' F' H' σ' q A' e z => to_ex (δ := 0) s1 kn ρ' F' H' σ' (hd ρ' q) A' e z) ?_
    rintro k x σ' ρ' F2 H2 H3 Nx hk q A2 e2 z2 ⟨rfl, rfl⟩ kN
    exact DS_turn (by omega) (hs k ρ' hk q) (A2.set (i := i) (s := .sh _) ⟨_, rfl, .int _⟩ fun _ e => by cases e) e2 z2 kN (to_ex (δ := 0) s1 kn) (to_rt s1 kr)
/-- while: an invariant by a measure -/
theorem DS_while {c : TT} (I : Nat → Rho → Prop) (m : Nat) (hm : m < 262144) (h0 : I m ρ) (hs : ∀ m ρ', I m ρ' → DT K α (shr β / 2) c ρ' fun b => if b = true then DS K α (shr β / 2) t1 ρ' (fun ρ2 => ∃ m', m' < m ∧ I m' ρ2) R N (fun ρ2 => ∃ m', m' < m ∧ I m' ρ2) else N ρ') :
    DS K α β (tWhile c t1) ρ N R B C := fun F0 H0 F H σ D A kn kr kb kc => by
  refine ⟨fun m' σ' H' => ∃ F' ρ' k, k + m' ≤ m ∧ I m' ρ' ∧ At K α 0 F0 H0 F' H' σ' ρ' ∧ Ex F F' ∧ To α (k * shr β) H H', ⟨m, F, ρ, 0, by omega, h0, A.z, Ex.refl F, To.rfl⟩, ?_⟩
  rintro m' σ' H' ⟨F1, ρ', k, hk, q, A1, e1, z1⟩
  have l2 : k * shr β + shr β ≤ β := shr_next (by omega)
  have A1' : At K α (shr β) F0 H0 F1 H' σ' ρ' := A1.bud (z1 (shr β) (A.tp.2.mono l2))
  refine hs m' ρ' q F0 H0 F1 H' σ' A1'.h _ fun b F2 H2 hb s2 => ?_
  have A2 := A1'.nx s2
  have e2 := s2.ff
  have l1 : k * shr β + shr β ≤ (k + 1) * shr β := by rw [Nat.succ_mul]; exact Nat.le_refl _
  cases b with
  | false => exact kn ρ' F2 H2 σ' hb A2.z (e1.trans e2) (z1.trans s2.up.to l2)
  | true =>
    refine ⟨fun σ2 H3 => ∃ m2 F3 ρ3 k3, m2 < m' ∧ k3 + m2 ≤ m ∧ I m2 ρ3 ∧ At K α 0 F0 H0 F3 H3 σ2 ρ3 ∧ Ex F F3 ∧ To α (k3 * shr β) H H3, fun σ2 H3 ⟨m2, F3, ρ3, k3, l, l3, q3, A3, e3, z3⟩ => ⟨m2, l, F3, ρ3, k3, l3, q3, A3, e3, z3⟩, ?_⟩
    exact hb F0 H0 F2 H2 σ' _ A2 (fun r F' H' s ⟨m2, l, q⟩ A' e z => ⟨m2, F', r, k + 1, l, by omega, q, A', (e1.trans e2).trans e, z1.trans (s2.to.trans z (half_two _)) l1⟩) (fun d v F' H' q g n z => kr d v F' H' q g n (z1.trans (s2.to.trans z (half_two _)) l2))
      (fun r F' H' s q A' e z => kn r F' H' s q A' ((e1.trans e2).trans e) (z1.trans (s2.to.trans z (half_two _)) l2)) fun r F' H' s ⟨m2, l, q⟩ A' e z => ⟨m2, F', r, k + 1, l, by omega, q, A', (e1.trans e2).trans e, z1.trans (s2.to.trans z (half_two _)) l1⟩
end
end Cg
namespace Cg
open PySem PySem.Spec PyProof.Rows L2 Cf
open Evl (Ex)
section
variable {K : PySem.W.Frag} {α : Al} {β γ : Nat} {ρ : Rho} {i : Nat} {d : PyData} {te ta tb tc : TE} {t1 t2 : TS} {N B C : Rho → Prop} {R : PyData → Prop}
/-! ### comprehensions -/
theorem Stp.write {F H F' H' : Hp} {D : Addr} {o : HO} (e : Stp α β F H F' H') (nt : some α.a ≠ some D) (n : H D = none) (m : F' D = none) : Stp α β F H F' (upd H' D o) where
  g := ⟨e.ff, fun a u w q => by
    rw [upd_ne (fun z => by rw [z, n] at q; cases q)]
    exact e.g.hh a u w q, fun a u q => by
    rw [upd_ne (fun z => by rw [z, m] at q; cases q)]
    exact e.g.fh a u q, e.g.nw⟩
  n := e.n
  to := fun u b => by
    obtain ⟨ys, b1, b2⟩ := e.to u b
    exact ⟨ys, by rw [upd_ne (fun z => nt (by rw [z]))]; exact b1, b2⟩
/-- one turn's slots: what the target stores -/
structure Tn (K : PySem.W.Frag) (α : Al) (β : Nat) (ρ : Rho) (σ : L2.St) (own : List Nat) (g : TG) (x : V) (F1 H1 : Hp) (ρ2 : Rho) : Prop where
  ex : ∃ σ2, (∀ Qn : L2.St → Hp → Prop, Qn σ2 H1 → g x (wipe σ own) H1 Qn) ∧ wipe σ2 own = wipe σ own ∧ ∀ F0 H0, At K α β F0 H0 F1 H1 σ ρ → At K α β F0 H0 F1 H1 σ2 ρ2
theorem DL_lc {g : TG} {own : List Nat} {tt : TT} {J : It} {n : Nat} {G : Hp → Prop} {Y : Nat → Hp → V → Hp → Prop} {F0 H0 F H : Hp} {σ : L2.St} {QK : VK} {D : Addr} (w : Walk J n G Y) (hn : n ≤ 262144) (I : Nat → List PyData → Prop) (A : At K α β F0 H0 F H σ ρ) (nD : H D = none)
    (h0 : I 0 []) (hG : ∀ F' H', Ex F F' → Ex F' H' → G H') (hY0 : ∀ k H1 x H2, Y k H1 x H2 → H2 = H1)
    (hY : ∀ k x F1 H1, k < n → At K α (shr β) F0 H0 F1 H1 σ ρ → Ex F F1 → Y k H1 x H1 → ∃ ρ2, Tn K α (shr β) ρ σ own g x F1 H1 ρ2 ∧ ∀ acc, I k acc → acc.length < 100000 ∧ DT K α (shr β / 2) tt ρ2 fun b => if b = true then DE K α (shr β / 2) te ρ2 (fun y => I (k + 1) (acc ++ [y])) else I (k + 1) acc)
    (k : ∀ ds xs F' H', I n ds → Stp α β F H F' H' → F' D = none → H' D = some (.lst xs) → Dqs K F' ds xs → QK (.ref D) H') :
    ∃ W : Nat → Nat → Hp → Prop, (∃ m, W 0 m (upd H D (.lst []))) ∧ ∀ j m H, W j m H →
      (J.stop j H ∧ QK (.ref D) H) ∨ (J.go j H ∧ ∃ Nx : Hp → Prop, (∀ H', Nx H' → ∃ m', m' < m ∧ W (j + 1) m' H') ∧ ∀ x H', J.yld j H x H' → g x (wipe σ own) H' fun σ2 H2 => wipe σ2 own = wipe σ own ∧ tt σ2 H2 fun b H3 =>
        if b = true then te σ2 H3 fun y H4 => ∃ acc, H4 D = some (.lst acc) ∧ acc.length < sizeLine ∧ Nx (upd H4 D (.lst (acc ++ [y]))) else Nx H3) := by
  have nt : some α.a ≠ some D := (A.fs nD).tap
  refine lc_it w (fun k H' => ∃ F' ds xs, I k ds ∧ Stp α (k * shr β) F H F' H' ∧ F' D = none ∧ H' D = some (.lst xs) ∧ Dqs K F' ds xs) ⟨F, [], [], h0, (A.stp (Gr.free A.fh nD)).mono (Nat.zero_le _), ex_none A.fh nD, upd_same, .nil⟩
    (fun k H' _ ⟨F', ds, xs, _, e, _⟩ => hG F' H' e.ff e.g.fh) ?_ fun H' ⟨F', ds, xs, q, e, n1, n2, z⟩ => k ds xs F' H' q (e.mono (shr_le hn)) n1 n2 z
  rintro k x H1 H2 hk ⟨F1, ds, xs, q, e1, n1, n2, z⟩ y
  have := hY0 _ _ _ _ y
  subst this
  have l2 : k * shr β + shr β ≤ β := shr_next (by omega)
  have A1 := A.step e1 l2
  obtain ⟨ρ2, ⟨σ2, hg, hw, hA⟩, hq⟩ := hY k x F1 H2 hk A1 e1.ff y
  obtain ⟨hl, hq⟩ := hq ds q
  have A2 := hA F0 H0 A1
  have keep : ∀ {δ : Nat} {F3 H3 F4 H4 : Hp} {ys : List V}, Stp α δ F3 H3 F4 H4 → F3 D = none → H3 D = some (.lst ys) → F4 D = none ∧ H4 D = some (.lst ys) := fun {δ F3 H3 F4 H4 ys} e a b => by
    refine ⟨?_, e.g.hh D _ nt b⟩
    cases u : F4 D with
    | none => rfl
    | some o =>
      have := e.g.nw D o u a
      rw [b] at this
      cases this
  refine hg _ ⟨hw, hq F0 H0 F1 H2 _ A2.h _ fun b F3 H3 hb e3 => ?_⟩
  obtain ⟨m1, m2⟩ := keep e3 n1 n2
  cases b with
  | false => exact ⟨F3, ds, xs, hb, e1.tr e3.up (by rw [Nat.succ_mul]; exact Nat.le_refl _), m1, m2, z.up e3.ff⟩
  | true =>
    refine hb F0 H0 F3 H3 _ (A2.nx e3) _ fun y u F4 H4 hy e4 zy => ?_
    obtain ⟨r1, r2⟩ := keep e4 m1 m2
    exact ⟨xs, r2, Evl.sz_lt (by rw [z.len]; exact hl), F4, _, _, hy, (e1.tr (e3.two e4) (by rw [Nat.succ_mul]; exact Nat.le_refl _)).write nt nD r1, r1, upd_same, ((z.up e3.ff).up e4.ff).app (.cons zy .nil)⟩
theorem tn_name {σ : L2.St} {x : V} {d : PyData} {F1 H1 : Hp} (z : Dq K F1 d x) : Tn K α β ρ σ [i] (gName i) x F1 H1 (ρ.set i (.sh d)) := by
  refine ⟨⟨σ.set i (some x), fun Qn q => ?_, ?_, fun F0 H0 A => A.set (s := .sh d) ⟨x, rfl, z⟩ fun _ e => by cases e⟩⟩
  · show Qn ((σ.set i none).set i (some x)) H1
    rw [List.set_set]
    exact q
  · show (σ.set i (some x)).set i none = σ.set i none
    rw [List.set_set]
/-- [e for x in a list if c] -/
theorem DL_lcL {tl : TE} {tt : TT} {Q : List PyData → Prop} (h : DE K α (β / 2) tl ρ fun x => ∃ ds, x = .list ds ∧ ds.length ≤ 262144 ∧ ∃ I : Nat → List PyData → Prop, I 0 [] ∧
      (∀ k d acc, ds[k]? = some d → I k acc → acc.length < 100000 ∧ DT K α (shr (β / 2) / 2) tt (ρ.set i (.sh d)) fun b => if b = true then DE K α (shr (β / 2) / 2) te (ρ.set i (.sh d)) (fun y => I (k + 1) (acc ++ [y])) else I (k + 1) acc) ∧ ∀ acc, I ds.length acc → Q acc) :
    DL K α β (tLc (iList K tl) (gName i) tt te [i]) ρ Q := fun F0 H0 F H σ A QK k =>
  h F0 H0 F H σ A.h _ fun x v F1 H1 hq e1 z => by
    have A1 := A.nx e1
    obtain ⟨ds, rfl, hl, I, h0, hs, hd⟩ := hq
    cases z with
    | @lst a xs _ s1 s2 =>
      refine ⟨a, rfl, ⟨xs, Evl.ex_l A1.fh s1⟩, fun D nD => ?_⟩
      refine DL_lc (own := [i]) (g := gName i) (walk_list (K := K) (xs := xs)) (by rw [s2.len]; exact hl) I A1 nD h0 (fun F' H' e e' => Evl.ex_l (e.trans e') s1) (fun k H1 x H2 y => y.1) (fun m x F2 H2 hm A2 e2 y => ?_) fun ds' ys F' H' q e n1 n2 z => k ds' D ys F' H' (hd ds' (by rwa [s2.len] at q)) (e1.two e) (e1.back A1.tp.2 nD) n1 n2 z
      obtain ⟨_, hx⟩ := y
      obtain ⟨d, hd', zd⟩ := s2.get hx
      exact ⟨_, tn_name (zd.up e2), fun acc q => hs m d acc hd' q⟩
theorem DL_lcR1 {tr : TA} {tt : TT} {Q : List PyData → Prop} (h : DA K α (β / 2) tr ρ fun xs => ∃ j : Int, xs = [.int j] ∧ j ≤ 262144 ∧ ∃ I : Nat → List PyData → Prop, I 0 [] ∧
      (∀ k acc, k < j.toNat → I k acc → acc.length < 100000 ∧ DT K α (shr (β / 2) / 2) tt (ρ.set i (.sh (.int (0 + k)))) fun b => if b = true then DE K α (shr (β / 2) / 2) te (ρ.set i (.sh (.int (0 + k)))) (fun y => I (k + 1) (acc ++ [y])) else I (k + 1) acc) ∧ ∀ acc, I j.toNat acc → Q acc) :
    DL K α β (tLc (iRg1 tr) (gName i) tt te [i]) ρ Q := fun F0 H0 F H σ A QK k =>
  h F0 H0 F H σ A.h _ fun xs vs F1 H1 hq e1 z => by
    have A1 := A.nx e1
    obtain ⟨j, rfl, hl, I, h0, hs, hd⟩ := hq
    obtain ⟨v, rfl, z1⟩ := dqs1 z
    cases z1
    refine ⟨j, rfl, fun D nD => ?_⟩
    refine DL_lc (own := [i]) (g := gName i) (walk_range (lo := 0) (n := j.toNat)) (by omega) I A1 nD h0 (fun _ _ _ _ => trivial) (fun k H1 x H2 y => y.1) (fun m x F2 H2 hm A2 e2 y => ?_) fun ds' ys F' H' q e n1 n2 z => k ds' D ys F' H' (hd ds' q) (e1.two e) (e1.back A1.tp.2 nD) n1 n2 z
    obtain ⟨_, rfl⟩ := y
    exact ⟨_, tn_name (.int _), fun acc q => hs m acc hm q⟩
theorem DL_mapL {f : PyData → PyData} {tl : TE} {Q : List PyData → Prop} (h : DE K α (β / 2) tl ρ fun x => ∃ ds, x = .list ds ∧ ds.length < 100000 ∧ (∀ d ∈ ds, DE K α (shr (β / 2) / 2) te (ρ.set i (.sh d)) fun y => y = f d) ∧ Q (ds.map f)) : DL K α β (tLc (iList K tl) (gName i) tYes te [i]) ρ Q := by
  refine DL_lcL (h.mono ?_)
  rintro x ⟨ds, rfl, hl, hf, q⟩
  refine ⟨ds, rfl, by omega, fun k acc => acc = (ds.take k).map f, rfl, ?_, ?_⟩
  · rintro k d acc hd rfl
    have hk := (List.getElem?_eq_some_iff.mp hd).1
    refine ⟨by rw [List.length_map, List.length_take]; omega, DT_yes ?_⟩
    rw [if_pos rfl]
    refine (hf d (List.mem_of_getElem? hd)).mono ?_
    rintro y rfl
    rw [take_snoc hd, List.map_append]
    rfl
  · rintro acc rfl
    rw [List.take_length]
    exact q
theorem DL_mapR1 {f : Nat → PyData} {tr : TA} {Q : List PyData → Prop} (h : DA K α (β / 2) tr ρ fun xs => ∃ n : Nat, xs = [.int n] ∧ n < 100000 ∧ (∀ k, k < n → DE K α (shr (β / 2) / 2) te (ρ.set i (.sh (.int (k : Int)))) fun y => y = f k) ∧ Q ((List.range n).map f)) : DL K α β (tLc (iRg1 tr) (gName i) tYes te [i]) ρ Q := by
  refine DL_lcR1 fun F0 H0 F H σ A QK k => h F0 H0 F H σ A QK fun xs vs F' H' hq => k xs vs F' H' ?_
  obtain ⟨n, rfl, hl, hf, q⟩ := hq
  refine ⟨n, rfl, by omega, fun k acc => acc = (List.range k).map f, rfl, ?_, ?_⟩
  · rintro k acc hk rfl
    refine ⟨by simp; omega, DT_yes ?_⟩
    rw [if_pos rfl, Int.zero_add]
    refine (hf k (by omega)).mono ?_
    rintro y rfl
    rw [List.range_succ, List.map_append]
    rfl
  · rintro acc rfl
    rw [Int.toNat_natCast]
    exact q
/-- [draws for _ in range(n)]: ints of which P holds -/
theorem DL_intsR1 {P : Int → Prop} {tr : TA} {Q : List PyData → Prop} (h : DA K α (β / 2) tr ρ fun xs => ∃ n : Nat, xs = [.int n] ∧ n < 100000 ∧ (∀ k, k < n → DE K α (shr (β / 2) / 2) te (ρ.set i (.sh (.int (k : Int)))) fun y => ∃ m, y = .int m ∧ P m) ∧ ∀ ns : List Int, ns.length = n → (∀ m ∈ ns, P m) → Q (ns.map .int)) :
    DL K α β (tLc (iRg1 tr) (gName i) tYes te [i]) ρ Q := by
  refine DL_lcR1 fun F0 H0 F H σ A QK k => h F0 H0 F H σ A QK fun xs vs F' H' hq => k xs vs F' H' ?_
  obtain ⟨n, rfl, hl, hf, q⟩ := hq
  refine ⟨n, rfl, by omega, fun k acc => ∃ ns : List Int, acc = ns.map .int ∧ ns.length = k ∧ ∀ m ∈ ns, P m, ⟨[], rfl, rfl, by simp⟩, ?_, ?_⟩
  · rintro k acc hk ⟨ns, rfl, hns, hp⟩
    refine ⟨by simp; omega, DT_yes ?_⟩
    rw [if_pos rfl, Int.zero_add]
    refine (hf k (by omega)).mono ?_
    rintro y ⟨m, rfl, hm⟩
    refine ⟨ns ++ [m], by simp, by simp [hns], fun m' hm' => ?_⟩
    rcases List.mem_append.mp hm' with h' | h'
    · exact hp m' h'
    · rw [List.mem_singleton.mp h']
      exact hm
  · rintro acc ⟨ns, rfl, hns, hp⟩
    exact q ns (by rw [hns]; rfl) hp

/-! ### calls -/
/-- the promise of a def that draws at most w from the list at its first argument -/
def spC (K : PySem.W.Frag) (b : Bool) (w : Nat) (W : List PyData → (PyData → Prop) → Prop) : Sp := fun vs H Q _ => ∃ a ws F ds R, vs = .ref a :: ws ∧ Ex F H ∧ TpOk ⟨a, b⟩ w F H ∧ Dqs K F ds ws ∧ W ds R ∧ ∀ d v F' H', R d → Gr (some a) F H F' H' → F' a = none → To ⟨a, b⟩ w H H' → Dq K F' d v → Q v H'
theorem DE_call {W : List PyData → (PyData → Prop) → Prop} {E : XK} {tr : TA} {Q : PyData → Prop} (h : DA K α β tr ρ fun ds => W ds Q) : DE K α β (tCall (spP K W) [] E tr) ρ Q := fun F0 H0 F H σ A QK k =>
  h F0 H0 F H σ A _ fun ds vs F1 H1 hq e1 z => ⟨F1, ds, Q, e1.g.fh, by rw [List.append_nil]; exact z, hq, fun d v F' H' q g zd => k d v F' H' q (e1.pure g (A.st e1).tp.2) zd⟩
abbrev KeepsC (b : Bool) (w : Nat) (W : List PyData → (PyData → Prop) → Prop) (n : Nat) (tb : PySem.W.Frag → TS) : Prop :=
  ∀ (K : PySem.W.Frag) (a : Addr) (ds : List PyData) (R : PyData → Prop), W ds R → ds.length + 1 ≤ n ∧ DS K ⟨a, b⟩ w (tb K) (Sl.tp :: ds.map Sl.sh ++ List.replicate (n - (ds.length + 1)) Sl.no) (fun _ => R .none) R NoR NoR
end
end Cg
/-! the same for lists of draws that count; a list of draws of the law's own -/
namespace Cg
open PySem PySem.Spec PyProof.Rows L2 Cf
open Evl (Ex)
section
variable {K : PySem.W.Frag} {α : Al} {β γ : Nat} {ρ : Rho} {i j : Nat} {d : PyData} {te ti tl : TE} {t1 t2 : TS} {N B C : Rho → Prop} {R : PyData → Prop}
theorem to_put {F H H' : Hp} {p : Addr} {o : HO} (g4 : some α.a ≠ some p) (h : To α β H H') : To α β H (upd H' p o) := fun u b => by
  obtain ⟨ys, b1, b2⟩ := h u b
  exact ⟨ys, by rw [upd_ne (fun y => g4 (by rw [y]))]; exact b1, b2⟩
theorem DS_extend {ds : List PyData} (h : ρ[i]? = some (.ow ds)) (he : DL K α β te ρ fun es => ds.length + es.length ≤ 100000 ∧ N (ρ.set i (.ow (ds ++ es)))) : DS K α β (tDrop (tBM K "list" rExtend (tVar i) (tCons te tNil))) ρ N R B C :=
  fun F0 H0 F H σ D A kn kr kb kc => by
    obtain ⟨p, xs, e, h1, h2, h3, h4, h5⟩ := A.own h
    refine ⟨.ref p, e, .inl ⟨rfl, xs, .inl (.inl h1)⟩, he F0 H0 F H σ A _ fun es b zs F1 H1 hq s1 n n1 n2 z => ?_⟩
    have A1 := A.st s1
    obtain ⟨hl, q⟩ := hq
    obtain ⟨p', xs', e', g1, g2, g3, g4, g5⟩ := A1.own h
    rw [e] at e'
    cases e'
    exact ⟨p, b, xs', zs, rfl, rfl, g1, n2, Evl.sz_of (by rw [g5.len, z.len]; exact hl), kn _ F1 _ σ q (A1.put h e (g5.app z)) s1.ff (to_put (F := F) g4 s1.to)⟩
theorem DL_callF {W : List PyData → (List PyData → Prop) → Prop} {E : XK} {tr : TA} {Q : List PyData → Prop} (h : DA K α β tr ρ fun ds => W ds Q) : DL K α β (tCall (spF K W) [] E tr) ρ Q := fun F0 H0 F H σ A QK k =>
  h F0 H0 F H σ A _ fun ds vs F1 H1 hq e1 z => ⟨F1, ds, Q, e1.g.fh, by rw [List.append_nil]; exact z, hq, fun es p xs F' H' q g n1 n2 n3 zd => k es p xs F' H' q (e1.pure g (A.st e1).tp.2) (e1.back (A.st e1).tp.2 n1) n2 n3 zd⟩
theorem DE_reprOw {ds : List PyData} {Q : PyData → Prop} (h : ρ[i]? = some (.ow ds)) (q : (PyData.list ds).showable = true ∧ (PyData.list ds).shown.length ≤ sizeLine ∧ (PyData.list ds).depth ≤ 60 ∧ Q (.str (PyData.list ds).shown)) : DE K α β (tCB (rReprD K) (tCons (tVar i) tNil)) ρ Q := fun F0 H0 F H σ A QK k => by
  obtain ⟨p, xs, e, h1, h2, h3, h4, h5⟩ := A.own h
  exact ⟨.ref p, e, .ref p, .list ds, rfl, .lst (.inl (.inl h1)) (h5.up A.fh), q.1, q.2.1, q.2.2.1, k _ _ F H q.2.2.2 A.rfl (.str _)⟩
end
/-! ### a list of draws of the law's own -/
def unTp : Sl → Sl
  | .tp => .no
  | s => s
theorem at_in {K : PySem.W.Frag} {F0 H0 F H F1 H1 : Hp} {σ : L2.St} {ρ : Rho} {i : Nat} {p : Addr} {b0 : Bool} {β : Nat} {xs : List V} (A : Cf.At K none F0 H0 F H σ ρ) (A1 : Cf.At K none F0 H0 F1 H1 σ ρ) (n : H p = none) (n1 : F1 p = none) (n2 : H1 p = some (.lst xs)) (b : TapOk β b0 xs) :
    At K ⟨p, b0⟩ β F0 H0 F1 H1 (σ.set i (some (.ref p))) (ρ.set i .tp) where
  gr := A1.gr.any
  len := by rw [List.length_set, List.length_set, A1.len]
  sl := fun j o s h1 h2 => by
    by_cases e : i = j
    · subst e
      have hi : i < σ.length := by
        have := (List.getElem?_eq_some_iff.mp h1).1
        rwa [List.length_set] at this
      rw [List.getElem?_set_self hi] at h1
      rw [List.getElem?_set_self (by rw [← A1.len]; exact hi)] at h2
      cases h1
      cases h2
      exact ⟨p, rfl, rfl⟩
    · rw [List.getElem?_set_ne e] at h1 h2
      have w := A1.sl j o s h1 h2
      cases s with
      | no => trivial
      | sh d => exact w
      | ow ds =>
        obtain ⟨q, ys, e1, w1, w2, w3, w4, w5⟩ := w
        refine ⟨q, ys, e1, w1, w2, w3, fun z => ?_, w5⟩
        cases z
        subst e1
        exact (A.fs n).own j ds h2 h1
      | tp =>
        obtain ⟨a, z, _⟩ := w
        cases z
      | vl v => exact w
      | od d => exact w
      | nw d => exact w
      | dk q kvs =>
        obtain ⟨e1, ⟨ys, w1, wq⟩, w2, w3, w4⟩ := w
        exact ⟨e1, ⟨ys, w1, wq⟩, w2, w3, fun z => by cases z; rw [n2] at w1; cases w1⟩
      | dt q kvs =>
        obtain ⟨e1, ⟨ys, w1, wq⟩, w2, w3, w4⟩ := w
        exact ⟨e1, ⟨ys, w1, wq⟩, w2, w3, fun z => by cases z; rw [n2] at w1; cases w1⟩
  ap := fun a b q ds es m h1 h2 h3 => by
    have ha : i ≠ a := fun e => by
      subst e
      have hi := (List.getElem?_eq_some_iff.mp h1).1
      rw [List.length_set] at hi
      rw [List.getElem?_set_self hi] at h1
      cases h1
    have hb : i ≠ b := fun e => by
      subst e
      have hi := (List.getElem?_eq_some_iff.mp h2).1
      rw [List.length_set] at hi
      rw [List.getElem?_set_self hi] at h2
      cases h2
    rw [List.getElem?_set_ne ha] at h1 h3
    rw [List.getElem?_set_ne hb] at h2 ⊢
    exact A1.ap a b q ds es m h1 h2 h3
  tp := ⟨n1, xs, n2, b⟩
end Cg
namespace Cg
open PySem PySem.Spec PyProof.Rows L2 Cf
open Evl (Ex)
section
variable {K : PySem.W.Frag} {α : Al} {β γ : Nat} {ρ : Rho} {i j : Nat} {d : PyData} {te ta tb tl : TE} {t1 t2 : TS} {N B C : Rho → Prop} {R : PyData → Prop}
end
end Cg
/-! a, b = a list of that length -/
namespace L2
open PySem PySem.Spec PyProof.Rows
def gTupL (K : PySem.W.Frag) (n : Nat) (t : TGs) : TG := fun v σ H Q => ∃ a xs, v = .ref a ∧ SqL K H a xs ∧ xs.length = n ∧ t xs σ H Q
section
variable {X : Cx} {pos : Pos}
theorem pg_tupL {es : List Expr} {k : Nat} {t : TGs} {n : Nat} (hc : X.calm = true) (h : PGs X es t)
    (hn : (assignEach es X.env).length = n := by rfl) (hst : (assignEach es X.env).findIdx? (·.1) = none := by rfl) : PG X (.Tuple es k pos) (gTupL X.K n t) := by
  refine ⟨fun pins s σ H v u Q I r hw => ?_⟩
  obtain ⟨a, xs, e1, hq, hl, hw⟩ := hw
  subst e1
  cases r
  obtain ⟨its, rv, p, _⟩ := I.list hq
  have hsz : (assignEach es X.env).length = its.toArray.size := by simp [hn, ← hl, rv.length]
  rw [assign_Tuple]
  refine wpAny_bind (wpAny_standAt ?_)
  unfold unpack
  rw [hsz, hst]
  refine wpAny_bind (wpAny_holding (PySem.W.kun_itemsOf (I.ok.hd hc) p.isList fun h' hx => ?_))
  have I1 : Inv X pins σ H { s with heap := h' } := I.kept (t' := s.toks) fun b o e => hx b o (Nat.ne_of_lt (Heap.lt_size e)) e
  exact h.run pins _ σ H xs _ Q I1 (by simpa using rv) hw
end
end L2
namespace Cf
open PySem PySem.Spec PyProof.Rows L2
open Evl (Ex)
end Cf
namespace Cg
open PySem PySem.Spec PyProof.Rows L2 Cf
open Evl (Ex)
end Cg
namespace Cf
open PySem PySem.Spec PyProof.Rows L2
open Evl (Ex)
local macro_rules | `(tactic| walk_at "d") => `(tactic| first
  | (with_reducible refine DS_seq ?_)
  | (with_reducible refine DS_if ?_)
  | (with_reducible refine DS_ret ?_)
  | (with_reducible refine DS_next ?_)
  | (with_reducible refine DS_retN ?_)
  | (with_reducible refine DS_set ?_)
  | (with_reducible refine DS_drop ?_)
  | (with_reducible refine DS_unpack ?_)
  | (with_reducible refine DS_par ?_)
  | (with_reducible refine DE_int ?_)
  | (with_reducible refine DE_bl ?_)
  | (with_reducible refine DE_non ?_)
  | (with_reducible refine DE_str ?_)
  | (with_reducible refine DE_isi ?_)
  | (with_reducible refine DE_and ?_)
  | (with_reducible refine DE_or ?_)
  | (with_reducible refine DE_not ?_)
  | (with_reducible refine DE_if ?_)
  | (with_reducible refine DE_chain ?_)
  | (with_reducible refine DE_tyIs ?_)
  | (with_reducible refine DE_tyNot ?_)
  | (with_reducible refine DE_call ?_)
  | ((with_reducible refine' DE_lenOw ?k1 ?_); (case k1 => exact rfl))
  | ((with_reducible refine' DE_reprOw ?k1 ?_); (case k1 => exact rfl))
  | ((with_reducible refine' DE_ixOw ?k1 ?_); (case k1 => exact rfl))
  | ((with_reducible refine' DE_lenOw ?k1 ?_); (case k1 => exact rfl))
  | (with_reducible refine DE_cb ?_)
  | (with_reducible refine DE_new (DL_rep (DL_lst ?_)))
  | (with_reducible refine DE_op ?_)
  | (with_reducible refine DE_un ?_)
  | (with_reducible refine DE_tup ?_)
  | (with_reducible refine DT_test ?_)
  | (with_reducible refine DT_B ?_)
  | (with_reducible refine DT_and ?_)
  | (with_reducible refine DT_or ?_)
  | (with_reducible refine DT_not ?_)
  | (with_reducible refine DT_yes ?_)
  | (with_reducible refine DA_nil ?_)
  | (with_reducible refine DA_cons ?_)
  | (with_reducible refine DO_no ?_)
  | (with_reducible refine DO_at ?_)
  | (with_reducible refine DR_minus ?_)
  | (with_reducible refine DR_mod ?_)
  | (with_reducible refine DR_div ?_)
  | (with_reducible refine DR_pow ?_)
  | (with_reducible refine DR_lt ?_)
  | (with_reducible refine DR_le ?_)
  | (with_reducible refine DR_gt ?_)
  | (with_reducible refine DR_ge ?_)
  | (with_reducible refine DR_eq ?_)
  | (with_reducible refine DR_ne ?_)
  | (with_reducible refine DR_isN ?_)
  | (with_reducible refine DR_notN ?_)
  | (with_reducible refine DU_neg ?_)
  | (with_reducible refine DC_len ?_)
  | (with_reducible refine DC_int ?_)
  | (with_reducible refine DC_abs ?_)
  | (with_reducible refine DC_max2 ?_)
  | (with_reducible refine DC_min2 ?_)
  | (with_reducible refine DC_sum ?_)
  | (with_reducible refine DC_all ?_)
  | (with_reducible refine DC_any ?_)
  | (with_reducible refine DC_repr ?_)
  | (with_reducible refine ⟨_, kb_int _, ?_⟩)
  | (with_reducible refine ⟨_, kb_bool _, ?_⟩)
  | (with_reducible refine ⟨_, kb_list _, ?_⟩)
  | (with_reducible refine ⟨_, kb_tuple _, ?_⟩)
  | (with_reducible refine ⟨_, rfl, ?_⟩)
  | (with_reducible refine ⟨_, _, rfl, rfl, ?_⟩)
  | (with_reducible refine DE_callN ?_)
  | (with_reducible refine DE_callX ?_)
  | (with_reducible refine DR_notB ?_)
  | (with_reducible refine DE_emp ?_)
  | (with_reducible refine DE_new (DL_lst ?_))
  | (with_reducible refine DE_new (DL_callF ?_))
  | (with_reducible refine DE_new (DL_sl ?_))
  | (with_reducible refine DE_slT ?_)
  | (with_reducible refine DC_list ?_)
  | ((with_reducible refine' DE_callT ?k1 ?_); (case k1 => exact rfl))
  | ((with_reducible refine' DE_var ?k1 ?_); (case k1 => exact rfl))
  | ((with_reducible refine' DE_varO ?k1 ?_); (case k1 => exact rfl))
  | ((with_reducible refine' DE_varN ?k1 ?_); (case k1 => exact rfl)))


/-! the first cells, one at least -/
namespace Ce
def W__law_cells (ds : List PyData) (R : PyData → Prop) : Prop := ∃ (ns : List Int) (m : Int), ds = [LI ns, .int m] ∧ ns.length ≤ 63 ∧ ∀ cs : List Int, 1 ≤ cs.length → cs.length ≤ 64 → R (LI cs)
def t__law_cells (K : PySem.W.Frag) : TS :=
  (tRet (tSl (rSlL K) (tOp (rPlus K) (tVar 0) (tLst (tCons (tC (.int 0)) tNil))) tNoPart (tPart (tCB rMax2A (tCons (tC (.int 1)) (tCons (tCB rMin2A (tCons (tVar 1) (tCons (tCB (rLenA K) (tCons (tVar 0) tNil)) tNil))) tNil))))))
theorem ds__law_cells : Keeps W__law_cells 2 t__law_cells := by
  intro K ds R h
  obtain ⟨ns, m, rfl, hl, q⟩ := h
  refine ⟨by simp, ?_⟩
  show DS K _ (t__law_cells K) [.sh (LI ns), .sh (.int m)] _ _ _ _
  unfold t__law_cells
  refine DS_ret (DE_new (DL_sl ?_))
  refine DE_new (DL_op ?_)
  repeat walk_at "d"
  refine ⟨by simp, DRL_cat ⟨_, _, rfl, rfl, by simp; omega, ?_⟩⟩
  repeat walk_at "d"
  have e : ns.map PyData.int ++ [.int 0] = (ns ++ [0]).map PyData.int := by simp
  rw [e]
  refine ⟨_, _, rfl, ?_⟩
  repeat walk_at "d"
  refine ⟨_, _, rfl, ?_⟩
  repeat walk_at "d"
  obtain ⟨n, hn⟩ : ∃ n : Nat, max 1 (min m (ns.map PyData.int).length) = (n : Int) := ⟨(max 1 (min m (ns.map PyData.int).length)).toNat, by omega⟩
  rw [hn, cutD_to]
  exact q _ (by rw [List.length_take, List.length_append]; simp; omega) (by rw [List.length_take, List.length_append]; simp; omega)
end Ce

end Cf
namespace Cf
open PySem PySem.Spec PyProof.Rows L2
open Evl (Ex)
local macro_rules | `(tactic| walk_at "d") => `(tactic| first
  | (with_reducible refine DS_seq ?_)
  | (with_reducible refine DS_if ?_)
  | (with_reducible refine DS_ret ?_)
  | (with_reducible refine DS_next ?_)
  | (with_reducible refine DS_retN ?_)
  | (with_reducible refine DS_set ?_)
  | (with_reducible refine DS_drop ?_)
  | (with_reducible refine DS_unpack ?_)
  | (with_reducible refine DS_par ?_)
  | (with_reducible refine DE_int ?_)
  | (with_reducible refine DE_bl ?_)
  | (with_reducible refine DE_non ?_)
  | (with_reducible refine DE_str ?_)
  | (with_reducible refine DE_isi ?_)
  | (with_reducible refine DE_and ?_)
  | (with_reducible refine DE_or ?_)
  | (with_reducible refine DE_not ?_)
  | (with_reducible refine DE_if ?_)
  | (with_reducible refine DE_chain ?_)
  | (with_reducible refine DE_tyIs ?_)
  | (with_reducible refine DE_tyNot ?_)
  | (with_reducible refine DE_call ?_)
  | ((with_reducible refine' DE_lenOw ?k1 ?_); (case k1 => exact rfl))
  | ((with_reducible refine' DE_reprOw ?k1 ?_); (case k1 => exact rfl))
  | ((with_reducible refine' DE_ixOw ?k1 ?_); (case k1 => exact rfl))
  | ((with_reducible refine' DE_lenOw ?k1 ?_); (case k1 => exact rfl))
  | (with_reducible refine DE_cb ?_)
  | (with_reducible refine DE_new (DL_rep (DL_lst ?_)))
  | (with_reducible refine DE_op ?_)
  | (with_reducible refine DE_un ?_)
  | (with_reducible refine DE_tup ?_)
  | (with_reducible refine DT_test ?_)
  | (with_reducible refine DT_B ?_)
  | (with_reducible refine DT_and ?_)
  | (with_reducible refine DT_or ?_)
  | (with_reducible refine DT_not ?_)
  | (with_reducible refine DT_yes ?_)
  | (with_reducible refine DA_nil ?_)
  | (with_reducible refine DA_cons ?_)
  | (with_reducible refine DO_no ?_)
  | (with_reducible refine DO_at ?_)
  | (with_reducible refine DR_minus ?_)
  | (with_reducible refine DR_mod ?_)
  | (with_reducible refine DR_div ?_)
  | (with_reducible refine DR_pow ?_)
  | (with_reducible refine DR_lt ?_)
  | (with_reducible refine DR_le ?_)
  | (with_reducible refine DR_gt ?_)
  | (with_reducible refine DR_ge ?_)
  | (with_reducible refine DR_eq ?_)
  | (with_reducible refine DR_ne ?_)
  | (with_reducible refine DR_isN ?_)
  | (with_reducible refine DR_notN ?_)
  | (with_reducible refine DU_neg ?_)
  | (with_reducible refine DC_len ?_)
  | (with_reducible refine DC_int ?_)
  | (with_reducible refine DC_abs ?_)
  | (with_reducible refine DC_max2 ?_)
  | (with_reducible refine DC_min2 ?_)
  | (with_reducible refine DC_sum ?_)
  | (with_reducible refine DC_all ?_)
  | (with_reducible refine DC_any ?_)
  | (with_reducible refine DC_repr ?_)
  | (with_reducible refine ⟨_, kb_int _, ?_⟩)
  | (with_reducible refine ⟨_, kb_bool _, ?_⟩)
  | (with_reducible refine ⟨_, kb_list _, ?_⟩)
  | (with_reducible refine ⟨_, kb_tuple _, ?_⟩)
  | (with_reducible refine ⟨_, rfl, ?_⟩)
  | (with_reducible refine ⟨_, _, rfl, rfl, ?_⟩)
  | (with_reducible refine DE_callN ?_)
  | (with_reducible refine DE_callX ?_)
  | (with_reducible refine DR_notB ?_)
  | (with_reducible refine DE_emp ?_)
  | (with_reducible refine DE_new (DL_lst ?_))
  | (with_reducible refine DE_new (DL_callF ?_))
  | (with_reducible refine DE_new (DL_sl ?_))
  | (with_reducible refine DE_slT ?_)
  | (with_reducible refine DC_list ?_)
  | ((with_reducible refine' DE_callT ?k1 ?_); (case k1 => exact rfl))
  | ((with_reducible refine' DE_var ?k1 ?_); (case k1 => exact rfl))
  | ((with_reducible refine' DE_varO ?k1 ?_); (case k1 => exact rfl))
  | ((with_reducible refine' DE_varN ?k1 ?_); (case k1 => exact rfl)))


/-! k08: right, the law -/
section
variable {K : PySem.W.Frag} {t : Option Addr} {ρ : Rho} {i j : Nat} {te tl : TE} {t1 : TS} {N B C : Rho → Prop} {R : PyData → Prop}
theorem DL_dataR1 {P : PyData → Prop} {tr : TA} {Q : List PyData → Prop} (h : DA K t tr ρ fun xs => ∃ n : Nat, xs = [.int n] ∧ n < 100000 ∧ (∀ k, k < n → DE K t te (ρ.set i (.sh (.int (k : Int)))) P) ∧ ∀ ds : List PyData, ds.length = n → (∀ d ∈ ds, P d) → Q ds) :
    DL K t (tLc (iRg1 tr) (gName i) tYes te [i]) ρ Q := by
  refine DL_lcR1 fun F0 H0 F H σ A QK k => h F0 H0 F H σ A QK fun xs vs F' H' hx e z => k xs vs F' H' ?_ e z
  obtain ⟨n, rfl, hn, hk, q⟩ := hx
  refine ⟨(n : Int), rfl, fun k acc => acc.length = k ∧ ∀ d ∈ acc, P d, ⟨rfl, fun d hd => absurd hd (by simp)⟩, ?_, ?_⟩
  · rintro k acc hk' ⟨hl, ha⟩
    have hk' : k < n := by omega
    refine ⟨by omega, DT_yes ?_⟩
    rw [if_pos rfl, Int.zero_add]
    refine (hk k hk').mono fun y hy => ⟨by rw [List.length_append, hl]; rfl, fun d hd => ?_⟩
    rcases List.mem_append.mp hd with hd | hd
    · exact ha d hd
    · rw [List.mem_singleton.mp hd]
      exact hy
  · rintro acc ⟨hl, ha⟩
    exact q acc (by omega) ha
/-- for a, b in a list of lists of two -/
theorem DS_forLL (h : DE K t te ρ fun x => ∃ ds, x = .list ds ∧ ∃ I : Nat → Rho → Prop, I 0 ρ ∧ (∀ k d ρ', ds[k]? = some d → I k ρ' → ∃ d1 d2, d = .list [d1, d2] ∧ DS K t t1 ((ρ'.set i (.sh d1)).set j (.sh d2)) (I (k + 1)) R N (I (k + 1))) ∧ ∀ ρ', I ds.length ρ' → N ρ') :
    DS K t (tFor (iList K te) (gTupL K 2 (gNames [i, j])) t1) ρ N R B C := fun F0 H0 F H σ D A kn kr kb kc =>
  h F0 H0 F H σ A _ fun x v F1 H1 hq s1 z => by
    have A1 := A.step s1
    have e1 := s1.ff
    obtain ⟨ds, rfl, I, h0, hs, hd⟩ := hq
    cases z with
    | @lst a xs _ s1 s2 =>
      refine ⟨a, rfl, ⟨xs, Evl.ex_l A1.fh s1⟩, ?_⟩
      refine DS_for (walk_list (K := K) (xs := xs)) I A1 h0 (fun F' H' e e' => Evl.ex_l (e.trans e') s1) (fun ρ' F' H' σ' q A' e => kn ρ' F' H' σ' (hd ρ' (by rwa [s2.len] at q)) A' (e1.trans e)) ?_
      rintro k x σ' ρ' F2 H2 H3 Nx hk q A2 e2 ⟨rfl, hx⟩ kN
      obtain ⟨d, hd', zd⟩ := s2.get hx
      obtain ⟨d1, d2, rfl, body⟩ := hs k d ρ' hd' q
      have zd2 := zd.up e2
      cases zd2 with
      | @lst b ys _ s3 s4 =>
        exact ⟨b, ys, rfl, Evl.ex_l A2.fh s3, by rw [s4.len]; rfl, names_run [i, j] [d1, d2] ys σ' ρ' _ rfl s4 A2 fun σ2 A3 => body F0 H0 F2 _ _ _ A3 (fun r F' H' s q A' e => kN r F' H' s q A' (e2.trans e)) kr
          (fun r F' H' s q A' e => kn r F' H' s q A' ((e1.trans e2).trans e)) fun r F' H' s q A' e => kN r F' H' s q A' (e2.trans e)⟩
end
def W__law_right (ds : List PyData) (R : PyData → Prop) : Prop := ds = [] ∧ R (.bool true)
def t__law_right (K : PySem.W.Frag) : TS :=
  (tSeq (tAsg (tTup (tCons (tOp (rPlus K) (tC (.int 2)) (tCall (spT K W__law_draw) [] E0 (tCons (tVar 0) (tCons (tC (.int 3)) tNil)))) (tCons (tOp (rIx K) (tLst (tCons (tC (.int 3)) (tCons (tOp rPowI (tC (.int 10)) (tC (.int 25))) tNil))) (tCall (spT K W__law_draw) [] E0 (tCons (tVar 0) (tCons (tC (.int 2)) tNil)))) tNil))) (gTup K 2 (gNames [1, 2])))
    (tSeq (tAsg (tLc (iRg1 (tCons (tC (.int 2)) tNil)) (gName 4) tYes (tCall (spT K W__law_weight) [] E0 (tCons (tVar 0) (tCons (tVar 1) (tCons (tOp (rIx K) (tLst (tCons (tC (.int 64)) (tCons (tC (.int 16)) (tCons (tC (.int 9)) tNil)))) (tCall (spT K W__law_draw) [] E0 (tCons (tVar 0) (tCons (tC (.int 3)) tNil)))) (tCons (tVar 2) tNil))))) [4]) (gName 3))
    (tSeq (tAsg (tOp (rIx K) (tLst (tCons (tC (.int 0)) (tCons (tC (.int 1)) (tCons (tUn rNegI (tC (.int 1))) (tCons (tOp rMinus (tCall (spT K W__law_draw) [] E0 (tCons (tVar 0) (tCons (tC (.int 2001)) tNil))) (tC (.int 1000))) tNil))))) (tCall (spT K W__law_draw) [] E0 (tCons (tVar 0) (tCons (tC (.int 4)) tNil)))) (gName 5))
    (tSeq (tFor (iList K (tLst (tCons (tVar 3) (tCons (tRevL K (tVar 3)) tNil)))) (gTupL K 2 (gNames [6, 7]))
    (tIfS (tNot (tB (tCall (spT K W__law_added_right) [] E0 (tCons (tVar 0) (tCons (tVar 6) (tCons (tVar 7) (tCons (tVar 5) tNil)))))))
    (tRet (tC (.bl false)))
    tNext))
    (tRet (tAndV (tCall (spT K W__law_divisor_right) [] E0 (tCons (tVar 0) (tCons (tOp (rIx K) (tVar 3) (tC (.int 0))) tNil))) (tCall (spT K W__law_divisor_right) [] E0 (tCons (tVar 0) (tCons (tOp (rIx K) (tVar 3) (tC (.int 1))) tNil)))))))))
theorem ds__law_right : KeepsT W__law_right 8 t__law_right := by
  intro K a ds R h
  obtain ⟨rfl, q⟩ := h
  have e25 : (10 : Int) ^ 25 = 10000000000000000000000000 := rfl
  have b26 : B26 = 100000000000000000000000000 := rfl
  refine ⟨by simp, ?_⟩
  show DS K _ (t__law_right K) [.tp, .no, .no, .no, .no, .no, .no, .no] _ _ _ _
  unfold t__law_right
  refine DS_seq (DS_unpack ?_)
  repeat walk_at "d"
  refine ⟨3, rfl, by decide, big_lt (by decide), fun r r0 r1 => DR_plusI ⟨_, _, rfl, rfl, ?_⟩⟩
  obtain ⟨s, es⟩ : ∃ s : Int, 2 + r = s := ⟨_, rfl⟩
  rw [es]
  repeat (first | walk_at "d" | refine ⟨by show _ ≤ 100000; simp, ?_⟩)
  refine ⟨⟨by decide, by decide, by decide⟩, ?_⟩
  repeat (first | walk_at "d" | refine ⟨by show _ ≤ 100000; simp, ?_⟩)
  refine ⟨2, rfl, by decide, big_lt (by decide), fun t t0 t1 => ?_⟩
  obtain ⟨top, ht, h2, h25⟩ : ∃ top : Int, atI [PyData.int 3, .int (10 ^ (25 : Int).toNat)] t = some (.int top) ∧ 2 ≤ top ∧ top ≤ 10 ^ 25 := by
    have : t = 0 ∨ t = 1 := by omega
    rcases this with rfl | rfl
    · exact ⟨3, rfl, by decide, by decide⟩
    · exact ⟨_, rfl, by decide, by decide⟩
  refine DR_ix (.inl ⟨_, _, _, rfl, rfl, ht, ?_⟩)
  refine DA_nil ⟨by simp, _, rfl, rfl, rfl, ?_⟩
  show DS K _ _ [.tp, .sh (.int s), .sh (.int top), .no, .no, .no, .no, .no] _ _ _ _
  refine DS_seq (DS_set (DE_new (DL_dataR1 (P := fun d => ∃ (l : Nat) (vs : List Int), d = wtD s l vs ∧ Wt s l vs ∧ ∀ v ∈ vs, -B26 ≤ v ∧ v ≤ B26) ?_)))
  repeat walk_at "d"
  refine ⟨by decide, fun k hk => ?_, fun W lW hW => ?_⟩
  · repeat (first | walk_at "d" | refine ⟨by show _ ≤ 100000; simp, ?_⟩)
    refine ⟨3, rfl, by decide, big_lt (by decide), fun w w0 w1 => ?_⟩
    obtain ⟨words, hwd, h9, h64⟩ : ∃ m : Int, atI [PyData.int 64, .int 16, .int 9] w = some (.int m) ∧ 9 ≤ m ∧ m ≤ 64 := by
      have : w = 0 ∨ w = 1 ∨ w = 2 := by omega
      rcases this with rfl | rfl | rfl <;> exact ⟨_, rfl, by decide, by decide⟩
    refine DR_ix (.inl ⟨_, _, _, rfl, rfl, hwd, ?_⟩)
    repeat walk_at "d"
    refine ⟨s, words, top, rfl, by omega, by omega, by omega, by omega, by omega, ?_, fun l vs hw hle hv => ?_⟩
    · show top ≤ 10 ^ 39
      have : (10 : Int) ^ 39 = 1000000000000000000000000000000000000000 := rfl
      omega
    exact ⟨l, vs, rfl, hw, fun v hm => by have := hv v hm; omega⟩
  obtain ⟨d1, d2, rfl⟩ : ∃ d1 d2, W = [d1, d2] := by
    match W, lW with
    | [d1, d2], _ => exact ⟨d1, d2, rfl⟩
  obtain ⟨l1, v1, rfl, w1, b1⟩ := hW d1 (by simp)
  obtain ⟨l2, v2, rfl, w2, b2⟩ := hW d2 (by simp)
  repeat (first | walk_at "d" | refine ⟨by show _ ≤ 100000; simp, ?_⟩)
  refine ⟨2001, rfl, by decide, big_lt (by decide), fun x x0 x1 => ?_⟩
  repeat (first | walk_at "d" | refine ⟨by show _ ≤ 100000; simp, ?_⟩)
  refine ⟨4, rfl, by decide, big_lt (by decide), fun y y0 y1 => ?_⟩
  obtain ⟨tm, htm, tm0, tm1⟩ : ∃ m : Int, atI [PyData.int 0, .int 1, .int (-1), .int (x - 1000)] y = some (.int m) ∧ -2000 ≤ m ∧ m ≤ 2000 := by
    have : y = 0 ∨ y = 1 ∨ y = 2 ∨ y = 3 := by omega
    rcases this with rfl | rfl | rfl | rfl
    · exact ⟨_, rfl, by decide, by decide⟩
    · exact ⟨_, rfl, by decide, by decide⟩
    · exact ⟨_, rfl, by decide, by decide⟩
    · exact ⟨_, rfl, by omega, by omega⟩
  refine DR_ix (.inl ⟨_, _, _, rfl, rfl, htm, ?_⟩)
  show DS K _ _ [.tp, .sh (.int s), .sh (.int top), .sh (.list [wtD s l1 v1, wtD s l2 v2]), .no, .sh (.int tm), .no, .no] _ _ _ _
  refine DS_seq (DS_forLL ?_)
  repeat walk_at "d"
  refine DE_new (DL_rev ?_)
  repeat walk_at "d"
  refine ⟨by simp, ?_⟩
  repeat walk_at "d"
  refine ⟨fun k ρ => ∃ z6 z7, ρ = [.tp, .sh (.int s), .sh (.int top), .sh (.list [wtD s l1 v1, wtD s l2 v2]), .no, .sh (.int tm), z6, z7], ⟨.no, .no, rfl⟩, ?_, ?_⟩
  · rintro k d ρ hd ⟨z6, z7, rfl⟩
    have hd := List.mem_of_getElem? hd
    simp only [List.mem_cons, List.not_mem_nil, or_false] at hd
    rcases hd with rfl | rfl
    · refine ⟨_, _, rfl, ?_⟩
      show DS K _ _ [.tp, .sh (.int s), .sh (.int top), .sh (.list [wtD s l1 v1, wtD s l2 v2]), .no, .sh (.int tm), .sh (wtD s l1 v1), .sh (wtD s l2 v2)] _ _ _ _
      repeat walk_at "d"
      refine ⟨s, l1, l2, v1, v2, tm, rfl, w1, w2, tm0, tm1, b1, b2, _, rfl, iteF (DS_next ⟨_, _, rfl⟩)⟩
    · refine ⟨wtD s l2 v2, wtD s l1 v1, rfl, ?_⟩
      show DS K _ _ [.tp, .sh (.int s), .sh (.int top), .sh (.list [wtD s l1 v1, wtD s l2 v2]), .no, .sh (.int tm), .sh (wtD s l2 v2), .sh (wtD s l1 v1)] _ _ _ _
      repeat walk_at "d"
      refine ⟨s, l2, l1, v2, v1, tm, rfl, w2, w1, tm0, tm1, b2, b1, _, rfl, iteF (DS_next ⟨_, _, rfl⟩)⟩
  · rintro ρ ⟨z6, z7, rfl⟩
    repeat walk_at "d"
    refine DR_ix (.inl ⟨_, 0, _, rfl, rfl, rfl, ?_⟩)
    refine DA_nil ⟨s, l1, v1, rfl, w1, b1, _, rfl, iteT ?_⟩
    repeat walk_at "d"
    refine DR_ix (.inl ⟨_, 1, _, rfl, rfl, rfl, ?_⟩)
    exact DA_nil ⟨s, l2, v2, rfl, w2, b2, q⟩

theorem ones4 : plainOf 4 5 (List.replicate 1024 (-1)) = (1, [-1, -1, -1, -1]) := by
  have w1 : Wt 4 5 (List.replicate 1024 (-1)) := ⟨by decide, by decide, by decide, by decide, by rw [List.length_replicate]; decide⟩
  have w2 : Wt 4 1 [-1, -1, -1, -1] := ⟨by decide, by decide, by decide, by decide, by decide⟩
  have e : List.replicate 1024 (-1) = wideV 4 4 [-1, -1, -1, -1] := by
    have wl := wide_len (s := 4) (by decide) w2.ln 4
    have wl' : (wideV 4 4 [-1, -1, -1, -1]).length = 1024 := by
      have : (4 : Int) ^ (1 + 4) = 1024 := by decide
      omega
    refine list_itm (by rw [List.length_replicate, wl']) fun n n0 n1 => ?_
    rw [List.length_replicate] at n1
    have n1 : n < 1024 := n1
    have p : (4 : Int) ^ (1 + 4) = 1024 := by decide
    have p9 : (4 : Int) ^ 4 = 256 := by decide
    rw [itm_wide (s := 4) (by decide) w2.ln 4 n n0 (by omega), p9]
    have q : n / 256 = 0 ∨ n / 256 = 1 ∨ n / 256 = 2 ∨ n / 256 = 3 := by omega
    have a : itm (List.replicate 1024 (-1 : Int)) n = -1 := by
      unfold itm
      rw [List.getD_eq_getElem?_getD, List.getElem?_replicate, if_pos (by omega)]
      rfl
    rw [a]
    rcases q with q | q | q | q <;> rw [q] <;> rfl
  have h : plainOf 4 5 (List.replicate 1024 (-1)) = plainOf 4 1 [-1, -1, -1, -1] := (plain_same w1 w2).mpr fun r hr hs => by
    rw [e]
    exact ringSum_wide (s := 4) (by decide) w2.ln hr hs 4
  rw [h]
  decide +kernel
theorem gd_a : gcdL (plainOf 2 2 [0, 3, 3, 0]).2 = 6 := by decide +kernel
theorem gd_b : gcdL (plainOf 2 1 [4, 10]).2 = 2 := by decide +kernel
theorem gd_c : gcdL (plainOf 3 1 [0, 0, 0]).2 = 0 := by decide +kernel
theorem gd_d : gcdL (plainOf 2 1 [-6, 0]).2 = 6 := by decide +kernel
theorem gd_e : gcdL (plainOf 4 5 (List.replicate 1024 (-1))).2 = 1 := by
  rw [ones4]
  decide +kernel
def W_law (ds : List PyData) (R : PyData → Prop) : Prop := ∃ ns : List Int, ds = [LI ns] ∧ ns.length ≤ 63 ∧ R (.bool true)
def t_law (K : PySem.W.Frag) : TS :=
  (tSeq (tAsg (tCall (spP K Ce.W__law_cells) [] E0 (tCons (tVar 0) (tCons (tC (.int 4)) tNil))) (gName 1))
    (tSeq (tIfS (tTest (tOp (rNeU K) (tLc (iRg1 (tCons (tCB (rLenA K) (tCons (tVar 1) tNil)) tNil)) (gName 2) (tNot (tB (tCall (spT K W__law_right) [] E0 (tCons (tCall (spF K W__law_tap) [] E0 (tCons (tOp (rIx K) (tVar 1) (tVar 2)) (tCons (tVar 2) tNil))) tNil)))) (tVar 2) [2]) (tLst tNil)))
    (tRet (tC (.bl false)))
    tNext)
    (tSeq (tAsg (tCall (spF K W__law_tap) [] E0 (tCons (tOp (rIx K) (tVar 1) (tC (.int 0))) (tCons (tC (.int 9)) tNil))) (gName 3))
    (tSeq (tPar 4 5 (tCons (tTup (tCons (tC (.int 2)) (tCons (tC (.int 10)) (tCons (tLc (iRg1 (tCons (tC (.int 1024)) tNil)) (gName 6) tYes (tOp rTimes (tC (.int 6)) (tOp rMinus (tCall (spT K W__law_draw) [] E0 (tCons (tVar 3) (tCons (tC (.int 9)) tNil))) (tC (.int 4)))) [6]) tNil)))) (tCons (tCall (spT K W__law_weight) [] E0 (tCons (tVar 3) (tCons (tC (.int 2)) (tCons (tC (.int 4)) (tCons (tC (.int 9)) tNil))))) tNil)))
    (tSeq (tIfS (tOr (tNot (tB (tCall (spT K W__law_added_right) [] E0 (tCons (tVar 3) (tCons (tVar 4) (tCons (tVar 5) (tCons (tC (.int 3)) tNil))))))) (tNot (tB (tCall (spT K W__law_added_right) [] E0 (tCons (tVar 3) (tCons (tVar 5) (tCons (tVar 4) (tCons (tUn rNegI (tC (.int 2))) tNil))))))))
    (tRet (tC (.bl false)))
    tNext)
    (tSeq (tIfS (tOr (tNot (tB (tCall (spT K W__law_divisor_right) [] E0 (tCons (tVar 3) (tCons (tVar 4) tNil))))) (tTest (tOp (rNeU K) (tCall (spP K W_divisor) [] E0 (tCons (tTup (tCons (tC (.int 4)) (tCons (tC (.int 5)) (tCons (tOp rTimes (tLst (tCons (tUn rNegI (tC (.int 1))) tNil)) (tC (.int 1024))) tNil)))) tNil)) (tC (.int 1)))))
    (tRet (tC (.bl false)))
    tNext)
    (tSeq (tAsg (tLst (tCons (tCall (spP K W_divisor) [] E0 (tCons (tTup (tCons (tC (.int 2)) (tCons (tC (.int 2)) (tCons (tLst (tCons (tC (.int 0)) (tCons (tC (.int 3)) (tCons (tC (.int 3)) (tCons (tC (.int 0)) tNil))))) tNil)))) tNil)) (tCons (tCall (spP K W_divisor) [] E0 (tCons (tTup (tCons (tC (.int 2)) (tCons (tC (.int 1)) (tCons (tLst (tCons (tC (.int 4)) (tCons (tC (.int 10)) tNil))) tNil)))) tNil)) (tCons (tCall (spP K W_divisor) [] E0 (tCons (tTup (tCons (tC (.int 3)) (tCons (tC (.int 1)) (tCons (tLst (tCons (tC (.int 0)) (tCons (tC (.int 0)) (tCons (tC (.int 0)) tNil)))) tNil)))) tNil)) tNil)))) (gName 7))
    (tRet (tOp (rEqU K) (tOp (rPlus K) (tVar 7) (tLst (tCons (tCall (spP K W_divisor) [] E0 (tCons (tTup (tCons (tC (.int 2)) (tCons (tC (.int 1)) (tCons (tLst (tCons (tUn rNegI (tC (.int 6))) (tCons (tC (.int 0)) tNil))) tNil)))) tNil)) tNil))) (tLst (tCons (tC (.int 6)) (tCons (tC (.int 2)) (tCons (tC (.int 0)) (tCons (tC (.int 6)) tNil))))))))))))))
theorem ds_law : Keeps W_law 8 t_law := by
  intro K ds R h
  obtain ⟨ns, rfl, hl, q⟩ := h
  have b26 : B26 = 100000000000000000000000000 := rfl
  refine ⟨by simp, ?_⟩
  show DS K _ (t_law K) [.sh (LI ns), .no, .no, .no, .no, .no, .no, .no] _ _ _ _
  unfold t_law
  repeat walk_at "d"
  refine ⟨ns, 4, rfl, hl, fun cs c1 lc => ?_⟩
  refine DS_seq (DS_if (DT_test (DE_op (DE_new (DL_lcR1 ?_)))))
  repeat walk_at "d"
  rw [List.length_map]
  refine ⟨fun _ acc => acc = [], rfl, fun k acc hk e => ⟨by rw [e]; decide, DT_not (DT_B (DE_callNew (DL_callF ?_) ⟨rfl, _, rfl, iteF e⟩))⟩, fun acc e => ?_⟩
  · have hk : k < cs.length := by simpa using hk
    repeat walk_at "d"
    refine DR_ix (.inl ⟨_, _, _, rfl, rfl, atI_ok (by omega) (by omega), ?_⟩)
    repeat walk_at "d"
    exact ⟨_, 0 + (k : Int), rfl, by omega, by omega, fun x y z ht => ⟨x, y, z, rfl, ht⟩⟩
  rw [e]
  refine DE_lst0 (DR_neNil ⟨_, rfl, rfl, _, rfl, ?_⟩)
  refine iteF ?_
  refine DS_next ?_
  refine DS_tapSeq (DL_callF ?_)
  repeat walk_at "d"
  refine DR_ix (.inl ⟨_, _, _, rfl, rfl, atI_ok (by decide) (by omega), ?_⟩)
  repeat walk_at "d"
  refine ⟨_, 9, rfl, by decide, by decide, fun x y z ht => ⟨x, y, z, rfl, ht, fun p => ?_⟩⟩
  show DS K (some p) _ [.sh (LI ns), .sh (LI cs), .no, .tp, .no, .no, .no, .no] _ _ _ _
  refine DS_seq (DS_par ?_)
  repeat walk_at "d"
  refine DE_new (DL_intsR1 (P := fun m => -24 ≤ m ∧ m ≤ 24) ?_)
  repeat walk_at "d"
  refine ⟨by decide, fun k hk => ?_, fun gv gl gb => ?_⟩
  · repeat walk_at "d"
    refine ⟨9, rfl, by decide, big_lt (by decide), fun d d0 d1 => ?_⟩
    repeat walk_at "d"
    refine DR_timesI ⟨_, _, rfl, rfl, .inl ⟨by decide, by decide⟩, _, rfl, by omega, by omega⟩
  refine DA_nil ⟨by simp, ?_⟩
  repeat walk_at "d"
  refine ⟨2, 4, 9, rfl, by decide, by decide, by decide, by decide, by decide, by decide, fun lf vf wf _ fv => ?_⟩
  refine DA_nil ⟨_, _, rfl, ?_⟩
  have wG : Wt 2 10 gv := ⟨by decide, by decide, by decide, by decide, by rw [gl]; decide⟩
  have bG : ∀ v ∈ gv, -B26 ≤ v ∧ v ≤ B26 := fun v hv => by have := gb v hv; omega
  have bF : ∀ v ∈ vf, -B26 ≤ v ∧ v ≤ B26 := fun v hv => by have := fv v hv; omega
  show DS K (some p) _ [.sh (LI ns), .sh (LI cs), .no, .tp, .sh (wtD 2 10 gv), .sh (wtD 2 lf vf), .no, .no] _ _ _ _
  repeat walk_at "d"
  refine ⟨2, 10, lf, gv, vf, 3, rfl, wG, wf, by decide, by decide, bG, bF, _, rfl, iteF ?_⟩
  repeat walk_at "d"
  refine ⟨2, lf, 10, vf, gv, -2, rfl, wf, wG, by decide, by decide, bF, bG, _, rfl, iteF (DS_next ?_)⟩
  repeat walk_at "d"
  refine ⟨2, 10, gv, rfl, wG, bG, _, rfl, iteF ?_⟩
  have r7 : ∀ (k : Nat) (c : Int), (List.replicate k [PyData.int c]).flatten = (List.replicate k c).map .int := fun k c => by rw [rep_one, List.map_replicate]
  repeat (first | walk_at "d" | refine ⟨by show _ ≤ 100000; simp, ?_⟩)
  refine ⟨by decide, by decide, by decide, ?_⟩
  rw [r7, show (1024 : Int).toNat = 1024 from rfl]
  repeat (first | walk_at "d" | refine ⟨by show _ ≤ 100000; simp, ?_⟩)
  refine ⟨4, 5, List.replicate 1024 (-1), rfl, ⟨by decide, by decide, by decide, by decide, by rw [List.length_replicate]; decide⟩, ?_⟩
  rw [gd_e]
  repeat (first | walk_at "d" | refine ⟨by show _ ≤ 100000; simp, ?_⟩)
  refine ⟨shp_int _, shp_int _, _, rfl, iteF' (by rfl) (DS_next ?_)⟩
  repeat (first | walk_at "d" | refine ⟨by show _ ≤ 100000; simp, ?_⟩)
  refine ⟨2, 2, [0, 3, 3, 0], rfl, ⟨by decide, by decide, by decide, by decide, by decide⟩, ?_⟩
  rw [gd_a]
  repeat (first | walk_at "d" | refine ⟨by show _ ≤ 100000; simp, ?_⟩)
  refine ⟨2, 1, [4, 10], rfl, ⟨by decide, by decide, by decide, by decide, by decide⟩, ?_⟩
  rw [gd_b]
  repeat (first | walk_at "d" | refine ⟨by show _ ≤ 100000; simp, ?_⟩)
  refine ⟨3, 1, [0, 0, 0], rfl, ⟨by decide, by decide, by decide, by decide, by decide⟩, ?_⟩
  rw [gd_c]
  repeat (first | walk_at "d" | refine ⟨by show _ ≤ 100000; simp, ?_⟩)
  refine ⟨2, 1, [-6, 0], rfl, ⟨by decide, by decide, by decide, by decide, by decide⟩, ?_⟩
  rw [gd_d]
  repeat (first | walk_at "d" | refine ⟨by show _ ≤ 100000; simp, ?_⟩)
  refine DR_catL ⟨_, _, rfl, rfl, by simp, ?_⟩
  repeat (first | walk_at "d" | refine ⟨by show _ ≤ 100000; simp, ?_⟩)
  refine ⟨rfl, rfl, ?_⟩
  exact q

end Cf
namespace Cf
open PySem PySem.Spec PyProof.Rows L2
open Evl (Ex)
theorem sp_of_law {K : PySem.W.Frag} {vs : List V} {H : Hp} {Q : VK} {E : XK} (h : spLaw K vs H Q E) : spP K W_law vs H Q E := by
  obtain ⟨a, ns, rfl, hS, hl, hO, q⟩ := h
  exact ⟨H, [LI ns], fun d => d = .bool true, Ex.refl H, .cons (.lst hS Dqs.ofInts) .nil, ⟨ns, rfl, hl, rfl⟩, fun d v F' H' e g z => by
    subst e
    cases z
    exact q H'⟩
end Cf
/-! ### the text of the law, its defs one by one -/
namespace Cf
open PySem PySem.Spec PyProof.Rows L2
def topS (i : Nat) : Stmt := PySem.Challenge.pw_cellflows_k08_weights_added_and_divisors.main.body.getD i (.Pass ⟨0, 0, 0, 0⟩)
abbrev s_is_integer : Stmt := topS 8
theorem sc_is_integer : FnScope ["value"] ["value"] (defScope s_is_integer) := ⟨rfl, rfl, rfl, by decide +kernel, rfl, by decide +kernel, by decide +kernel⟩
abbrev s_check_like_signs : Stmt := topS 11
theorem sc_check_like_signs : FnScope ["one", "other"] ["one", "other"] (defScope s_check_like_signs) := ⟨rfl, rfl, rfl, by decide +kernel, rfl, by decide +kernel, by decide +kernel⟩
abbrev s_count_words : Stmt := topS 12
theorem sc_count_words : FnScope ["signs", "length", "limit", "many", "_"] ["signs", "length", "limit"] (defScope s_count_words) := ⟨rfl, rfl, rfl, by decide +kernel, rfl, by decide +kernel, by decide +kernel⟩
abbrev s_last_matters : Stmt := topS 13
theorem sc_last_matters : FnScope ["signs", "items", "at", "item"] ["signs", "items"] (defScope s_last_matters) := ⟨rfl, rfl, rfl, by decide +kernel, rfl, by decide +kernel, by decide +kernel⟩
abbrev s_sums_behind_zeros : Stmt := topS 18
theorem sc_sums_behind_zeros : FnScope ["weight", "signs", "span", "values", "sums", "number", "total", "rest", "_"] ["weight"] (defScope s_sums_behind_zeros) := ⟨rfl, rfl, rfl, by decide +kernel, rfl, by decide +kernel, by decide +kernel⟩
abbrev s_values_at_span : Stmt := topS 21
theorem sc_values_at_span : FnScope ["weight", "span", "signs", "own_span", "values", "_", "number"] ["weight", "span"] (defScope s_values_at_span) := ⟨rfl, rfl, rfl, by decide +kernel, rfl, by decide +kernel, by decide +kernel⟩
abbrev s__law_tap : Stmt := topS 24
theorem sc__law_tap : FnScope ["cell", "turn", "whole"] ["cell", "turn"] (defScope s__law_tap) := ⟨rfl, rfl, rfl, by decide +kernel, rfl, by decide +kernel, by decide +kernel⟩
abbrev s__law_draw : Stmt := topS 25
theorem sc__law_draw : FnScope ["tap", "bound", "found"] ["tap", "bound"] (defScope s__law_draw) := ⟨rfl, rfl, rfl, by decide +kernel, rfl, by decide +kernel, by decide +kernel⟩
abbrev s__law_cells : Stmt := topS 26
theorem sc__law_cells : FnScope ["script", "many"] ["script", "many"] (defScope s__law_cells) := ⟨rfl, rfl, rfl, by decide +kernel, rfl, by decide +kernel, by decide +kernel⟩
abbrev s__law_many : Stmt := topS 27
theorem sc__law_many : FnScope ["signs", "size", "found", "turn"] ["signs", "size"] (defScope s__law_many) := ⟨rfl, rfl, rfl, by decide +kernel, rfl, by decide +kernel, by decide +kernel⟩
abbrev s__law_number : Stmt := topS 28
theorem sc__law_number : FnScope ["signs", "ring", "at", "size", "found", "step"] ["signs", "ring", "at", "size"] (defScope s__law_number) := ⟨rfl, rfl, rfl, by decide +kernel, rfl, by decide +kernel, by decide +kernel⟩
abbrev s__law_word : Stmt := topS 29
theorem sc__law_word : FnScope ["signs", "number", "size", "found", "turn"] ["signs", "number", "size"] (defScope s__law_word) := ⟨rfl, rfl, rfl, by decide +kernel, rfl, by decide +kernel, by decide +kernel⟩
abbrev s__law_same : Stmt := topS 34
theorem sc__law_same : FnScope ["weight"] ["weight"] (defScope s__law_same) := ⟨rfl, rfl, rfl, by decide +kernel, rfl, by decide +kernel, by decide +kernel⟩
abbrev s__law_uneven : Stmt := topS 36
theorem sc__law_uneven : FnScope ["signs", "values", "k"] ["signs", "values"] (defScope s__law_uneven) := ⟨rfl, rfl, rfl, by decide +kernel, rfl, by decide +kernel, by decide +kernel⟩
abbrev s__law_common : Stmt := topS 38
theorem sc__law_common : FnScope ["numbers", "found", "number", "one", "other"] ["numbers"] (defScope s__law_common) := ⟨rfl, rfl, rfl, by decide +kernel, rfl, by decide +kernel, by decide +kernel⟩
abbrev s_is_sign_count : Stmt := topS 9
theorem sc_is_sign_count : FnScope ["value"] ["value"] (defScope s_is_sign_count) := ⟨rfl, rfl, rfl, by decide +kernel, rfl, by decide +kernel, by decide +kernel⟩
abbrev s_is_integer_list : Stmt := topS 10
theorem sc_is_integer_list : FnScope ["value", "item"] ["value"] (defScope s_is_integer_list) := ⟨rfl, rfl, rfl, by decide +kernel, rfl, by decide +kernel, by decide +kernel⟩
abbrev s_check_total : Stmt := topS 17
theorem sc_check_total : FnScope ["value"] ["value"] (defScope s_check_total) := ⟨rfl, rfl, rfl, by decide +kernel, rfl, by decide +kernel, by decide +kernel⟩
abbrev s__law_ring : Stmt := topS 30
theorem sc__law_ring : FnScope ["tap", "signs", "cells", "count", "kind", "row", "turn", "cell"] ["tap", "signs", "cells"] (defScope s__law_ring) := ⟨rfl, rfl, rfl, by decide +kernel, rfl, by decide +kernel, by decide +kernel⟩
abbrev s__law_widest : Stmt := topS 31
theorem sc__law_widest : FnScope ["signs", "words", "found"] ["signs", "words"] (defScope s__law_widest) := ⟨rfl, rfl, rfl, by decide +kernel, rfl, by decide +kernel, by decide +kernel⟩
abbrev s__law_sum : Stmt := topS 33
theorem sc__law_sum : FnScope ["weight", "ring", "signs", "span", "values", "cell"] ["weight", "ring"] (defScope s__law_sum) := ⟨rfl, rfl, rfl, by decide +kernel, rfl, by decide +kernel, by decide +kernel⟩
abbrev s__law_added : Stmt := topS 40
theorem sc__law_added : FnScope ["weight", "second", "times", "signs", "span", "one", "other", "values", "number", "more"] ["weight", "second", "times"] (defScope s__law_added) := ⟨rfl, rfl, rfl, by decide +kernel, rfl, by decide +kernel, by decide +kernel⟩
abbrev s_is_weight : Stmt := topS 15
theorem sc_is_weight : FnScope ["value", "signs", "span", "values"] ["value"] (defScope s_is_weight) := ⟨rfl, rfl, rfl, by decide +kernel, rfl, by decide +kernel, by decide +kernel⟩
abbrev s__law_weight : Stmt := topS 32
theorem sc__law_weight : FnScope ["tap", "signs", "words", "top", "span", "kind", "values", "number", "value"] ["tap", "signs", "words", "top"] (defScope s__law_weight) := ⟨rfl, rfl, rfl, by decide +kernel, rfl, by decide +kernel, by decide +kernel⟩
abbrev s__law_by_rings : Stmt := topS 39
theorem sc__law_by_rings : FnScope ["weight", "signs", "span", "sums", "cells", "number"] ["weight"] (defScope s__law_by_rings) := ⟨rfl, rfl, rfl, by decide +kernel, rfl, by decide +kernel, by decide +kernel⟩
abbrev s_check_weight : Stmt := topS 16
theorem sc_check_weight : FnScope ["value"] ["value"] (defScope s_check_weight) := ⟨rfl, rfl, rfl, by decide +kernel, rfl, by decide +kernel, by decide +kernel⟩
abbrev s_plain : Stmt := topS 19
theorem sc_plain : FnScope ["weight", "signs", "span", "values", "sums", "shifted", "number", "value"] ["weight"] (defScope s_plain) := ⟨rfl, rfl, rfl, by decide +kernel, rfl, by decide +kernel, by decide +kernel⟩
abbrev s_added : Stmt := topS 22
theorem sc_added : FnScope ["weight", "second", "times", "span", "values", "others", "value", "other"] ["weight", "second", "times"] (defScope s_added) := ⟨rfl, rfl, rfl, by decide +kernel, rfl, by decide +kernel, by decide +kernel⟩
abbrev s_divisor : Stmt := topS 20
theorem sc_divisor : FnScope ["weight", "found", "value"] ["weight"] (defScope s_divisor) := ⟨rfl, rfl, rfl, by decide +kernel, rfl, by decide +kernel, by decide +kernel⟩
abbrev s__law_added_right : Stmt := topS 41
theorem sc__law_added_right : FnScope ["tap", "weight", "second", "times", "handed", "given", "due", "found", "turn", "ring"] ["tap", "weight", "second", "times"] (defScope s__law_added_right) := ⟨rfl, rfl, rfl, by decide +kernel, rfl, by decide +kernel, by decide +kernel⟩
abbrev s__law_height : Stmt := topS 35
theorem sc__law_height : FnScope ["weight", "known", "number", "values"] ["weight", "known", "number"] (defScope s__law_height) := ⟨rfl, rfl, rfl, by decide +kernel, rfl, by decide +kernel, by decide +kernel⟩
abbrev s__law_plain : Stmt := topS 37
theorem sc__law_plain : FnScope ["weight", "signs", "span", "values", "size", "known", "found", "number", "more"] ["weight"] (defScope s__law_plain) := ⟨rfl, rfl, rfl, by decide +kernel, rfl, by decide +kernel, by decide +kernel⟩
abbrev s__law_divisor_right : Stmt := topS 42
theorem sc__law_divisor_right : FnScope ["tap", "weight", "times", "handed", "due", "many", "value", "size", "heights", "number", "idle", "k", "one", "more"] ["tap", "weight"] (defScope s__law_divisor_right) := ⟨rfl, rfl, rfl, by decide +kernel, rfl, by decide +kernel, by decide +kernel⟩
abbrev s__law_right : Stmt := topS 43
theorem sc__law_right : FnScope ["tap", "signs", "top", "weights", "turn", "times", "first", "second"] ["tap"] (defScope s__law_right) := ⟨rfl, rfl, rfl, by decide +kernel, rfl, by decide +kernel, by decide +kernel⟩
abbrev s_law : Stmt := topS 44
theorem sc_law : FnScope ["script", "cells", "k", "tap", "great", "few", "number", "told"] ["script"] (defScope s_law) := ⟨rfl, rfl, rfl, by decide +kernel, rfl, by decide +kernel, by decide +kernel⟩
structure Dn (K : PySem.W.Frag) (mg : Str → Option Value) (n : Str) (st : Stmt) (ps : List Str) (f : Addr) (fd : FuncData) : Prop where
  F : Fun K n n st f fd
  g : mg n = some (.ref f)
  b : Binds K fd ps []
structure Ms (mg : Str → Option Value) : Prop where
  abs : mg "abs" = none
  all : mg "all" = none
  any : mg "any" = none
  bool : mg "bool" = none
  enumerate : mg "enumerate" = none
  gcd : mg "gcd" = some (.builtin "math.gcd")
  int : mg "int" = none
  isinstance : mg "isinstance" = none
  len : mg "len" = none
  list : mg "list" = none
  max : mg "max" = none
  min : mg "min" = none
  range : mg "range" = none
  repr : mg "repr" = none
  sum : mg "sum" = none
  tuple : mg "tuple" = none
  type : mg "type" = none
  zip : mg "zip" = none
structure CsL (mg : Str → Option Value) (t_WORD_LIMIT : Tok) : Prop where
  c_WORD_LIMIT : mg "WORD_LIMIT" = some (.int 1024 t_WORD_LIMIT)
section
variable {P : Program} {w : World} {K : PySem.W.Frag} {mg : Str → Option Value} {base : Heap} {t_WORD_LIMIT : Tok}
theorem len_is_integer : ∀ (ds : List PyData) (R : PyData → Prop), W_is_integer ds R → ds.length = 1 := by
  intro ds R h
  unfold W_is_integer at h
  (repeat (first | (obtain ⟨rfl, _⟩ := h) | (obtain ⟨_, h⟩ := h)))
  rfl
theorem ok_is_integer {f : Addr} {fd : FuncData} (D : Dn K mg "is_integer" s_is_integer ["value"] f fd) (M : Ms mg) (Cc : CsL mg t_WORD_LIMIT) : FnG P w K mg base CX0 1 f fd ["value"] (spP K W_is_integer) := by
  refine fun_okG (k := 0) D.F sc_is_integer (fun vs H Q E h => ?_) (fun cdv A outer s H vs Q E hgu hr h => ⟨t_is_integer K, ?_, ?_⟩)
  · obtain ⟨F, ds, R, e, z, hW, k⟩ := h
    rw [z.len, len_is_integer ds R hW]
    rfl
  · unfold t_is_integer
    exact (pss_one (ps_ret (pe_and (pe_callB call_isi (by rfl) M.isinstance (by decide +kernel) (pa_cons (pv 0) (pa_cons (pe_bltn (by rfl) M.int (by decide +kernel) rfl) pa_nil))) (pe_one (pe_not (pe_callB call_isi (by rfl) M.isinstance (by decide +kernel) (pa_cons (pv 0) (pa_cons (pe_bltn (by rfl) M.bool (by decide +kernel) rfl) pa_nil))))))))
  · exact run_P h (ds_is_integer K)
theorem len_check_like_signs : ∀ (ds : List PyData) (R : PyData → Prop), W_check_like_signs ds R → ds.length = 2 := by
  intro ds R h
  unfold W_check_like_signs at h
  (repeat (first | (obtain ⟨rfl, _⟩ := h) | (obtain ⟨_, h⟩ := h)))
  rfl
theorem ok_check_like_signs {f : Addr} {fd : FuncData} (D : Dn K mg "check_like_signs" s_check_like_signs ["one", "other"] f fd) (M : Ms mg) (Cc : CsL mg t_WORD_LIMIT) : FnG P w K mg base CX0 1 f fd ["one", "other"] (spP K W_check_like_signs) := by
  refine fun_okG (k := 0) D.F sc_check_like_signs (fun vs H Q E h => ?_) (fun cdv A outer s H vs Q E hgu hr h => ⟨t_check_like_signs K, ?_, ?_⟩)
  · obtain ⟨F, ds, R, e, z, hW, k⟩ := h
    rw [z.len, len_check_like_signs ds R hW]
    rfl
  · unfold t_check_like_signs
    exact (pss_one (ps_if (pt_cmpR (op_neU hr.units) (pe_ix ix_seq (pv 0) pe_int (fun _ _ => rfl)) (pe_ix ix_seq (pv 1) pe_int (fun _ _ => rfl)) (nomark _))
    (pss_one ps_never)
    pss_nil))
  · exact run_P h (ds_check_like_signs K)
theorem len_count_words : ∀ (ds : List PyData) (R : PyData → Prop), W_count_words ds R → ds.length = 3 := by
  intro ds R h
  unfold W_count_words at h
  (repeat (first | (obtain ⟨rfl, _⟩ := h) | (obtain ⟨_, h⟩ := h)))
  rfl
theorem ok_count_words {f : Addr} {fd : FuncData} (D : Dn K mg "count_words" s_count_words ["signs", "length", "limit"] f fd) (M : Ms mg) (Cc : CsL mg t_WORD_LIMIT) : FnG P w K mg base CX0 1 f fd ["signs", "length", "limit"] (spP K W_count_words) := by
  refine fun_okG (k := 0) D.F sc_count_words (fun vs H Q E h => ?_) (fun cdv A outer s H vs Q E hgu hr h => ⟨t_count_words K, ?_, ?_⟩)
  · obtain ⟨F, ds, R, e, z, hW, k⟩ := h
    rw [z.len, len_count_words ds R hW]
    rfl
  · unfold t_count_words
    exact (pss_cons (ps_set (i := 3) sc_count_words.nd rfl (by first | exact Or.inl rfl | exact Or.inr rfl) pe_int)
    (pss_cons (ps_for PassesOwn.never rfl (pi_rg1 (by rfl) M.range (pa_cons (pv 1) pa_nil)) (pg_name (i := 4) sc_count_words.nd rfl (by first | exact Or.inl rfl | exact Or.inr rfl))
    (pss_cons (ps_set (i := 3) sc_count_words.nd rfl (by first | exact Or.inl rfl | exact Or.inr rfl) (pe_op op_times (pv 3) (pv 0)))
    (pss_one (ps_if (pt_cmpR op_gtI (pv 3) (pv 2) (nomark _))
    (pss_one (ps_ret pe_non))
    pss_nil))))
    (pss_one (ps_ret (pv 3)))))
  · exact run_P h (ds_count_words K)
theorem len_last_matters : ∀ (ds : List PyData) (R : PyData → Prop), W_last_matters ds R → ds.length = 2 := by
  intro ds R h
  unfold W_last_matters at h
  (repeat (first | (obtain ⟨rfl, _⟩ := h) | (obtain ⟨_, h⟩ := h)))
  rfl
theorem ok_last_matters {f : Addr} {fd : FuncData} (D : Dn K mg "last_matters" s_last_matters ["signs", "items"] f fd) (M : Ms mg) (Cc : CsL mg t_WORD_LIMIT) : FnG P w K mg base CX0 1 f fd ["signs", "items"] (spP K W_last_matters) := by
  refine fun_okG (k := 0) D.F sc_last_matters (fun vs H Q E h => ?_) (fun cdv A outer s H vs Q E hgu hr h => ⟨t_last_matters K, ?_, ?_⟩)
  · obtain ⟨F, ds, R, e, z, hW, k⟩ := h
    rw [z.len, len_last_matters ds R hW]
    rfl
  · unfold t_last_matters
    exact (pss_one (ps_ret (pe_callB (cr_any rfl) (by rfl) M.any (by decide +kernel) (pa_cons (pe_lc (own := [("at", 2), ("item", 3)]) (g := (gTup K 2 (gNames [2, 3]))) (tt := tYes) rfl sc_last_matters.nd (pi_enum (by rfl) M.enumerate (pa_cons (pv 1) pa_nil)) (blkOk_by (N := ["signs", "items", "at", "item"]) (sc := defScope s_last_matters) (by decide +kernel)) (fun _ _ _ _ _ => (pg_tup rfl (pgs_cons (pg_name (i := 2) sc_last_matters.nd rfl (by first | exact Or.inl rfl | exact Or.inr rfl)) (pgs_cons (pg_name (i := 3) sc_last_matters.nd rfl (by first | exact Or.inl rfl | exact Or.inr rfl)) pgs_nil)))) (fun _ _ _ _ _ => pts_nil) (fun _ _ _ _ _ => (pe_cmpR (op_neU hr.units) (pv 3) (pe_ix ix_seq (pv 1) (pe_op op_minus (pv 2) (pe_op op_modI (pv 2) (pv 0))) (fun _ _ => rfl)) (nomark _)))) pa_nil))))
  · exact run_P h (ds_last_matters K)
theorem len_sums_behind_zeros : ∀ (ds : List PyData) (R : PyData → Prop), W_sums_behind_zeros ds R → ds.length = 1 := by
  intro ds R h
  unfold W_sums_behind_zeros at h
  (repeat (first | (obtain ⟨rfl, _⟩ := h) | (obtain ⟨_, h⟩ := h)))
  rfl
theorem ok_sums_behind_zeros {f : Addr} {fd : FuncData} (D : Dn K mg "sums_behind_zeros" s_sums_behind_zeros ["weight"] f fd) (M : Ms mg) (Cc : CsL mg t_WORD_LIMIT) : FnG P w K mg base CX0 1 f fd ["weight"] (spP K W_sums_behind_zeros) := by
  refine fun_okG (k := 0) D.F sc_sums_behind_zeros (fun vs H Q E h => ?_) (fun cdv A outer s H vs Q E hgu hr h => ⟨t_sums_behind_zeros K, ?_, ?_⟩)
  · obtain ⟨F, ds, R, e, z, hW, k⟩ := h
    rw [z.len, len_sums_behind_zeros ds R hW]
    rfl
  · unfold t_sums_behind_zeros
    exact (pss_cons (ps_asg (pv 0) (pg_tup rfl (pgs_cons (pg_name (i := 1) sc_sums_behind_zeros.nd rfl (by first | exact Or.inl rfl | exact Or.inr rfl)) (pgs_cons (pg_name (i := 2) sc_sums_behind_zeros.nd rfl (by first | exact Or.inl rfl | exact Or.inr rfl)) (pgs_cons (pg_name (i := 3) sc_sums_behind_zeros.nd rfl (by first | exact Or.inl rfl | exact Or.inr rfl)) pgs_nil)))))
    (pss_cons (ps_set (i := 4) sc_sums_behind_zeros.nd rfl (by first | exact Or.inl rfl | exact Or.inr rfl) (pe_lst pa_nil))
    (pss_cons (ps_for PassesOwn.never rfl (pi_rg1 (by rfl) M.range (pa_cons (pe_op op_divI (pe_callB call_lenA (by rfl) M.len (by decide +kernel) (pa_cons (pv 3) pa_nil)) (pv 1)) pa_nil)) (pg_name (i := 5) sc_sums_behind_zeros.nd rfl (by first | exact Or.inl rfl | exact Or.inr rfl))
    (pss_cons (ps_set (i := 6) sc_sums_behind_zeros.nd rfl (by first | exact Or.inl rfl | exact Or.inr rfl) pe_int)
    (pss_cons (ps_set (i := 7) sc_sums_behind_zeros.nd rfl (by first | exact Or.inl rfl | exact Or.inr rfl) (pv 5))
    (pss_cons (ps_for PassesOwn.never rfl (pi_rg1 (by rfl) M.range (pa_cons (pe_op op_minus (pv 2) pe_int) pa_nil)) (pg_name (i := 8) sc_sums_behind_zeros.nd rfl (by first | exact Or.inl rfl | exact Or.inr rfl))
    (pss_cons (ps_set (i := 6) sc_sums_behind_zeros.nd rfl (by first | exact Or.inl rfl | exact Or.inr rfl) (pe_op op_plus (pv 6) (pe_ix ix_seq (pv 3) (pv 7) (fun _ _ => rfl))))
    (pss_one (ps_set (i := 7) sc_sums_behind_zeros.nd rfl (by first | exact Or.inl rfl | exact Or.inr rfl) (pe_op op_divI (pv 7) (pv 1))))))
    (pss_one (ps_expr (pe_bm PySem.F.plainAttrs_list PySem.F.slot_list_append PySem.F.type_list_append mt_append (pv 4) (pa_cons (pv 6) pa_nil))))))))
    (pss_one (ps_ret (pv 4))))))
  · exact run_P h (ds_sums_behind_zeros K)
theorem len_values_at_span : ∀ (ds : List PyData) (R : PyData → Prop), W_values_at_span ds R → ds.length = 2 := by
  intro ds R h
  unfold W_values_at_span at h
  (repeat (first | (obtain ⟨rfl, _⟩ := h) | (obtain ⟨_, h⟩ := h)))
  rfl
theorem ok_values_at_span {f : Addr} {fd : FuncData} (D : Dn K mg "values_at_span" s_values_at_span ["weight", "span"] f fd) (M : Ms mg) (Cc : CsL mg t_WORD_LIMIT) : FnG P w K mg base CX0 1 f fd ["weight", "span"] (spP K W_values_at_span) := by
  refine fun_okG (k := 0) D.F sc_values_at_span (fun vs H Q E h => ?_) (fun cdv A outer s H vs Q E hgu hr h => ⟨t_values_at_span K, ?_, ?_⟩)
  · obtain ⟨F, ds, R, e, z, hW, k⟩ := h
    rw [z.len, len_values_at_span ds R hW]
    rfl
  · unfold t_values_at_span
    exact (pss_cons (ps_asg (pv 0) (pg_tup rfl (pgs_cons (pg_name (i := 2) sc_values_at_span.nd rfl (by first | exact Or.inl rfl | exact Or.inr rfl)) (pgs_cons (pg_name (i := 3) sc_values_at_span.nd rfl (by first | exact Or.inl rfl | exact Or.inr rfl)) (pgs_cons (pg_name (i := 4) sc_values_at_span.nd rfl (by first | exact Or.inl rfl | exact Or.inr rfl)) pgs_nil)))))
    (pss_cons (ps_for PassesOwn.never rfl (pi_rg1 (by rfl) M.range (pa_cons (pe_op op_minus (pv 1) (pv 3)) pa_nil)) (pg_name (i := 5) sc_values_at_span.nd rfl (by first | exact Or.inl rfl | exact Or.inr rfl))
    (pss_one (ps_set (i := 4) sc_values_at_span.nd rfl (by first | exact Or.inl rfl | exact Or.inr rfl) (pe_lc (own := [("number", 6)]) (g := (gName 6)) (tt := tYes) rfl sc_values_at_span.nd (pi_rg1 (by rfl) M.range (pa_cons (pe_op op_times (pe_callB call_lenA (by rfl) M.len (by decide +kernel) (pa_cons (pv 4) pa_nil)) (pv 2)) pa_nil)) (blkOk_by (N := ["weight", "span", "signs", "own_span", "values", "_", "number"]) (sc := defScope s_values_at_span) (by decide +kernel)) (fun _ _ _ _ _ => (pg_name (i := 6) sc_values_at_span.nd rfl (by first | exact Or.inl rfl | exact Or.inr rfl))) (fun _ _ _ _ _ => pts_nil) (fun _ _ _ _ _ => (pe_ix ix_seq (pv 4) (pe_op op_divI (pv 6) (pv 2)) (fun _ _ => rfl)))))))
    (pss_one (ps_ret (pv 4)))))
  · exact run_P h (ds_values_at_span K)
theorem len__law_tap : ∀ (ds : List PyData) (R : List PyData → Prop), W__law_tap ds R → ds.length = 2 := by
  intro ds R h
  unfold W__law_tap at h
  (repeat (first | (obtain ⟨rfl, _⟩ := h) | (obtain ⟨_, h⟩ := h)))
  rfl
theorem ok__law_tap {f : Addr} {fd : FuncData} (D : Dn K mg "_law_tap" s__law_tap ["cell", "turn"] f fd) (M : Ms mg) (Cc : CsL mg t_WORD_LIMIT) : FnG P w K mg base CX0 1 f fd ["cell", "turn"] (spF K W__law_tap) := by
  refine fun_okG (k := 0) D.F sc__law_tap (fun vs H Q E h => ?_) (fun cdv A outer s H vs Q E hgu hr h => ⟨t__law_tap K, ?_, ?_⟩)
  · obtain ⟨F, ds, R, e, z, hW, k⟩ := h
    rw [z.len, len__law_tap ds R hW]
    rfl
  · unfold t__law_tap
    exact (pss_cons (ps_set (i := 2) sc__law_tap.nd rfl (by first | exact Or.inl rfl | exact Or.inr rfl) (pe_op op_plus (pe_op op_times pe_int (pe_callB call_absA (by rfl) M.abs (by decide +kernel) (pa_cons (pv 0) pa_nil))) (pe_callTy call_intA (by rfl) M.int (by decide +kernel) (pa_cons (pe_cmpR op_ltI (pv 0) pe_int (nomark _)) pa_nil))))
    (pss_one (ps_ret (pe_lst (pa_cons (pv 2) (pa_cons (pe_op op_plus (pe_op op_plus (pe_op op_modI (pe_callTy call_intA (by rfl) M.int (by decide +kernel) (pa_cons (pv 2) pa_nil)) pe_int) (pe_op op_times pe_int (pv 1))) pe_int) (pa_cons (pe_op op_plus (pe_op op_plus (pe_op op_modI (pe_callTy call_intA (by rfl) M.int (by decide +kernel) (pa_cons (pv 2) pa_nil)) pe_int) (pe_op op_times pe_int (pv 1))) pe_int) pa_nil)))))))
  · exact run_F h (ds__law_tap K)
theorem len__law_draw : ∀ (ds : List PyData) (R : PyData → Prop), W__law_draw ds R → ds.length = 1 := by
  intro ds R h
  unfold W__law_draw at h
  (repeat (first | (obtain ⟨rfl, _⟩ := h) | (obtain ⟨_, h⟩ := h)))
  rfl
theorem ok__law_draw {f : Addr} {fd : FuncData} (D : Dn K mg "_law_draw" s__law_draw ["tap", "bound"] f fd) (M : Ms mg) (Cc : CsL mg t_WORD_LIMIT) : FnG P w K mg base CX0 1 f fd ["tap", "bound"] (spT K W__law_draw) := by
  refine fun_okG (k := 0) D.F sc__law_draw (fun vs H Q E h => ?_) (fun cdv A outer s H vs Q E hgu hr h => ⟨t__law_draw K, ?_, ?_⟩)
  · obtain ⟨a, ws, F, ds, R, rfl, e, tp, z, hW, k⟩ := h
    rw [List.length_cons, z.len, len__law_draw ds R hW]
    rfl
  · unfold t__law_draw
    exact (pss_cons (ps_if (pt_cmpR op_geI (pe_ix ix_seq (pv 0) pe_int (fun _ _ => rfl)) (pe_op op_powI pe_int pe_int) (nomark _))
    (pss_cons (ps_set (i := 2) sc__law_draw.nd rfl (by first | exact Or.inl rfl | exact Or.inr rfl) (pe_op op_modI (pe_callTy call_intA (by rfl) M.int (by decide +kernel) (pa_cons (pe_ix ix_seq (pv 0) pe_int (fun _ _ => rfl)) pa_nil)) (pv 1)))
    (pss_cons (ps_asg (pe_op op_divI (pe_ix ix_seq (pv 0) pe_int (fun _ _ => rfl)) (pv 1)) (pg_sub (pv 0) pe_int set_list))
    (pss_one (ps_ret (pv 2)))))
    pss_nil)
    (pss_cons (ps_asg (pe_op op_modI (pe_callTy call_intA (by rfl) M.int (by decide +kernel) (pa_cons (pe_op op_plus (pe_op op_times (pe_ix ix_seq (pv 0) pe_int (fun _ _ => rfl)) pe_int) pe_int) pa_nil)) pe_int) (pg_sub (pv 0) pe_int set_list))
    (pss_cons (ps_asg (pe_op op_modI (pe_callTy call_intA (by rfl) M.int (by decide +kernel) (pa_cons (pe_op op_plus (pe_op op_times (pe_ix ix_seq (pv 0) pe_int (fun _ _ => rfl)) (pe_ix ix_seq (pv 0) pe_int (fun _ _ => rfl))) (pe_ix ix_seq (pv 0) pe_int (fun _ _ => rfl))) pa_nil)) pe_int) (pg_sub (pv 0) pe_int set_list))
    (pss_one (ps_ret (pe_op op_modI (pe_callTy call_intA (by rfl) M.int (by decide +kernel) (pa_cons (pe_op op_plus (pe_op op_divI (pe_ix ix_seq (pv 0) pe_int (fun _ _ => rfl)) pe_int) (pe_op op_divI (pe_ix ix_seq (pv 0) pe_int (fun _ _ => rfl)) pe_int)) pa_nil)) (pv 1)))))))
  · exact run_draw h
theorem len__law_cells : ∀ (ds : List PyData) (R : PyData → Prop), Ce.W__law_cells ds R → ds.length = 2 := by
  intro ds R h
  unfold Ce.W__law_cells at h
  (repeat (first | (obtain ⟨rfl, _⟩ := h) | (obtain ⟨_, h⟩ := h)))
  rfl
theorem ok__law_cells {f : Addr} {fd : FuncData} (D : Dn K mg "_law_cells" s__law_cells ["script", "many"] f fd) (M : Ms mg) (Cc : CsL mg t_WORD_LIMIT) : FnG P w K mg base CX0 1 f fd ["script", "many"] (spP K Ce.W__law_cells) := by
  refine fun_okG (k := 0) D.F sc__law_cells (fun vs H Q E h => ?_) (fun cdv A outer s H vs Q E hgu hr h => ⟨Ce.t__law_cells K, ?_, ?_⟩)
  · obtain ⟨F, ds, R, e, z, hW, k⟩ := h
    rw [z.len, len__law_cells ds R hW]
    rfl
  · unfold Ce.t__law_cells
    exact (pss_one (ps_ret (pe_slice sl_list (pe_op op_plus (pv 0) (pe_lst (pa_cons pe_int pa_nil))) po_none (po_some (pe_callB (call_max2A rfl) (by rfl) M.max (by decide +kernel) (pa_cons pe_int (pa_cons (pe_callB (call_min2A rfl) (by rfl) M.min (by decide +kernel) (pa_cons (pv 1) (pa_cons (pe_callB call_lenA (by rfl) M.len (by decide +kernel) (pa_cons (pv 0) pa_nil)) pa_nil))) pa_nil)))))))
  · exact run_P h (Ce.ds__law_cells K)
theorem len__law_many : ∀ (ds : List PyData) (R : PyData → Prop), W__law_many ds R → ds.length = 2 := by
  intro ds R h
  unfold W__law_many at h
  (repeat (first | (obtain ⟨rfl, _⟩ := h) | (obtain ⟨_, h⟩ := h)))
  rfl
theorem ok__law_many {f : Addr} {fd : FuncData} (D : Dn K mg "_law_many" s__law_many ["signs", "size"] f fd) (M : Ms mg) (Cc : CsL mg t_WORD_LIMIT) : FnG P w K mg base CX0 1 f fd ["signs", "size"] (spP K W__law_many) := by
  refine fun_okG (k := 0) D.F sc__law_many (fun vs H Q E h => ?_) (fun cdv A outer s H vs Q E hgu hr h => ⟨t__law_many K, ?_, ?_⟩)
  · obtain ⟨F, ds, R, e, z, hW, k⟩ := h
    rw [z.len, len__law_many ds R hW]
    rfl
  · unfold t__law_many
    exact (pss_cons (ps_set (i := 2) sc__law_many.nd rfl (by first | exact Or.inl rfl | exact Or.inr rfl) pe_int)
    (pss_cons (ps_for PassesOwn.never rfl (pi_rg1 (by rfl) M.range (pa_cons (pv 1) pa_nil)) (pg_name (i := 3) sc__law_many.nd rfl (by first | exact Or.inl rfl | exact Or.inr rfl))
    (pss_one (ps_set (i := 2) sc__law_many.nd rfl (by first | exact Or.inl rfl | exact Or.inr rfl) (pe_op op_times (pv 2) (pv 0)))))
    (pss_one (ps_ret (pv 2)))))
  · exact run_P h (ds__law_many K)
theorem len__law_number : ∀ (ds : List PyData) (R : PyData → Prop), W__law_number ds R → ds.length = 4 := by
  intro ds R h
  unfold W__law_number at h
  (repeat (first | (obtain ⟨rfl, _⟩ := h) | (obtain ⟨_, h⟩ := h)))
  rfl
theorem ok__law_number {f : Addr} {fd : FuncData} (D : Dn K mg "_law_number" s__law_number ["signs", "ring", "at", "size"] f fd) (M : Ms mg) (Cc : CsL mg t_WORD_LIMIT) : FnG P w K mg base CX0 1 f fd ["signs", "ring", "at", "size"] (spP K W__law_number) := by
  refine fun_okG (k := 0) D.F sc__law_number (fun vs H Q E h => ?_) (fun cdv A outer s H vs Q E hgu hr h => ⟨t__law_number K, ?_, ?_⟩)
  · obtain ⟨F, ds, R, e, z, hW, k⟩ := h
    rw [z.len, len__law_number ds R hW]
    rfl
  · unfold t__law_number
    exact (pss_cons (ps_set (i := 4) sc__law_number.nd rfl (by first | exact Or.inl rfl | exact Or.inr rfl) pe_int)
    (pss_cons (ps_for PassesOwn.never rfl (pi_rg1 (by rfl) M.range (pa_cons (pv 3) pa_nil)) (pg_name (i := 5) sc__law_number.nd rfl (by first | exact Or.inl rfl | exact Or.inr rfl))
    (pss_one (ps_set (i := 4) sc__law_number.nd rfl (by first | exact Or.inl rfl | exact Or.inr rfl) (pe_op op_plus (pe_op op_times (pv 4) (pv 0)) (pe_ix ix_seq (pv 1) (pe_op op_modI (pe_callTy call_intA (by rfl) M.int (by decide +kernel) (pa_cons (pe_op op_plus (pv 2) (pv 5)) pa_nil)) (pe_callB call_lenA (by rfl) M.len (by decide +kernel) (pa_cons (pv 1) pa_nil))) (fun _ _ => rfl))))))
    (pss_one (ps_ret (pv 4)))))
  · exact run_P h (ds__law_number K)
theorem len__law_word : ∀ (ds : List PyData) (R : PyData → Prop), W__law_word ds R → ds.length = 3 := by
  intro ds R h
  unfold W__law_word at h
  (repeat (first | (obtain ⟨rfl, _⟩ := h) | (obtain ⟨_, h⟩ := h)))
  rfl
theorem ok__law_word {f : Addr} {fd : FuncData} (D : Dn K mg "_law_word" s__law_word ["signs", "number", "size"] f fd) (M : Ms mg) (Cc : CsL mg t_WORD_LIMIT) : FnG P w K mg base CX0 1 f fd ["signs", "number", "size"] (spP K W__law_word) := by
  refine fun_okG (k := 0) D.F sc__law_word (fun vs H Q E h => ?_) (fun cdv A outer s H vs Q E hgu hr h => ⟨t__law_word K, ?_, ?_⟩)
  · obtain ⟨F, ds, R, e, z, hW, k⟩ := h
    rw [z.len, len__law_word ds R hW]
    rfl
  · unfold t__law_word
    exact (pss_cons (ps_set (i := 3) sc__law_word.nd rfl (by first | exact Or.inl rfl | exact Or.inr rfl) (pe_lst pa_nil))
    (pss_cons (ps_for PassesOwn.never rfl (pi_rg1 (by rfl) M.range (pa_cons (pv 2) pa_nil)) (pg_name (i := 4) sc__law_word.nd rfl (by first | exact Or.inl rfl | exact Or.inr rfl))
    (pss_cons (ps_expr (pe_bm PySem.F.plainAttrs_list PySem.F.slot_list_append PySem.F.type_list_append mt_append (pv 3) (pa_cons (pe_op op_modI (pe_callTy call_intA (by rfl) M.int (by decide +kernel) (pa_cons (pv 1) pa_nil)) (pv 0)) pa_nil)))
    (pss_one (ps_set (i := 1) sc__law_word.nd rfl (by first | exact Or.inl rfl | exact Or.inr rfl) (pe_op op_divI (pv 1) (pv 0))))))
    (pss_one (ps_ret (pe_revL (pv 3))))))
  · exact run_P h (ds__law_word K)
theorem len__law_same : ∀ (ds : List PyData) (R : PyData → Prop), W__law_same ds R → ds.length = 1 := by
  intro ds R h
  unfold W__law_same at h
  (repeat (first | (obtain ⟨rfl, _⟩ := h) | (obtain ⟨_, h⟩ := h)))
  rfl
theorem ok__law_same {f : Addr} {fd : FuncData} (D : Dn K mg "_law_same" s__law_same ["weight"] f fd) (M : Ms mg) (Cc : CsL mg t_WORD_LIMIT) : FnG P w K mg base CX0 1 f fd ["weight"] (spP K W__law_same) := by
  refine fun_okG (k := 0) D.F sc__law_same (fun vs H Q E h => ?_) (fun cdv A outer s H vs Q E hgu hr h => ⟨t__law_same K, ?_, ?_⟩)
  · obtain ⟨F, ds, R, e, z, hW, k⟩ := h
    rw [z.len, len__law_same ds R hW]
    rfl
  · unfold t__law_same
    exact (pss_one (ps_ret (pe_tup (pa_cons (pe_ix ix_seq (pv 0) pe_int (fun _ _ => rfl)) (pa_cons (pe_ix ix_seq (pv 0) pe_int (fun _ _ => rfl)) (pa_cons (pe_callTy call_listA (by rfl) M.list (by decide +kernel) (pa_cons (pe_ix ix_seq (pv 0) pe_int (fun _ _ => rfl)) pa_nil)) pa_nil))))))
  · exact run_P h (ds__law_same K)
theorem len__law_uneven : ∀ (ds : List PyData) (R : PyData → Prop), W__law_uneven ds R → ds.length = 2 := by
  intro ds R h
  unfold W__law_uneven at h
  (repeat (first | (obtain ⟨rfl, _⟩ := h) | (obtain ⟨_, h⟩ := h)))
  rfl
theorem ok__law_uneven {f : Addr} {fd : FuncData} (D : Dn K mg "_law_uneven" s__law_uneven ["signs", "values"] f fd) (M : Ms mg) (Cc : CsL mg t_WORD_LIMIT) : FnG P w K mg base CX0 1 f fd ["signs", "values"] (spP K W__law_uneven) := by
  refine fun_okG (k := 0) D.F sc__law_uneven (fun vs H Q E h => ?_) (fun cdv A outer s H vs Q E hgu hr h => ⟨t__law_uneven K, ?_, ?_⟩)
  · obtain ⟨F, ds, R, e, z, hW, k⟩ := h
    rw [z.len, len__law_uneven ds R hW]
    rfl
  · unfold t__law_uneven
    exact (pss_one (ps_ret (pe_lc (own := [("k", 2)]) (g := (gName 2)) (tt := (tTest (tOp (rNeU K) (tOp (rIx K) (tVar 1) (tVar 2)) (tOp (rIx K) (tVar 1) (tOp rMinus (tVar 2) (tOp rModI (tCB rIntA (tCons (tVar 2) tNil)) (tVar 0))))))) rfl sc__law_uneven.nd (pi_rg1 (by rfl) M.range (pa_cons (pe_callB call_lenA (by rfl) M.len (by decide +kernel) (pa_cons (pv 1) pa_nil)) pa_nil)) (blkOk_by (N := ["signs", "values", "k"]) (sc := defScope s__law_uneven) (by decide +kernel)) (fun _ _ _ _ _ => (pg_name (i := 2) sc__law_uneven.nd rfl (by first | exact Or.inl rfl | exact Or.inr rfl))) (fun _ _ _ _ _ => (pts_one (pt_cmpR (op_neU hr.units) (pe_ix ix_seq (pv 1) (pv 2) (fun _ _ => rfl)) (pe_ix ix_seq (pv 1) (pe_op op_minus (pv 2) (pe_op op_modI (pe_callTy call_intA (by rfl) M.int (by decide +kernel) (pa_cons (pv 2) pa_nil)) (pv 0))) (fun _ _ => rfl)) (nomark _)))) (fun _ _ _ _ _ => (pv 2)))))
  · exact run_P h (ds__law_uneven K)
theorem len__law_common : ∀ (ds : List PyData) (R : PyData → Prop), W__law_common ds R → ds.length = 1 := by
  intro ds R h
  unfold W__law_common at h
  (repeat (first | (obtain ⟨rfl, _⟩ := h) | (obtain ⟨_, h⟩ := h)))
  rfl
theorem ok__law_common {f : Addr} {fd : FuncData} (D : Dn K mg "_law_common" s__law_common ["numbers"] f fd) (M : Ms mg) (Cc : CsL mg t_WORD_LIMIT) : FnG P w K mg base CX0 1 f fd ["numbers"] (spP K W__law_common) := by
  refine fun_okG (k := 0) D.F sc__law_common (fun vs H Q E h => ?_) (fun cdv A outer s H vs Q E hgu hr h => ⟨t__law_common K, ?_, ?_⟩)
  · obtain ⟨F, ds, R, e, z, hW, k⟩ := h
    rw [z.len, len__law_common ds R hW]
    rfl
  · unfold t__law_common
    exact (pss_cons (ps_set (i := 1) sc__law_common.nd rfl (by first | exact Or.inl rfl | exact Or.inr rfl) pe_int)
    (pss_cons (ps_for PassesOwn.never rfl (pi_list (pv 0)) (pg_name (i := 2) sc__law_common.nd rfl (by first | exact Or.inl rfl | exact Or.inr rfl))
    (pss_cons (ps_par (i := 3) (j := 4) (by rfl) sc__law_common.nd rfl rfl (by decide) rfl rfl (pa_cons (pe_callB call_absA (by rfl) M.abs (by decide +kernel) (pa_cons (pv 2) pa_nil)) (pa_cons (pv 1) pa_nil)) (by rfl))
    (pss_cons (ps_while PassesOwn.never (pt_cmpR (op_neU hr.units) (pv 4) pe_int (nomark _))
    (pss_one (ps_par (i := 3) (j := 4) (by rfl) sc__law_common.nd rfl rfl (by decide) rfl rfl (pa_cons (pv 4) (pa_cons (pe_op op_modI (pe_callTy call_intA (by rfl) M.int (by decide +kernel) (pa_cons (pv 3) pa_nil)) (pv 4)) pa_nil)) (by rfl))))
    (pss_one (ps_set (i := 1) sc__law_common.nd rfl (by first | exact Or.inl rfl | exact Or.inr rfl) (pv 3))))))
    (pss_one (ps_ret (pv 1)))))
  · exact run_P h (ds__law_common K)
theorem len_is_sign_count : ∀ (ds : List PyData) (R : PyData → Prop), W_is_sign_count ds R → ds.length = 1 := by
  intro ds R h
  unfold W_is_sign_count at h
  (repeat (first | (obtain ⟨rfl, _⟩ := h) | (obtain ⟨_, h⟩ := h)))
  rfl
theorem ok_is_sign_count {f : Addr} {fd : FuncData} (D : Dn K mg "is_sign_count" s_is_sign_count ["value"] f fd) {f_is_integer : Addr} {fd_is_integer : FuncData} (D_is_integer : Dn K mg "is_integer" s_is_integer ["value"] f_is_integer fd_is_integer) (G_is_integer : FnG P w K mg base CX0 1 f_is_integer fd_is_integer ["value"] (spP K W_is_integer)) (M : Ms mg) (Cc : CsL mg t_WORD_LIMIT) : FnG P w K mg base CX0 2 f fd ["value"] (spP K W_is_sign_count) := by
  refine fun_okG (k := 1) D.F sc_is_sign_count (fun vs H Q E h => ?_) (fun cdv A outer s H vs Q E hgu hr h => ⟨t_is_sign_count K, ?_, ?_⟩)
  · obtain ⟨F, ds, R, e, z, hW, k⟩ := h
    rw [z.len, len_is_sign_count ds R hW]
    rfl
  · unfold t_is_sign_count
    exact (pss_one (ps_ret (pe_and (pe_callG G_is_integer hgu (hr.mono (by decide)) (by rfl) D_is_integer.g D_is_integer.F.kp D_is_integer.b pass0 (pa_cons (pv 0) pa_nil)) (pe_one (pe_chain op_leI op_leI pe_int (pv 0) pe_int)))))
  · exact run_P h (ds_is_sign_count K)
theorem len_is_integer_list : ∀ (ds : List PyData) (R : PyData → Prop), W_is_integer_list ds R → ds.length = 1 := by
  intro ds R h
  unfold W_is_integer_list at h
  (repeat (first | (obtain ⟨rfl, _⟩ := h) | (obtain ⟨_, h⟩ := h)))
  rfl
theorem ok_is_integer_list {f : Addr} {fd : FuncData} (D : Dn K mg "is_integer_list" s_is_integer_list ["value"] f fd) {f_is_integer : Addr} {fd_is_integer : FuncData} (D_is_integer : Dn K mg "is_integer" s_is_integer ["value"] f_is_integer fd_is_integer) (G_is_integer : FnG P w K mg base CX0 1 f_is_integer fd_is_integer ["value"] (spP K W_is_integer)) (M : Ms mg) (Cc : CsL mg t_WORD_LIMIT) : FnG P w K mg base CX0 2 f fd ["value"] (spP K W_is_integer_list) := by
  refine fun_okG (k := 1) D.F sc_is_integer_list (fun vs H Q E h => ?_) (fun cdv A outer s H vs Q E hgu hr h => ⟨t_is_integer_list K, ?_, ?_⟩)
  · obtain ⟨F, ds, R, e, z, hW, k⟩ := h
    rw [z.len, len_is_integer_list ds R hW]
    rfl
  · unfold t_is_integer_list
    exact (pss_one (ps_ret (pe_and (pe_cmpR op_isTy1 (pe_callTy call_type1 (by rfl) M.type (by decide +kernel) (pa_cons (pv 0) pa_nil)) (pe_bltn (by rfl) M.list (by decide +kernel) rfl) (nomark _)) (pe_one (pe_callB (cr_all rfl) (by rfl) M.all (by decide +kernel) (pa_cons (pe_lc (own := [("item", 1)]) (g := (gName 1)) (tt := tYes) rfl sc_is_integer_list.nd (pi_list (pv 0)) (blkOk_by (N := ["value", "item"]) (sc := defScope s_is_integer_list) (by decide +kernel)) (fun _ _ _ _ _ => (pg_name (i := 1) sc_is_integer_list.nd rfl (by first | exact Or.inl rfl | exact Or.inr rfl))) (fun _ _ _ _ _ => pts_nil) (fun _ _ _ _ _ => (pe_callG G_is_integer hgu (hr.mono (by decide)) (by rfl) D_is_integer.g D_is_integer.F.kp D_is_integer.b pass0 (pa_cons (pv 1) pa_nil)))) pa_nil))))))
  · exact run_P h (ds_is_integer_list K)
theorem len_check_total : ∀ (ds : List PyData) (R : PyData → Prop), W_check_total ds R → ds.length = 1 := by
  intro ds R h
  unfold W_check_total at h
  (repeat (first | (obtain ⟨rfl, _⟩ := h) | (obtain ⟨_, h⟩ := h)))
  rfl
theorem ok_check_total {f : Addr} {fd : FuncData} (D : Dn K mg "check_total" s_check_total ["value"] f fd) {f_is_integer : Addr} {fd_is_integer : FuncData} (D_is_integer : Dn K mg "is_integer" s_is_integer ["value"] f_is_integer fd_is_integer) (G_is_integer : FnG P w K mg base CX0 1 f_is_integer fd_is_integer ["value"] (spP K W_is_integer)) (M : Ms mg) (Cc : CsL mg t_WORD_LIMIT) : FnG P w K mg base CX0 2 f fd ["value"] (spP K W_check_total) := by
  refine fun_okG (k := 1) D.F sc_check_total (fun vs H Q E h => ?_) (fun cdv A outer s H vs Q E hgu hr h => ⟨t_check_total K, ?_, ?_⟩)
  · obtain ⟨F, ds, R, e, z, hW, k⟩ := h
    rw [z.len, len_check_total ds R hW]
    rfl
  · unfold t_check_total
    exact (pss_one (ps_if (pt_not (pt_val (pe_callG G_is_integer hgu (hr.mono (by decide)) (by rfl) D_is_integer.g D_is_integer.F.kp D_is_integer.b pass0 (pa_cons (pv 0) pa_nil))))
    (pss_one ps_never)
    pss_nil))
  · exact run_P h (ds_check_total K)
theorem len__law_ring : ∀ (ds : List PyData) (R : PyData → Prop), W__law_ring ds R → ds.length = 2 := by
  intro ds R h
  unfold W__law_ring at h
  (repeat (first | (obtain ⟨rfl, _⟩ := h) | (obtain ⟨_, h⟩ := h)))
  rfl
theorem ok__law_ring {f : Addr} {fd : FuncData} (D : Dn K mg "_law_ring" s__law_ring ["tap", "signs", "cells"] f fd) {f__law_draw : Addr} {fd__law_draw : FuncData} (D__law_draw : Dn K mg "_law_draw" s__law_draw ["tap", "bound"] f__law_draw fd__law_draw) (G__law_draw : FnG P w K mg base CX0 1 f__law_draw fd__law_draw ["tap", "bound"] (spT K W__law_draw)) (M : Ms mg) (Cc : CsL mg t_WORD_LIMIT) : FnG P w K mg base CX0 2 f fd ["tap", "signs", "cells"] (spT K W__law_ring) := by
  refine fun_okG (k := 1) D.F sc__law_ring (fun vs H Q E h => ?_) (fun cdv A outer s H vs Q E hgu hr h => ⟨t__law_ring K, ?_, ?_⟩)
  · obtain ⟨a, ws, F, ds, R, rfl, e, tp, z, hW, k⟩ := h
    rw [List.length_cons, z.len, len__law_ring ds R hW]
    rfl
  · unfold t__law_ring
    exact (pss_cons (ps_asg (pe_tup (pa_cons (pe_op op_plus pe_int (pe_callG G__law_draw hgu (hr.mono (by decide)) (by rfl) D__law_draw.g D__law_draw.F.kp D__law_draw.b pass0 (pa_cons (pv 0) (pa_cons (pv 2) pa_nil)))) (pa_cons (pe_callG G__law_draw hgu (hr.mono (by decide)) (by rfl) D__law_draw.g D__law_draw.F.kp D__law_draw.b pass0 (pa_cons (pv 0) (pa_cons pe_int pa_nil))) pa_nil))) (pg_tup rfl (pgs_cons (pg_name (i := 3) sc__law_ring.nd rfl (by first | exact Or.inl rfl | exact Or.inr rfl)) (pgs_cons (pg_name (i := 4) sc__law_ring.nd rfl (by first | exact Or.inl rfl | exact Or.inr rfl)) pgs_nil))))
    (pss_cons (ps_if (pt_cmpR (op_eqU hr.units) (pv 4) pe_int (nomark _))
    (pss_cons (ps_set (i := 5) sc__law_ring.nd rfl (by first | exact Or.inl rfl | exact Or.inr rfl) (pe_lc (own := [("turn", 6)]) (g := (gName 6)) (tt := tYes) rfl sc__law_ring.nd (pi_rg1 (by rfl) M.range (pa_cons (pe_op op_plus pe_int (pe_callG G__law_draw hgu (hr.mono (by decide)) (by rfl) D__law_draw.g D__law_draw.F.kp D__law_draw.b pass0 (pa_cons (pv 0) (pa_cons pe_int pa_nil)))) pa_nil)) (blkOk_by (N := ["tap", "signs", "cells", "count", "kind", "row", "turn", "cell"]) (sc := defScope s__law_ring) (by decide +kernel)) (fun _ _ _ _ _ => (pg_name (i := 6) sc__law_ring.nd rfl (by first | exact Or.inl rfl | exact Or.inr rfl))) (fun _ _ _ _ _ => pts_nil) (fun _ _ _ _ _ => (pe_callG G__law_draw hgu (hr.mono (by decide)) (by rfl) D__law_draw.g D__law_draw.F.kp D__law_draw.b pass0 (pa_cons (pv 0) (pa_cons (pv 1) pa_nil))))))
    (pss_one (ps_ret (pe_lc (own := [("cell", 7)]) (g := (gName 7)) (tt := tYes) rfl sc__law_ring.nd (pi_rg1 (by rfl) M.range (pa_cons (pv 3) pa_nil)) (blkOk_by (N := ["tap", "signs", "cells", "count", "kind", "row", "turn", "cell"]) (sc := defScope s__law_ring) (by decide +kernel)) (fun _ _ _ _ _ => (pg_name (i := 7) sc__law_ring.nd rfl (by first | exact Or.inl rfl | exact Or.inr rfl))) (fun _ _ _ _ _ => pts_nil) (fun _ _ _ _ _ => (pe_ix ix_seq (pv 5) (pe_op op_modI (pe_callTy call_intA (by rfl) M.int (by decide +kernel) (pa_cons (pv 7) pa_nil)) (pe_callB call_lenA (by rfl) M.len (by decide +kernel) (pa_cons (pv 5) pa_nil))) (fun _ _ => rfl)))))))
    pss_nil)
    (pss_one (ps_ret (pe_lc (own := [("cell", 7)]) (g := (gName 7)) (tt := tYes) rfl sc__law_ring.nd (pi_rg1 (by rfl) M.range (pa_cons (pv 3) pa_nil)) (blkOk_by (N := ["tap", "signs", "cells", "count", "kind", "row", "turn", "cell"]) (sc := defScope s__law_ring) (by decide +kernel)) (fun _ _ _ _ _ => (pg_name (i := 7) sc__law_ring.nd rfl (by first | exact Or.inl rfl | exact Or.inr rfl))) (fun _ _ _ _ _ => pts_nil) (fun _ _ _ _ _ => (pe_ifExp (PW.pt (pw_or (pt_cmpR op_gtI (pv 4) pe_int (nomark _)) (pw_or1 (pt_cmpR (op_eqU hr.units) (pe_callG G__law_draw hgu (hr.mono (by decide)) (by rfl) D__law_draw.g D__law_draw.F.kp D__law_draw.b pass0 (pa_cons (pv 0) (pa_cons pe_int pa_nil))) pe_int (nomark _))))) (pe_callG G__law_draw hgu (hr.mono (by decide)) (by rfl) D__law_draw.g D__law_draw.F.kp D__law_draw.b pass0 (pa_cons (pv 0) (pa_cons (pv 1) pa_nil))) pe_int)))))))
  · exact run_T h (ds__law_ring K)
theorem len__law_widest : ∀ (ds : List PyData) (R : PyData → Prop), W__law_widest ds R → ds.length = 2 := by
  intro ds R h
  unfold W__law_widest at h
  (repeat (first | (obtain ⟨rfl, _⟩ := h) | (obtain ⟨_, h⟩ := h)))
  rfl
theorem ok__law_widest {f : Addr} {fd : FuncData} (D : Dn K mg "_law_widest" s__law_widest ["signs", "words"] f fd) {f__law_many : Addr} {fd__law_many : FuncData} (D__law_many : Dn K mg "_law_many" s__law_many ["signs", "size"] f__law_many fd__law_many) (G__law_many : FnG P w K mg base CX0 1 f__law_many fd__law_many ["signs", "size"] (spP K W__law_many)) (M : Ms mg) (Cc : CsL mg t_WORD_LIMIT) : FnG P w K mg base CX0 2 f fd ["signs", "words"] (spP K W__law_widest) := by
  refine fun_okG (k := 1) D.F sc__law_widest (fun vs H Q E h => ?_) (fun cdv A outer s H vs Q E hgu hr h => ⟨t__law_widest K, ?_, ?_⟩)
  · obtain ⟨F, ds, R, e, z, hW, k⟩ := h
    rw [z.len, len__law_widest ds R hW]
    rfl
  · unfold t__law_widest
    exact (pss_cons (ps_set (i := 2) sc__law_widest.nd rfl (by first | exact Or.inl rfl | exact Or.inr rfl) pe_int)
    (pss_cons (ps_while PassesOwn.never (pt_cmpR op_leI (pe_callG G__law_many hgu (hr.mono (by decide)) (by rfl) D__law_many.g D__law_many.F.kp D__law_many.b pass0 (pa_cons (pv 0) (pa_cons (pe_op op_plus (pv 2) pe_int) pa_nil))) (pv 1) (nomark _))
    (pss_one (ps_set (i := 2) sc__law_widest.nd rfl (by first | exact Or.inl rfl | exact Or.inr rfl) (pe_op op_plus (pv 2) pe_int))))
    (pss_one (ps_ret (pv 2)))))
  · exact run_P h (ds__law_widest K)
theorem len__law_sum : ∀ (ds : List PyData) (R : PyData → Prop), W__law_sum ds R → ds.length = 2 := by
  intro ds R h
  unfold W__law_sum at h
  (repeat (first | (obtain ⟨rfl, _⟩ := h) | (obtain ⟨_, h⟩ := h)))
  rfl
theorem ok__law_sum {f : Addr} {fd : FuncData} (D : Dn K mg "_law_sum" s__law_sum ["weight", "ring"] f fd) {f__law_number : Addr} {fd__law_number : FuncData} (D__law_number : Dn K mg "_law_number" s__law_number ["signs", "ring", "at", "size"] f__law_number fd__law_number) (G__law_number : FnG P w K mg base CX0 1 f__law_number fd__law_number ["signs", "ring", "at", "size"] (spP K W__law_number)) (M : Ms mg) (Cc : CsL mg t_WORD_LIMIT) : FnG P w K mg base CX0 2 f fd ["weight", "ring"] (spP K W__law_sum) := by
  refine fun_okG (k := 1) D.F sc__law_sum (fun vs H Q E h => ?_) (fun cdv A outer s H vs Q E hgu hr h => ⟨t__law_sum K, ?_, ?_⟩)
  · obtain ⟨F, ds, R, e, z, hW, k⟩ := h
    rw [z.len, len__law_sum ds R hW]
    rfl
  · unfold t__law_sum
    exact (pss_cons (ps_asg (pv 0) (pg_tup rfl (pgs_cons (pg_name (i := 2) sc__law_sum.nd rfl (by first | exact Or.inl rfl | exact Or.inr rfl)) (pgs_cons (pg_name (i := 3) sc__law_sum.nd rfl (by first | exact Or.inl rfl | exact Or.inr rfl)) (pgs_cons (pg_name (i := 4) sc__law_sum.nd rfl (by first | exact Or.inl rfl | exact Or.inr rfl)) pgs_nil)))))
    (pss_one (ps_ret (pe_callB (cr_sum rfl) (by rfl) M.sum (by decide +kernel) (pa_cons (pe_lc (own := [("cell", 5)]) (g := (gName 5)) (tt := tYes) rfl sc__law_sum.nd (pi_rg1 (by rfl) M.range (pa_cons (pe_callB call_lenA (by rfl) M.len (by decide +kernel) (pa_cons (pv 1) pa_nil)) pa_nil)) (blkOk_by (N := ["weight", "ring", "signs", "span", "values", "cell"]) (sc := defScope s__law_sum) (by decide +kernel)) (fun _ _ _ _ _ => (pg_name (i := 5) sc__law_sum.nd rfl (by first | exact Or.inl rfl | exact Or.inr rfl))) (fun _ _ _ _ _ => pts_nil) (fun _ _ _ _ _ => (pe_ix ix_seq (pv 4) (pe_callG G__law_number hgu (hr.mono (by decide)) (by rfl) D__law_number.g D__law_number.F.kp D__law_number.b pass0 (pa_cons (pv 2) (pa_cons (pv 1) (pa_cons (pv 5) (pa_cons (pv 3) pa_nil))))) (fun _ _ => rfl)))) pa_nil)))))
  · exact run_P h (ds__law_sum K)
theorem len__law_added : ∀ (ds : List PyData) (R : PyData → Prop), W__law_added ds R → ds.length = 3 := by
  intro ds R h
  unfold W__law_added at h
  (repeat (first | (obtain ⟨rfl, _⟩ := h) | (obtain ⟨_, h⟩ := h)))
  rfl
theorem ok__law_added {f : Addr} {fd : FuncData} (D : Dn K mg "_law_added" s__law_added ["weight", "second", "times"] f fd) {f__law_many : Addr} {fd__law_many : FuncData} (D__law_many : Dn K mg "_law_many" s__law_many ["signs", "size"] f__law_many fd__law_many) (G__law_many : FnG P w K mg base CX0 1 f__law_many fd__law_many ["signs", "size"] (spP K W__law_many)) (M : Ms mg) (Cc : CsL mg t_WORD_LIMIT) : FnG P w K mg base CX0 2 f fd ["weight", "second", "times"] (spP K W__law_added) := by
  refine fun_okG (k := 1) D.F sc__law_added (fun vs H Q E h => ?_) (fun cdv A outer s H vs Q E hgu hr h => ⟨t__law_added K, ?_, ?_⟩)
  · obtain ⟨F, ds, R, e, z, hW, k⟩ := h
    rw [z.len, len__law_added ds R hW]
    rfl
  · unfold t__law_added
    exact (pss_cons (ps_par (i := 3) (j := 4) (by rfl) sc__law_added.nd rfl rfl (by decide) rfl rfl (pa_cons (pe_ix ix_seq (pv 0) pe_int (fun _ _ => rfl)) (pa_cons (pe_callB (call_max2A rfl) (by rfl) M.max (by decide +kernel) (pa_cons (pe_ix ix_seq (pv 0) pe_int (fun _ _ => rfl)) (pa_cons (pe_ix ix_seq (pv 1) pe_int (fun _ _ => rfl)) pa_nil))) pa_nil)) (by rfl))
    (pss_cons (ps_par (i := 5) (j := 6) (by rfl) sc__law_added.nd rfl rfl (by decide) rfl rfl (pa_cons (pe_callG G__law_many hgu (hr.mono (by decide)) (by rfl) D__law_many.g D__law_many.F.kp D__law_many.b pass0 (pa_cons (pv 3) (pa_cons (pe_op op_minus (pv 4) (pe_ix ix_seq (pv 0) pe_int (fun _ _ => rfl))) pa_nil))) (pa_cons (pe_callG G__law_many hgu (hr.mono (by decide)) (by rfl) D__law_many.g D__law_many.F.kp D__law_many.b pass0 (pa_cons (pv 3) (pa_cons (pe_op op_minus (pv 4) (pe_ix ix_seq (pv 1) pe_int (fun _ _ => rfl))) pa_nil))) pa_nil)) (by rfl))
    (pss_cons (ps_set (i := 7) sc__law_added.nd rfl (by first | exact Or.inl rfl | exact Or.inr rfl) (pe_lst pa_nil))
    (pss_cons (ps_for PassesOwn.never rfl (pi_rg1 (by rfl) M.range (pa_cons (pe_callG G__law_many hgu (hr.mono (by decide)) (by rfl) D__law_many.g D__law_many.F.kp D__law_many.b pass0 (pa_cons (pv 3) (pa_cons (pv 4) pa_nil))) pa_nil)) (pg_name (i := 8) sc__law_added.nd rfl (by first | exact Or.inl rfl | exact Or.inr rfl))
    (pss_cons (ps_set (i := 9) sc__law_added.nd rfl (by first | exact Or.inl rfl | exact Or.inr rfl) (pe_op op_times (pv 2) (pe_ix ix_seq (pe_ix ix_seq (pv 1) pe_int (fun _ _ => rfl)) (pe_op op_divI (pv 8) (pv 6)) (fun _ _ => rfl))))
    (pss_one (ps_expr (pe_bm PySem.F.plainAttrs_list PySem.F.slot_list_append PySem.F.type_list_append mt_append (pv 7) (pa_cons (pe_op op_plus (pe_ix ix_seq (pe_ix ix_seq (pv 0) pe_int (fun _ _ => rfl)) (pe_op op_divI (pv 8) (pv 5)) (fun _ _ => rfl)) (pv 9)) pa_nil))))))
    (pss_one (ps_ret (pe_tup (pa_cons (pv 3) (pa_cons (pv 4) (pa_cons (pv 7) pa_nil))))))))))
  · exact run_P h (ds__law_added K)
theorem len_is_weight : ∀ (ds : List PyData) (R : PyData → Prop), W_is_weight ds R → ds.length = 1 := by
  intro ds R h
  unfold W_is_weight at h
  (repeat (first | (obtain ⟨rfl, _⟩ := h) | (obtain ⟨_, h⟩ := h)))
  rfl
theorem ok_is_weight {f : Addr} {fd : FuncData} (D : Dn K mg "is_weight" s_is_weight ["value"] f fd) {f_is_integer : Addr} {fd_is_integer : FuncData} (D_is_integer : Dn K mg "is_integer" s_is_integer ["value"] f_is_integer fd_is_integer) (G_is_integer : FnG P w K mg base CX0 1 f_is_integer fd_is_integer ["value"] (spP K W_is_integer)) {f_count_words : Addr} {fd_count_words : FuncData} (D_count_words : Dn K mg "count_words" s_count_words ["signs", "length", "limit"] f_count_words fd_count_words) (G_count_words : FnG P w K mg base CX0 1 f_count_words fd_count_words ["signs", "length", "limit"] (spP K W_count_words)) {f_is_sign_count : Addr} {fd_is_sign_count : FuncData} (D_is_sign_count : Dn K mg "is_sign_count" s_is_sign_count ["value"] f_is_sign_count fd_is_sign_count) (G_is_sign_count : FnG P w K mg base CX0 2 f_is_sign_count fd_is_sign_count ["value"] (spP K W_is_sign_count)) {f_is_integer_list : Addr} {fd_is_integer_list : FuncData} (D_is_integer_list : Dn K mg "is_integer_list" s_is_integer_list ["value"] f_is_integer_list fd_is_integer_list) (G_is_integer_list : FnG P w K mg base CX0 2 f_is_integer_list fd_is_integer_list ["value"] (spP K W_is_integer_list)) (M : Ms mg) (Cc : CsL mg t_WORD_LIMIT) : FnG P w K mg base CX0 3 f fd ["value"] (spP K W_is_weight) := by
  refine fun_okG (k := 2) D.F sc_is_weight (fun vs H Q E h => ?_) (fun cdv A outer s H vs Q E hgu hr h => ⟨t_is_weight K, ?_, ?_⟩)
  · obtain ⟨F, ds, R, e, z, hW, k⟩ := h
    rw [z.len, len_is_weight ds R hW]
    rfl
  · unfold t_is_weight
    exact (pss_cons (ps_if (PW.pt (pw_or (pt_cmpR op_notTy1 (pe_callTy call_type1 (by rfl) M.type (by decide +kernel) (pa_cons (pv 0) pa_nil)) (pe_bltn (by rfl) M.tuple (by decide +kernel) rfl) (nomark _)) (pw_or1 (pt_cmpR (op_neU hr.units) (pe_callB call_lenA (by rfl) M.len (by decide +kernel) (pa_cons (pv 0) pa_nil)) pe_int (nomark _)))))
    (pss_one (ps_ret pe_bl))
    pss_nil)
    (pss_cons (ps_asg (pv 0) (pg_tup rfl (pgs_cons (pg_name (i := 1) sc_is_weight.nd rfl (by first | exact Or.inl rfl | exact Or.inr rfl)) (pgs_cons (pg_name (i := 2) sc_is_weight.nd rfl (by first | exact Or.inl rfl | exact Or.inr rfl)) (pgs_cons (pg_name (i := 3) sc_is_weight.nd rfl (by first | exact Or.inl rfl | exact Or.inr rfl)) pgs_nil)))))
    (pss_cons (ps_if (PW.pt (pw_or (pt_not (pt_val (pe_callG G_is_sign_count hgu (hr.mono (by decide)) (by rfl) D_is_sign_count.g D_is_sign_count.F.kp D_is_sign_count.b pass0 (pa_cons (pv 1) pa_nil)))) (pw_or (pt_not (pt_val (pe_callG G_is_integer hgu (hr.mono (by decide)) (by rfl) D_is_integer.g D_is_integer.F.kp D_is_integer.b pass0 (pa_cons (pv 2) pa_nil)))) (pw_or (pt_cmpR op_ltI (pv 2) pe_int (nomark _)) (pw_or1 (pt_not (pt_val (pe_callG G_is_integer_list hgu (hr.mono (by decide)) (by rfl) D_is_integer_list.g D_is_integer_list.F.kp D_is_integer_list.b pass0 (pa_cons (pv 3) pa_nil)))))))))
    (pss_one (ps_ret pe_bl))
    pss_nil)
    (pss_one (ps_ret (pe_cmpR (op_eqU hr.units) (pe_callB call_lenA (by rfl) M.len (by decide +kernel) (pa_cons (pv 3) pa_nil)) (pe_callG G_count_words hgu (hr.mono (by decide)) (by rfl) D_count_words.g D_count_words.F.kp D_count_words.b pass0 (pa_cons (pv 1) (pa_cons (pv 2) (pa_cons (pe_glob (by rfl) Cc.c_WORD_LIMIT ⟨_, rfl⟩) pa_nil)))) (nomark _)))))))
  · exact run_P h (ds_is_weight K)
theorem len__law_weight : ∀ (ds : List PyData) (R : PyData → Prop), W__law_weight ds R → ds.length = 3 := by
  intro ds R h
  unfold W__law_weight at h
  (repeat (first | (obtain ⟨rfl, _⟩ := h) | (obtain ⟨_, h⟩ := h)))
  rfl
theorem ok__law_weight {f : Addr} {fd : FuncData} (D : Dn K mg "_law_weight" s__law_weight ["tap", "signs", "words", "top"] f fd) {f__law_draw : Addr} {fd__law_draw : FuncData} (D__law_draw : Dn K mg "_law_draw" s__law_draw ["tap", "bound"] f__law_draw fd__law_draw) (G__law_draw : FnG P w K mg base CX0 1 f__law_draw fd__law_draw ["tap", "bound"] (spT K W__law_draw)) {f__law_many : Addr} {fd__law_many : FuncData} (D__law_many : Dn K mg "_law_many" s__law_many ["signs", "size"] f__law_many fd__law_many) (G__law_many : FnG P w K mg base CX0 1 f__law_many fd__law_many ["signs", "size"] (spP K W__law_many)) {f__law_widest : Addr} {fd__law_widest : FuncData} (D__law_widest : Dn K mg "_law_widest" s__law_widest ["signs", "words"] f__law_widest fd__law_widest) (G__law_widest : FnG P w K mg base CX0 2 f__law_widest fd__law_widest ["signs", "words"] (spP K W__law_widest)) (M : Ms mg) (Cc : CsL mg t_WORD_LIMIT) : FnG P w K mg base CX0 3 f fd ["tap", "signs", "words", "top"] (spT K W__law_weight) := by
  refine fun_okG (k := 2) D.F sc__law_weight (fun vs H Q E h => ?_) (fun cdv A outer s H vs Q E hgu hr h => ⟨t__law_weight K, ?_, ?_⟩)
  · obtain ⟨a, ws, F, ds, R, rfl, e, tp, z, hW, k⟩ := h
    rw [List.length_cons, z.len, len__law_weight ds R hW]
    rfl
  · unfold t__law_weight
    exact (pss_cons (ps_par (i := 4) (j := 5) (by rfl) sc__law_weight.nd rfl rfl (by decide) rfl rfl (pa_cons (pe_op op_plus pe_int (pe_callG G__law_draw hgu (hr.mono (by decide)) (by rfl) D__law_draw.g D__law_draw.F.kp D__law_draw.b pass0 (pa_cons (pv 0) (pa_cons (pe_callG G__law_widest hgu (hr.mono (by decide)) (by rfl) D__law_widest.g D__law_widest.F.kp D__law_widest.b pass0 (pa_cons (pv 1) (pa_cons (pv 2) pa_nil))) pa_nil)))) (pa_cons (pe_callG G__law_draw hgu (hr.mono (by decide)) (by rfl) D__law_draw.g D__law_draw.F.kp D__law_draw.b pass0 (pa_cons (pv 0) (pa_cons pe_int pa_nil))) pa_nil)) (by rfl))
    (pss_cons (ps_setLc (i := 6) (own := [("number", 7)]) (g := (gName 7)) (tt := tYes) rfl sc__law_weight.nd rfl rfl (sw_true rfl rfl rfl (by decide +kernel)) (pi_rg1 (by rfl) M.range (pa_cons (pe_callG G__law_many hgu (hr.mono (by decide)) (by rfl) D__law_many.g D__law_many.F.kp D__law_many.b pass0 (pa_cons (pv 1) (pa_cons (pv 4) pa_nil))) pa_nil)) (blkOk_by (N := ["tap", "signs", "words", "top", "span", "kind", "values", "number", "value"]) (sc := defScope s__law_weight) (by decide +kernel)) (fun _ _ _ _ _ => (pg_name (i := 7) sc__law_weight.nd rfl (by first | exact Or.inl rfl | exact Or.inr rfl))) (fun _ _ _ _ _ => pts_nil) (fun _ _ _ _ _ => (pe_op op_minus (pe_callG G__law_draw hgu (hr.mono (by decide)) (by rfl) D__law_draw.g D__law_draw.F.kp D__law_draw.b pass0 (pa_cons (pv 0) (pa_cons (pe_op op_plus (pe_op op_times pe_int (pv 3)) pe_int) pa_nil))) (pv 3))))
    (pss_cons (ps_if (pt_cmpR (op_eqU hr.units) (pv 5) pe_int (nomark _))
    (pss_one (ps_setLc (i := 6) (own := [("value", 8)]) (g := (gName 8)) (tt := tYes) rfl sc__law_weight.nd rfl rfl (sw_true rfl rfl rfl (by decide +kernel)) (pi_list (pv 6)) (blkOk_by (N := ["tap", "signs", "words", "top", "span", "kind", "values", "number", "value"]) (sc := defScope s__law_weight) (by decide +kernel)) (fun _ _ _ _ _ => (pg_name (i := 8) sc__law_weight.nd rfl (by first | exact Or.inl rfl | exact Or.inr rfl))) (fun _ _ _ _ _ => pts_nil) (fun _ _ _ _ _ => (pe_ifExp (pt_cmpR (op_eqU hr.units) (pe_callG G__law_draw hgu (hr.mono (by decide)) (by rfl) D__law_draw.g D__law_draw.F.kp D__law_draw.b pass0 (pa_cons (pv 0) (pa_cons pe_int pa_nil))) pe_int (nomark _)) (pv 8) pe_int))))
    pss_nil)
    (pss_one (ps_ret (pe_tup (pa_cons (pv 1) (pa_cons (pv 4) (pa_cons (pv 6) pa_nil)))))))))
  · exact run_T h (ds__law_weight K)
theorem len__law_by_rings : ∀ (ds : List PyData) (R : PyData → Prop), W__law_by_rings ds R → ds.length = 1 := by
  intro ds R h
  unfold W__law_by_rings at h
  (repeat (first | (obtain ⟨rfl, _⟩ := h) | (obtain ⟨_, h⟩ := h)))
  rfl
theorem ok__law_by_rings {f : Addr} {fd : FuncData} (D : Dn K mg "_law_by_rings" s__law_by_rings ["weight"] f fd) {f__law_many : Addr} {fd__law_many : FuncData} (D__law_many : Dn K mg "_law_many" s__law_many ["signs", "size"] f__law_many fd__law_many) (G__law_many : FnG P w K mg base CX0 1 f__law_many fd__law_many ["signs", "size"] (spP K W__law_many)) {f__law_word : Addr} {fd__law_word : FuncData} (D__law_word : Dn K mg "_law_word" s__law_word ["signs", "number", "size"] f__law_word fd__law_word) (G__law_word : FnG P w K mg base CX0 1 f__law_word fd__law_word ["signs", "number", "size"] (spP K W__law_word)) {f__law_common : Addr} {fd__law_common : FuncData} (D__law_common : Dn K mg "_law_common" s__law_common ["numbers"] f__law_common fd__law_common) (G__law_common : FnG P w K mg base CX0 1 f__law_common fd__law_common ["numbers"] (spP K W__law_common)) {f__law_sum : Addr} {fd__law_sum : FuncData} (D__law_sum : Dn K mg "_law_sum" s__law_sum ["weight", "ring"] f__law_sum fd__law_sum) (G__law_sum : FnG P w K mg base CX0 2 f__law_sum fd__law_sum ["weight", "ring"] (spP K W__law_sum)) (M : Ms mg) (Cc : CsL mg t_WORD_LIMIT) : FnG P w K mg base CX0 3 f fd ["weight"] (spP K W__law_by_rings) := by
  refine fun_okG (k := 2) D.F sc__law_by_rings (fun vs H Q E h => ?_) (fun cdv A outer s H vs Q E hgu hr h => ⟨t__law_by_rings K, ?_, ?_⟩)
  · obtain ⟨F, ds, R, e, z, hW, k⟩ := h
    rw [z.len, len__law_by_rings ds R hW]
    rfl
  · unfold t__law_by_rings
    exact (pss_cons (ps_par3 (i := 1) (j := 2) (l := 3) (by rfl) sc__law_by_rings.nd rfl rfl rfl (by decide) (by decide) (by decide) rfl rfl rfl (pa_cons (pe_ix ix_seq (pv 0) pe_int (fun _ _ => rfl)) (pa_cons (pe_ix ix_seq (pv 0) pe_int (fun _ _ => rfl)) (pa_cons (pe_lst pa_nil) pa_nil))) (by rfl))
    (pss_cons (ps_for PassesOwn.never rfl (pi_rg2 (by rfl) M.range (pa_cons pe_int (pa_cons (pe_op op_times pe_int (pv 2)) pa_nil))) (pg_name (i := 4) sc__law_by_rings.nd rfl (by first | exact Or.inl rfl | exact Or.inr rfl))
    (pss_one (ps_for PassesOwn.never rfl (pi_rg1 (by rfl) M.range (pa_cons (pe_callG G__law_many hgu (hr.mono (by decide)) (by rfl) D__law_many.g D__law_many.F.kp D__law_many.b pass0 (pa_cons (pv 1) (pa_cons (pv 4) pa_nil))) pa_nil)) (pg_name (i := 5) sc__law_by_rings.nd rfl (by first | exact Or.inl rfl | exact Or.inr rfl))
    (pss_one (ps_expr (pe_bm PySem.F.plainAttrs_list PySem.F.slot_list_append PySem.F.type_list_append mt_append (pv 3) (pa_cons (pe_callG G__law_sum hgu (hr.mono (by decide)) (by rfl) D__law_sum.g D__law_sum.F.kp D__law_sum.b pass0 (pa_cons (pv 0) (pa_cons (pe_callG G__law_word hgu (hr.mono (by decide)) (by rfl) D__law_word.g D__law_word.F.kp D__law_word.b pass0 (pa_cons (pv 1) (pa_cons (pv 5) (pa_cons (pv 4) pa_nil)))) pa_nil))) pa_nil)))))))
    (pss_one (ps_ret (pe_callG G__law_common hgu (hr.mono (by decide)) (by rfl) D__law_common.g D__law_common.F.kp D__law_common.b pass0 (pa_cons (pv 3) pa_nil))))))
  · exact run_P h (ds__law_by_rings K)
theorem len_check_weight : ∀ (ds : List PyData) (R : PyData → Prop), W_check_weight ds R → ds.length = 1 := by
  intro ds R h
  unfold W_check_weight at h
  (repeat (first | (obtain ⟨rfl, _⟩ := h) | (obtain ⟨_, h⟩ := h)))
  rfl
theorem ok_check_weight {f : Addr} {fd : FuncData} (D : Dn K mg "check_weight" s_check_weight ["value"] f fd) {f_is_weight : Addr} {fd_is_weight : FuncData} (D_is_weight : Dn K mg "is_weight" s_is_weight ["value"] f_is_weight fd_is_weight) (G_is_weight : FnG P w K mg base CX0 3 f_is_weight fd_is_weight ["value"] (spP K W_is_weight)) (M : Ms mg) (Cc : CsL mg t_WORD_LIMIT) : FnG P w K mg base CX0 4 f fd ["value"] (spP K W_check_weight) := by
  refine fun_okG (k := 3) D.F sc_check_weight (fun vs H Q E h => ?_) (fun cdv A outer s H vs Q E hgu hr h => ⟨t_check_weight K, ?_, ?_⟩)
  · obtain ⟨F, ds, R, e, z, hW, k⟩ := h
    rw [z.len, len_check_weight ds R hW]
    rfl
  · unfold t_check_weight
    exact (pss_one (ps_if (pt_not (pt_val (pe_callG G_is_weight hgu (hr.mono (by decide)) (by rfl) D_is_weight.g D_is_weight.F.kp D_is_weight.b pass0 (pa_cons (pv 0) pa_nil))))
    (pss_one ps_never)
    pss_nil))
  · exact run_P h (ds_check_weight K)
theorem len_plain : ∀ (ds : List PyData) (R : PyData → Prop), W_plain ds R → ds.length = 1 := by
  intro ds R h
  unfold W_plain at h
  (repeat (first | (obtain ⟨rfl, _⟩ := h) | (obtain ⟨_, h⟩ := h)))
  rfl
theorem ok_plain {f : Addr} {fd : FuncData} (D : Dn K mg "plain" s_plain ["weight"] f fd) {f_last_matters : Addr} {fd_last_matters : FuncData} (D_last_matters : Dn K mg "last_matters" s_last_matters ["signs", "items"] f_last_matters fd_last_matters) (G_last_matters : FnG P w K mg base CX0 1 f_last_matters fd_last_matters ["signs", "items"] (spP K W_last_matters)) {f_sums_behind_zeros : Addr} {fd_sums_behind_zeros : FuncData} (D_sums_behind_zeros : Dn K mg "sums_behind_zeros" s_sums_behind_zeros ["weight"] f_sums_behind_zeros fd_sums_behind_zeros) (G_sums_behind_zeros : FnG P w K mg base CX0 1 f_sums_behind_zeros fd_sums_behind_zeros ["weight"] (spP K W_sums_behind_zeros)) {f_check_weight : Addr} {fd_check_weight : FuncData} (D_check_weight : Dn K mg "check_weight" s_check_weight ["value"] f_check_weight fd_check_weight) (G_check_weight : FnG P w K mg base CX0 4 f_check_weight fd_check_weight ["value"] (spP K W_check_weight)) (M : Ms mg) (Cc : CsL mg t_WORD_LIMIT) : FnG P w K mg base CX0 5 f fd ["weight"] (spN K W_plain) := by
  refine fun_okG (k := 4) D.F sc_plain (fun vs H Q E h => ?_) (fun cdv A outer s H vs Q E hgu hr h => ⟨t_plain K, ?_, ?_⟩)
  · obtain ⟨F, ds, R, e, z, hW, k⟩ := h
    rw [z.len, len_plain ds R hW]
    rfl
  · unfold t_plain
    exact (pss_cons (ps_expr (pe_callG G_check_weight hgu (hr.mono (by decide)) (by rfl) D_check_weight.g D_check_weight.F.kp D_check_weight.b pass0 (pa_cons (pv 0) pa_nil)))
    (pss_cons (ps_asg (pv 0) (pg_tup rfl (pgs_cons (pg_name (i := 1) sc_plain.nd rfl (by first | exact Or.inl rfl | exact Or.inr rfl)) (pgs_cons (pg_name (i := 2) sc_plain.nd rfl (by first | exact Or.inl rfl | exact Or.inr rfl)) (pgs_cons (pg_name (i := 3) sc_plain.nd rfl (by first | exact Or.inl rfl | exact Or.inr rfl)) pgs_nil)))))
    (pss_cons (ps_set (i := 4) sc_plain.nd rfl (by first | exact Or.inl rfl | exact Or.inr rfl) (pe_callG G_sums_behind_zeros hgu (hr.mono (by decide)) (by rfl) D_sums_behind_zeros.g D_sums_behind_zeros.F.kp D_sums_behind_zeros.b pass0 (pa_cons (pv 0) pa_nil)))
    (pss_cons (ps_setLc (i := 5) (own := [("number", 6), ("value", 7)]) (g := (gTup K 2 (gNames [6, 7]))) (tt := tYes) rfl sc_plain.nd rfl rfl (sw_true rfl rfl rfl (by decide +kernel)) (pi_enum (by rfl) M.enumerate (pa_cons (pv 3) pa_nil)) (blkOk_by (N := ["weight", "signs", "span", "values", "sums", "shifted", "number", "value"]) (sc := defScope s_plain) (by decide +kernel)) (fun _ _ _ _ _ => (pg_tup rfl (pgs_cons (pg_name (i := 6) sc_plain.nd rfl (by first | exact Or.inl rfl | exact Or.inr rfl)) (pgs_cons (pg_name (i := 7) sc_plain.nd rfl (by first | exact Or.inl rfl | exact Or.inr rfl)) pgs_nil)))) (fun _ _ _ _ _ => pts_nil) (fun _ _ _ _ _ => (pe_op op_minus (pe_op op_plus (pv 7) (pe_ix ix_seq (pv 4) (pe_op op_divI (pv 6) (pv 1)) (fun _ _ => rfl))) (pe_ix ix_seq (pv 4) (pe_op op_modI (pv 6) (pe_callB call_lenA (by rfl) M.len (by decide +kernel) (pa_cons (pv 4) pa_nil))) (fun _ _ => rfl)))))
    (pss_cons (ps_while PassesOwn.never (PW.pt (pw_and (pt_cmpR op_gtI (pv 2) pe_int (nomark _)) (pw_and1 (pt_not (pt_val (pe_callG G_last_matters hgu (hr.mono (by decide)) (by rfl) D_last_matters.g D_last_matters.F.kp D_last_matters.b pass0 (pa_cons (pv 1) (pa_cons (pv 5) pa_nil))))))))
    (pss_cons (ps_set (i := 5) sc_plain.nd rfl (by first | exact Or.inl rfl | exact Or.inr rfl) (pe_stepL (pv 5) (pv 1)))
    (pss_one (ps_set (i := 2) sc_plain.nd rfl (by first | exact Or.inl rfl | exact Or.inr rfl) (pe_op op_minus (pv 2) pe_int)))))
    (pss_one (ps_ret (pe_tup (pa_cons (pv 1) (pa_cons (pv 2) (pa_cons (pv 5) pa_nil)))))))))))
  · exact run_N h (ds_plain K)
theorem len_added : ∀ (ds : List PyData) (R : PyData → Prop), W_added ds R → ds.length = 3 := by
  intro ds R h
  unfold W_added at h
  (repeat (first | (obtain ⟨rfl, _⟩ := h) | (obtain ⟨_, h⟩ := h)))
  rfl
theorem ok_added {f : Addr} {fd : FuncData} (D : Dn K mg "added" s_added ["weight", "second", "times"] f fd) {f_check_like_signs : Addr} {fd_check_like_signs : FuncData} (D_check_like_signs : Dn K mg "check_like_signs" s_check_like_signs ["one", "other"] f_check_like_signs fd_check_like_signs) (G_check_like_signs : FnG P w K mg base CX0 1 f_check_like_signs fd_check_like_signs ["one", "other"] (spP K W_check_like_signs)) {f_values_at_span : Addr} {fd_values_at_span : FuncData} (D_values_at_span : Dn K mg "values_at_span" s_values_at_span ["weight", "span"] f_values_at_span fd_values_at_span) (G_values_at_span : FnG P w K mg base CX0 1 f_values_at_span fd_values_at_span ["weight", "span"] (spP K W_values_at_span)) {f_check_total : Addr} {fd_check_total : FuncData} (D_check_total : Dn K mg "check_total" s_check_total ["value"] f_check_total fd_check_total) (G_check_total : FnG P w K mg base CX0 2 f_check_total fd_check_total ["value"] (spP K W_check_total)) {f_check_weight : Addr} {fd_check_weight : FuncData} (D_check_weight : Dn K mg "check_weight" s_check_weight ["value"] f_check_weight fd_check_weight) (G_check_weight : FnG P w K mg base CX0 4 f_check_weight fd_check_weight ["value"] (spP K W_check_weight)) (M : Ms mg) (Cc : CsL mg t_WORD_LIMIT) : FnG P w K mg base CX0 5 f fd ["weight", "second", "times"] (spN K W_added) := by
  refine fun_okG (k := 4) D.F sc_added (fun vs H Q E h => ?_) (fun cdv A outer s H vs Q E hgu hr h => ⟨t_added K, ?_, ?_⟩)
  · obtain ⟨F, ds, R, e, z, hW, k⟩ := h
    rw [z.len, len_added ds R hW]
    rfl
  · unfold t_added
    exact (pss_cons (ps_expr (pe_callG G_check_weight hgu (hr.mono (by decide)) (by rfl) D_check_weight.g D_check_weight.F.kp D_check_weight.b pass0 (pa_cons (pv 0) pa_nil)))
    (pss_cons (ps_expr (pe_callG G_check_weight hgu (hr.mono (by decide)) (by rfl) D_check_weight.g D_check_weight.F.kp D_check_weight.b pass0 (pa_cons (pv 1) pa_nil)))
    (pss_cons (ps_expr (pe_callG G_check_total hgu (hr.mono (by decide)) (by rfl) D_check_total.g D_check_total.F.kp D_check_total.b pass0 (pa_cons (pv 2) pa_nil)))
    (pss_cons (ps_expr (pe_callG G_check_like_signs hgu (hr.mono (by decide)) (by rfl) D_check_like_signs.g D_check_like_signs.F.kp D_check_like_signs.b pass0 (pa_cons (pv 0) (pa_cons (pv 1) pa_nil))))
    (pss_cons (ps_set (i := 3) sc_added.nd rfl (by first | exact Or.inl rfl | exact Or.inr rfl) (pe_callB (call_max2A rfl) (by rfl) M.max (by decide +kernel) (pa_cons (pe_ix ix_seq (pv 0) pe_int (fun _ _ => rfl)) (pa_cons (pe_ix ix_seq (pv 1) pe_int (fun _ _ => rfl)) pa_nil))))
    (pss_cons (ps_set (i := 4) sc_added.nd rfl (by first | exact Or.inl rfl | exact Or.inr rfl) (pe_callG G_values_at_span hgu (hr.mono (by decide)) (by rfl) D_values_at_span.g D_values_at_span.F.kp D_values_at_span.b pass0 (pa_cons (pv 0) (pa_cons (pv 3) pa_nil))))
    (pss_cons (ps_set (i := 5) sc_added.nd rfl (by first | exact Or.inl rfl | exact Or.inr rfl) (pe_callG G_values_at_span hgu (hr.mono (by decide)) (by rfl) D_values_at_span.g D_values_at_span.F.kp D_values_at_span.b pass0 (pa_cons (pv 1) (pa_cons (pv 3) pa_nil))))
    (pss_one (ps_ret (pe_tup (pa_cons (pe_ix ix_seq (pv 0) pe_int (fun _ _ => rfl)) (pa_cons (pv 3) (pa_cons (pe_lc (own := [("value", 6), ("other", 7)]) (g := (gTup K 2 (gNames [6, 7]))) (tt := tYes) rfl sc_added.nd (pi_zip (by rfl) M.zip (pa_cons (pv 4) (pa_cons (pv 5) pa_nil))) (blkOk_by (N := ["weight", "second", "times", "span", "values", "others", "value", "other"]) (sc := defScope s_added) (by decide +kernel)) (fun _ _ _ _ _ => (pg_tup rfl (pgs_cons (pg_name (i := 6) sc_added.nd rfl (by first | exact Or.inl rfl | exact Or.inr rfl)) (pgs_cons (pg_name (i := 7) sc_added.nd rfl (by first | exact Or.inl rfl | exact Or.inr rfl)) pgs_nil)))) (fun _ _ _ _ _ => pts_nil) (fun _ _ _ _ _ => (pe_op op_plus (pv 6) (pe_op op_times (pv 2) (pv 7))))) pa_nil)))))))))))))
  · exact run_N h (ds_added K)
theorem len_divisor : ∀ (ds : List PyData) (R : PyData → Prop), W_divisor ds R → ds.length = 1 := by
  intro ds R h
  unfold W_divisor at h
  (repeat (first | (obtain ⟨rfl, _⟩ := h) | (obtain ⟨_, h⟩ := h)))
  rfl
theorem ok_divisor {f : Addr} {fd : FuncData} (D : Dn K mg "divisor" s_divisor ["weight"] f fd) {f_plain : Addr} {fd_plain : FuncData} (D_plain : Dn K mg "plain" s_plain ["weight"] f_plain fd_plain) (G_plain : FnG P w K mg base CX0 5 f_plain fd_plain ["weight"] (spN K W_plain)) (M : Ms mg) (Cc : CsL mg t_WORD_LIMIT) : FnG P w K mg base CX0 6 f fd ["weight"] (spP K W_divisor) := by
  refine fun_okG (k := 5) D.F sc_divisor (fun vs H Q E h => ?_) (fun cdv A outer s H vs Q E hgu hr h => ⟨t_divisor K, ?_, ?_⟩)
  · obtain ⟨F, ds, R, e, z, hW, k⟩ := h
    rw [z.len, len_divisor ds R hW]
    rfl
  · unfold t_divisor
    exact (pss_cons (ps_set (i := 1) sc_divisor.nd rfl (by first | exact Or.inl rfl | exact Or.inr rfl) pe_int)
    (pss_cons (ps_for PassesOwn.never rfl (pi_list (pe_ix ix_seq (pe_callG G_plain hgu (hr.mono (by decide)) (by rfl) D_plain.g D_plain.F.kp D_plain.b pass0 (pa_cons (pv 0) pa_nil)) pe_int (fun _ _ => rfl))) (pg_name (i := 2) sc_divisor.nd rfl (by first | exact Or.inl rfl | exact Or.inr rfl))
    (pss_one (ps_set (i := 1) sc_divisor.nd rfl (by first | exact Or.inl rfl | exact Or.inr rfl) (pe_callBfun cr_gcd (by rfl) M.gcd (pa_cons (pv 1) (pa_cons (pv 2) pa_nil))))))
    (pss_one (ps_ret (pv 1)))))
  · exact run_P h (ds_divisor K)
theorem len__law_added_right : ∀ (ds : List PyData) (R : PyData → Prop), W__law_added_right ds R → ds.length = 3 := by
  intro ds R h
  unfold W__law_added_right at h
  (repeat (first | (obtain ⟨rfl, _⟩ := h) | (obtain ⟨_, h⟩ := h)))
  rfl
theorem ok__law_added_right {f : Addr} {fd : FuncData} (D : Dn K mg "_law_added_right" s__law_added_right ["tap", "weight", "second", "times"] f fd) {f__law_same : Addr} {fd__law_same : FuncData} (D__law_same : Dn K mg "_law_same" s__law_same ["weight"] f__law_same fd__law_same) (G__law_same : FnG P w K mg base CX0 1 f__law_same fd__law_same ["weight"] (spP K W__law_same)) {f__law_ring : Addr} {fd__law_ring : FuncData} (D__law_ring : Dn K mg "_law_ring" s__law_ring ["tap", "signs", "cells"] f__law_ring fd__law_ring) (G__law_ring : FnG P w K mg base CX0 2 f__law_ring fd__law_ring ["tap", "signs", "cells"] (spT K W__law_ring)) {f__law_sum : Addr} {fd__law_sum : FuncData} (D__law_sum : Dn K mg "_law_sum" s__law_sum ["weight", "ring"] f__law_sum fd__law_sum) (G__law_sum : FnG P w K mg base CX0 2 f__law_sum fd__law_sum ["weight", "ring"] (spP K W__law_sum)) {f__law_added : Addr} {fd__law_added : FuncData} (D__law_added : Dn K mg "_law_added" s__law_added ["weight", "second", "times"] f__law_added fd__law_added) (G__law_added : FnG P w K mg base CX0 2 f__law_added fd__law_added ["weight", "second", "times"] (spP K W__law_added)) {f_added : Addr} {fd_added : FuncData} (D_added : Dn K mg "added" s_added ["weight", "second", "times"] f_added fd_added) (G_added : FnG P w K mg base CX0 5 f_added fd_added ["weight", "second", "times"] (spN K W_added)) (M : Ms mg) (Cc : CsL mg t_WORD_LIMIT) : FnG P w K mg base CX0 6 f fd ["tap", "weight", "second", "times"] (spT K W__law_added_right) := by
  refine fun_okG (k := 5) D.F sc__law_added_right (fun vs H Q E h => ?_) (fun cdv A outer s H vs Q E hgu hr h => ⟨t__law_added_right K, ?_, ?_⟩)
  · obtain ⟨a, ws, F, ds, R, rfl, e, tp, z, hW, k⟩ := h
    rw [List.length_cons, z.len, len__law_added_right ds R hW]
    rfl
  · unfold t__law_added_right
    exact (pss_cons (ps_par (i := 4) (j := 5) (by rfl) sc__law_added_right.nd rfl rfl (by decide) rfl rfl (pa_cons (pe_callG G__law_same hgu (hr.mono (by decide)) (by rfl) D__law_same.g D__law_same.F.kp D__law_same.b pass0 (pa_cons (pv 1) pa_nil)) (pa_cons (pe_callG G__law_same hgu (hr.mono (by decide)) (by rfl) D__law_same.g D__law_same.F.kp D__law_same.b pass0 (pa_cons (pv 2) pa_nil)) pa_nil)) (by rfl))
    (pss_cons (ps_set (i := 6) sc__law_added_right.nd rfl (by first | exact Or.inl rfl | exact Or.inr rfl) (pe_callG G__law_added hgu (hr.mono (by decide)) (by rfl) D__law_added.g D__law_added.F.kp D__law_added.b pass0 (pa_cons (pv 1) (pa_cons (pv 2) (pa_cons (pv 3) pa_nil)))))
    (pss_cons (ps_set (i := 7) sc__law_added_right.nd rfl (by first | exact Or.inl rfl | exact Or.inr rfl) (pe_callG G_added hgu (hr.mono (by decide)) (by rfl) D_added.g D_added.F.kp D_added.b pass0 (pa_cons (pv 4) (pa_cons (pv 5) (pa_cons (pv 3) pa_nil)))))
    (pss_cons (ps_if (PW.pt (pw_or (pt_cmpR (op_neU hr.units) (pe_callB (call_reprD hgu hr.units) (by rfl) M.repr (by decide +kernel) (pa_cons (pv 7) pa_nil)) (pe_callB (call_reprD hgu hr.units) (by rfl) M.repr (by decide +kernel) (pa_cons (pv 6) pa_nil)) (nomark _)) (pw_or (pt_cmpR (op_neU hr.units) (pv 4) (pv 1) (nomark _)) (pw_or1 (pt_cmpR (op_neU hr.units) (pv 5) (pv 2) (nomark _))))))
    (pss_one (ps_ret pe_bl))
    pss_nil)
    (pss_cons (ps_for PassesOwn.never rfl (pi_rg1 (by rfl) M.range (pa_cons pe_int pa_nil)) (pg_name (i := 8) sc__law_added_right.nd rfl (by first | exact Or.inl rfl | exact Or.inr rfl))
    (pss_cons (ps_set (i := 9) sc__law_added_right.nd rfl (by first | exact Or.inl rfl | exact Or.inr rfl) (pe_callG G__law_ring hgu (hr.mono (by decide)) (by rfl) D__law_ring.g D__law_ring.F.kp D__law_ring.b pass0 (pa_cons (pv 0) (pa_cons (pe_ix ix_seq (pv 1) pe_int (fun _ _ => rfl)) (pa_cons pe_int pa_nil)))))
    (pss_one (ps_if (pt_cmpR (op_neU hr.units) (pe_callG G__law_sum hgu (hr.mono (by decide)) (by rfl) D__law_sum.g D__law_sum.F.kp D__law_sum.b pass0 (pa_cons (pv 7) (pa_cons (pv 9) pa_nil))) (pe_op op_plus (pe_callG G__law_sum hgu (hr.mono (by decide)) (by rfl) D__law_sum.g D__law_sum.F.kp D__law_sum.b pass0 (pa_cons (pv 1) (pa_cons (pv 9) pa_nil))) (pe_op op_times (pv 3) (pe_callG G__law_sum hgu (hr.mono (by decide)) (by rfl) D__law_sum.g D__law_sum.F.kp D__law_sum.b pass0 (pa_cons (pv 2) (pa_cons (pv 9) pa_nil))))) (nomark _))
    (pss_one (ps_ret pe_bl))
    pss_nil))))
    (pss_cons (ps_expr (pe_bm PySem.F.plainAttrs_list PySem.F.slot_list_append PySem.F.type_list_append mt_append (pe_ix ix_seq (pv 7) pe_int (fun _ _ => rfl)) (pa_cons pe_int pa_nil)))
    (pss_one (ps_ret (pe_and (pe_cmpR (op_eqU hr.units) (pe_callB (call_reprD hgu hr.units) (by rfl) M.repr (by decide +kernel) (pa_cons (pe_callG G_added hgu (hr.mono (by decide)) (by rfl) D_added.g D_added.F.kp D_added.b pass0 (pa_cons (pv 4) (pa_cons (pv 5) (pa_cons (pv 3) pa_nil)))) pa_nil)) (pe_callB (call_reprD hgu hr.units) (by rfl) M.repr (by decide +kernel) (pa_cons (pv 6) pa_nil)) (nomark _)) (pe_and (pe_cmpR (op_eqU hr.units) (pv 4) (pv 1) (nomark _)) (pe_one (pe_cmpR (op_eqU hr.units) (pv 5) (pv 2) (nomark _)))))))))))))
  · exact run_T h (ds__law_added_right K)
theorem ok__law_height_s {f__law_height : Addr} {fd__law_height : FuncData} (D__law_height : Dn K mg "_law_height" s__law_height ["weight", "known", "number"] f__law_height fd__law_height) (M : Ms mg) (Cc : CsL mg t_WORD_LIMIT) {k d : Nat} (G__law_height : FnG P w K mg base CX0 k f__law_height fd__law_height ["weight", "known", "number"] (spHtI K d)) : FnG P w K mg base CX0 (k + 1) f__law_height fd__law_height ["weight", "known", "number"] (spHt K d) := by
  refine fun_okG (k := k) D__law_height.F sc__law_height (fun vs H Q E h => ?_) (fun cdv A outer s H vs Q E hgu hr h => ⟨t__law_height K (spHtI K d), ?_, run_ht h⟩)
  · obtain ⟨F, s, m, xs, v, p, n, L, rfl, _⟩ := h
    rfl
  · unfold t__law_height
    exact (pss_cons (ps_if (pt_cmp (pc_dnotin (unit1 hr.units) (pv 2) (pv 1)))
    (pss_cons (ps_set (i := 3) sc__law_height.nd rfl (by first | exact Or.inl rfl | exact Or.inr rfl) (pe_ix ix_seq (pv 0) pe_int (fun _ _ => rfl)))
    (pss_one (ps_dput (unit1 hr.units) (pv 1) (pv 2) (pe_op op_plus (pe_op op_minus (pe_ix ix_seq (pv 3) (pv 2) (fun _ _ => rfl)) (pe_ix ix_seq (pv 3) pe_int (fun _ _ => rfl))) (pe_callG G__law_height hgu (hr.mono (Nat.le_refl _)) (by rfl) D__law_height.g D__law_height.F.kp D__law_height.b pass0 (pa_cons (pv 0) (pa_cons (pv 1) (pa_cons (pe_op op_divI (pv 2) (pe_ix ix_seq (pv 0) pe_int (fun _ _ => rfl))) pa_nil))))) (by rfl))))
    pss_nil)
    (pss_one (ps_ret (pe_dget (unit1 hr.units) (pv 1) (pv 2) (fun _ _ => rfl)))))
theorem ok__law_height_d {f : Addr} {fd : FuncData} (D : Dn K mg "_law_height" s__law_height ["weight", "known", "number"] f fd) (M : Ms mg) (Cc : CsL mg t_WORD_LIMIT) : ∀ d : Nat, FnG P w K mg base CX0 (d + 1) f fd ["weight", "known", "number"] (spHt K d)
  | 0 => ok__law_height_s D M Cc (k := 0) (d := 0) ⟨fun _ _ _ _ h => h.elim, fun _ _ _ _ _ _ _ _ _ _ _ _ _ _ h => h.elim⟩
  | d + 1 => ok__law_height_s D M Cc (d := d + 1) (ok__law_height_d D M Cc d)
theorem ok__law_height {f : Addr} {fd : FuncData} (D : Dn K mg "_law_height" s__law_height ["weight", "known", "number"] f fd) (M : Ms mg) (Cc : CsL mg t_WORD_LIMIT) : FnG P w K mg base CX0 11 f fd ["weight", "known", "number"] (spHt K 10) := ok__law_height_d D M Cc 10
theorem len__law_plain : ∀ (ds : List PyData) (R : PyData → Prop), W__law_plain ds R → ds.length = 1 := by
  intro ds R h
  unfold W__law_plain at h
  (repeat (first | (obtain ⟨rfl, _⟩ := h) | (obtain ⟨_, h⟩ := h)))
  rfl
theorem ok__law_plain {f : Addr} {fd : FuncData} (D : Dn K mg "_law_plain" s__law_plain ["weight"] f fd) {f__law_many : Addr} {fd__law_many : FuncData} (D__law_many : Dn K mg "_law_many" s__law_many ["signs", "size"] f__law_many fd__law_many) (G__law_many : FnG P w K mg base CX0 1 f__law_many fd__law_many ["signs", "size"] (spP K W__law_many)) {f__law_uneven : Addr} {fd__law_uneven : FuncData} (D__law_uneven : Dn K mg "_law_uneven" s__law_uneven ["signs", "values"] f__law_uneven fd__law_uneven) (G__law_uneven : FnG P w K mg base CX0 1 f__law_uneven fd__law_uneven ["signs", "values"] (spP K W__law_uneven)) {f__law_height : Addr} {fd__law_height : FuncData} (D__law_height : Dn K mg "_law_height" s__law_height ["weight", "known", "number"] f__law_height fd__law_height) (G__law_height : FnG P w K mg base CX0 11 f__law_height fd__law_height ["weight", "known", "number"] (spHt K 10)) (M : Ms mg) (Cc : CsL mg t_WORD_LIMIT) : FnG P w K mg base CX0 12 f fd ["weight"] (spP K W__law_plain) := by
  refine fun_okG (k := 11) D.F sc__law_plain (fun vs H Q E h => ?_) (fun cdv A outer s H vs Q E hgu hr h => ⟨t__law_plain K, ?_, ?_⟩)
  · obtain ⟨F, ds, R, e, z, hW, k⟩ := h
    rw [z.len, len__law_plain ds R hW]
    rfl
  · unfold t__law_plain
    exact (pss_cons (ps_asg (pv 0) (pg_tup rfl (pgs_cons (pg_name (i := 1) sc__law_plain.nd rfl (by first | exact Or.inl rfl | exact Or.inr rfl)) (pgs_cons (pg_name (i := 2) sc__law_plain.nd rfl (by first | exact Or.inl rfl | exact Or.inr rfl)) (pgs_cons (pg_name (i := 3) sc__law_plain.nd rfl (by first | exact Or.inl rfl | exact Or.inr rfl)) pgs_nil)))))
    (pss_cons (ps_par (i := 4) (j := 5) (by rfl) sc__law_plain.nd rfl rfl (by decide) rfl rfl (pa_cons (pe_callG G__law_many hgu (hr.mono (by decide)) (by rfl) D__law_many.g D__law_many.F.kp D__law_many.b pass0 (pa_cons (pv 1) (pa_cons (pe_op op_minus (pv 2) pe_int) pa_nil))) (pa_cons (pe_disp (pps_cons pe_int pe_int pps_nil) rfl rfl (List.cons_ne_nil _ _) (by decide)) pa_nil)) (by rfl))
    (pss_cons (ps_set (i := 6) sc__law_plain.nd rfl (by first | exact Or.inl rfl | exact Or.inr rfl) (pe_lst pa_nil))
    (pss_cons (ps_for PassesOwn.never rfl (pi_rg1 (by rfl) M.range (pa_cons (pe_callB call_lenA (by rfl) M.len (by decide +kernel) (pa_cons (pv 3) pa_nil)) pa_nil)) (pg_name (i := 7) sc__law_plain.nd rfl (by first | exact Or.inl rfl | exact Or.inr rfl))
    (pss_cons (ps_set (i := 8) sc__law_plain.nd rfl (by first | exact Or.inl rfl | exact Or.inr rfl) (pe_op op_minus (pe_callG G__law_height hgu (hr.mono (by decide)) (by rfl) D__law_height.g D__law_height.F.kp D__law_height.b pass0 (pa_cons (pv 0) (pa_cons (pv 5) (pa_cons (pe_op op_divI (pv 7) (pv 1)) pa_nil)))) (pe_callG G__law_height hgu (hr.mono (by decide)) (by rfl) D__law_height.g D__law_height.F.kp D__law_height.b pass0 (pa_cons (pv 0) (pa_cons (pv 5) (pa_cons (pe_op op_modI (pe_callTy call_intA (by rfl) M.int (by decide +kernel) (pa_cons (pv 7) pa_nil)) (pv 4)) pa_nil))))))
    (pss_one (ps_expr (pe_bm PySem.F.plainAttrs_list PySem.F.slot_list_append PySem.F.type_list_append mt_append (pv 6) (pa_cons (pe_op op_plus (pe_ix ix_seq (pv 3) (pv 7) (fun _ _ => rfl)) (pv 8)) pa_nil))))))
    (pss_cons (ps_while PassesOwn.never (PW.pt (pw_and (pt_cmpR op_gtI (pv 2) pe_int (nomark _)) (pw_and1 (pt_cmpR (op_eqU hr.units) (pe_callG G__law_uneven hgu (hr.mono (by decide)) (by rfl) D__law_uneven.g D__law_uneven.F.kp D__law_uneven.b pass0 (pa_cons (pv 1) (pa_cons (pv 6) pa_nil))) (pe_lst pa_nil) (nomark _)))))
    (pss_one (ps_par (i := 6) (j := 2) (by rfl) sc__law_plain.nd rfl rfl (by decide) rfl rfl (pa_cons (pe_stepL (pv 6) (pv 1)) (pa_cons (pe_op op_minus (pv 2) pe_int) pa_nil)) (by rfl))))
    (pss_one (ps_ret (pe_tup (pa_cons (pv 1) (pa_cons (pv 2) (pa_cons (pv 6) pa_nil)))))))))))
  · exact run_P h (ds__law_plain K)
theorem len__law_divisor_right : ∀ (ds : List PyData) (R : PyData → Prop), W__law_divisor_right ds R → ds.length = 1 := by
  intro ds R h
  unfold W__law_divisor_right at h
  (repeat (first | (obtain ⟨rfl, _⟩ := h) | (obtain ⟨_, h⟩ := h)))
  rfl
theorem ok__law_divisor_right {f : Addr} {fd : FuncData} (D : Dn K mg "_law_divisor_right" s__law_divisor_right ["tap", "weight"] f fd) {f__law_draw : Addr} {fd__law_draw : FuncData} (D__law_draw : Dn K mg "_law_draw" s__law_draw ["tap", "bound"] f__law_draw fd__law_draw) (G__law_draw : FnG P w K mg base CX0 1 f__law_draw fd__law_draw ["tap", "bound"] (spT K W__law_draw)) {f__law_many : Addr} {fd__law_many : FuncData} (D__law_many : Dn K mg "_law_many" s__law_many ["signs", "size"] f__law_many fd__law_many) (G__law_many : FnG P w K mg base CX0 1 f__law_many fd__law_many ["signs", "size"] (spP K W__law_many)) {f__law_same : Addr} {fd__law_same : FuncData} (D__law_same : Dn K mg "_law_same" s__law_same ["weight"] f__law_same fd__law_same) (G__law_same : FnG P w K mg base CX0 1 f__law_same fd__law_same ["weight"] (spP K W__law_same)) {f__law_common : Addr} {fd__law_common : FuncData} (D__law_common : Dn K mg "_law_common" s__law_common ["numbers"] f__law_common fd__law_common) (G__law_common : FnG P w K mg base CX0 1 f__law_common fd__law_common ["numbers"] (spP K W__law_common)) {f__law_by_rings : Addr} {fd__law_by_rings : FuncData} (D__law_by_rings : Dn K mg "_law_by_rings" s__law_by_rings ["weight"] f__law_by_rings fd__law_by_rings) (G__law_by_rings : FnG P w K mg base CX0 3 f__law_by_rings fd__law_by_rings ["weight"] (spP K W__law_by_rings)) {f_divisor : Addr} {fd_divisor : FuncData} (D_divisor : Dn K mg "divisor" s_divisor ["weight"] f_divisor fd_divisor) (G_divisor : FnG P w K mg base CX0 6 f_divisor fd_divisor ["weight"] (spP K W_divisor)) {f__law_plain : Addr} {fd__law_plain : FuncData} (D__law_plain : Dn K mg "_law_plain" s__law_plain ["weight"] f__law_plain fd__law_plain) (G__law_plain : FnG P w K mg base CX0 12 f__law_plain fd__law_plain ["weight"] (spP K W__law_plain)) (M : Ms mg) (Cc : CsL mg t_WORD_LIMIT) : FnG P w K mg base CX0 13 f fd ["tap", "weight"] (spT K W__law_divisor_right) := by
  refine fun_okG (k := 12) D.F sc__law_divisor_right (fun vs H Q E h => ?_) (fun cdv A outer s H vs Q E hgu hr h => ⟨t__law_divisor_right K, ?_, ?_⟩)
  · obtain ⟨a, ws, F, ds, R, rfl, e, tp, z, hW, k⟩ := h
    rw [List.length_cons, z.len, len__law_divisor_right ds R hW]
    rfl
  · unfold t__law_divisor_right
    exact (pss_cons (ps_asg (pe_tup (pa_cons (pe_op op_minus (pe_callG G__law_draw hgu (hr.mono (by decide)) (by rfl) D__law_draw.g D__law_draw.F.kp D__law_draw.b pass0 (pa_cons (pv 0) (pa_cons pe_int pa_nil))) pe_int) (pa_cons (pe_callG G__law_same hgu (hr.mono (by decide)) (by rfl) D__law_same.g D__law_same.F.kp D__law_same.b pass0 (pa_cons (pv 1) pa_nil)) pa_nil))) (pg_tup rfl (pgs_cons (pg_name (i := 2) sc__law_divisor_right.nd rfl (by first | exact Or.inl rfl | exact Or.inr rfl)) (pgs_cons (pg_name (i := 3) sc__law_divisor_right.nd rfl (by first | exact Or.inl rfl | exact Or.inr rfl)) pgs_nil))))
    (pss_cons (ps_par (i := 4) (j := 5) (by rfl) sc__law_divisor_right.nd rfl rfl (by decide) rfl rfl (pa_cons (pe_callG G__law_common hgu (hr.mono (by decide)) (by rfl) D__law_common.g D__law_common.F.kp D__law_common.b pass0 (pa_cons (pe_ix ix_seq (pe_callG G__law_plain hgu (hr.mono (by decide)) (by rfl) D__law_plain.g D__law_plain.F.kp D__law_plain.b pass0 (pa_cons (pv 1) pa_nil)) pe_int (fun _ _ => rfl)) pa_nil)) (pa_cons (pe_tup (pa_cons (pe_ix ix_seq (pv 1) pe_int (fun _ _ => rfl)) (pa_cons (pe_ix ix_seq (pv 1) pe_int (fun _ _ => rfl)) (pa_cons (pe_lc (own := [("value", 6)]) (g := (gName 6)) (tt := tYes) rfl sc__law_divisor_right.nd (pi_list (pe_ix ix_seq (pv 1) pe_int (fun _ _ => rfl))) (blkOk_by (N := ["tap", "weight", "times", "handed", "due", "many", "value", "size", "heights", "number", "idle", "k", "one", "more"]) (sc := defScope s__law_divisor_right) (by decide +kernel)) (fun _ _ _ _ _ => (pg_name (i := 6) sc__law_divisor_right.nd rfl (by first | exact Or.inl rfl | exact Or.inr rfl))) (fun _ _ _ _ _ => pts_nil) (fun _ _ _ _ _ => (pe_op op_times (pv 2) (pv 6)))) pa_nil)))) pa_nil)) (by rfl))
    (pss_cons (ps_if (PW.pt (pw_or (pt_cmpR (op_neU hr.units) (pe_callB (call_reprD hgu hr.units) (by rfl) M.repr (by decide +kernel) (pa_cons (pe_callG G_divisor hgu (hr.mono (by decide)) (by rfl) D_divisor.g D_divisor.F.kp D_divisor.b pass0 (pa_cons (pv 3) pa_nil)) pa_nil)) (pe_callB (call_reprD hgu hr.units) (by rfl) M.repr (by decide +kernel) (pa_cons (pv 4) pa_nil)) (nomark _)) (pw_or (pt_cmpR (op_neU hr.units) (pv 3) (pv 1) (nomark _)) (pw_or1 (pt_cmpR (op_neU hr.units) (pe_callG G_divisor hgu (hr.mono (by decide)) (by rfl) D_divisor.g D_divisor.F.kp D_divisor.b pass0 (pa_cons (pv 5) pa_nil)) (pe_op op_times (pe_callB call_absA (by rfl) M.abs (by decide +kernel) (pa_cons (pv 2) pa_nil)) (pv 4)) (nomark _))))))
    (pss_one (ps_ret pe_bl))
    pss_nil)
    (pss_cons (ps_if (PW.pt (pw_and (pt_cmpR op_leI (pe_callG G__law_many hgu (hr.mono (by decide)) (by rfl) D__law_many.g D__law_many.F.kp D__law_many.b pass0 (pa_cons (pe_ix ix_seq (pv 1) pe_int (fun _ _ => rfl)) (pa_cons (pe_op op_minus (pe_op op_times pe_int (pe_ix ix_seq (pv 1) pe_int (fun _ _ => rfl))) pe_int) pa_nil))) pe_int (nomark _)) (pw_and1 (pt_cmpR (op_neU hr.units) (pe_callG G__law_by_rings hgu (hr.mono (by decide)) (by rfl) D__law_by_rings.g D__law_by_rings.F.kp D__law_by_rings.b pass0 (pa_cons (pv 1) pa_nil)) (pv 4) (nomark _)))))
    (pss_one (ps_ret pe_bl))
    pss_nil)
    (pss_cons (ps_set (i := 7) sc__law_divisor_right.nd rfl (by first | exact Or.inl rfl | exact Or.inr rfl) (pe_op op_divI (pe_callB call_lenA (by rfl) M.len (by decide +kernel) (pa_cons (pe_ix ix_seq (pv 1) pe_int (fun _ _ => rfl)) pa_nil)) (pe_ix ix_seq (pv 1) pe_int (fun _ _ => rfl))))
    (pss_cons (ps_set (i := 8) sc__law_divisor_right.nd rfl (by first | exact Or.inl rfl | exact Or.inr rfl) (pe_lc (own := [("number", 9)]) (g := (gName 9)) (tt := tYes) rfl sc__law_divisor_right.nd (pi_rg1 (by rfl) M.range (pa_cons (pv 7) pa_nil)) (blkOk_by (N := ["tap", "weight", "times", "handed", "due", "many", "value", "size", "heights", "number", "idle", "k", "one", "more"]) (sc := defScope s__law_divisor_right) (by decide +kernel)) (fun _ _ _ _ _ => (pg_name (i := 9) sc__law_divisor_right.nd rfl (by first | exact Or.inl rfl | exact Or.inr rfl))) (fun _ _ _ _ _ => pts_nil) (fun _ _ _ _ _ => (pe_op op_minus (pe_callG G__law_draw hgu (hr.mono (by decide)) (by rfl) D__law_draw.g D__law_draw.F.kp D__law_draw.b pass0 (pa_cons (pv 0) (pa_cons pe_int pa_nil))) pe_int))))
    (pss_cons (ps_setLc (i := 10) (own := [("k", 11)]) (g := (gName 11)) (tt := tYes) rfl sc__law_divisor_right.nd rfl rfl (sw_true rfl rfl rfl (by decide +kernel)) (pi_rg1 (by rfl) M.range (pa_cons (pe_callB call_lenA (by rfl) M.len (by decide +kernel) (pa_cons (pe_ix ix_seq (pv 1) pe_int (fun _ _ => rfl)) pa_nil)) pa_nil)) (blkOk_by (N := ["tap", "weight", "times", "handed", "due", "many", "value", "size", "heights", "number", "idle", "k", "one", "more"]) (sc := defScope s__law_divisor_right) (by decide +kernel)) (fun _ _ _ _ _ => (pg_name (i := 11) sc__law_divisor_right.nd rfl (by first | exact Or.inl rfl | exact Or.inr rfl))) (fun _ _ _ _ _ => pts_nil) (fun _ _ _ _ _ => (pe_op op_minus (pe_ix ix_seq (pv 8) (pe_op op_divI (pv 11) (pe_ix ix_seq (pv 1) pe_int (fun _ _ => rfl))) (fun _ _ => rfl)) (pe_ix ix_seq (pv 8) (pe_op op_modI (pe_callTy call_intA (by rfl) M.int (by decide +kernel) (pa_cons (pv 11) pa_nil)) (pv 7)) (fun _ _ => rfl)))))
    (pss_cons (ps_if (pt_cmpR (op_neU hr.units) (pe_callG G_divisor hgu (hr.mono (by decide)) (by rfl) D_divisor.g D_divisor.F.kp D_divisor.b pass0 (pa_cons (pe_tup (pa_cons (pe_ix ix_seq (pv 1) pe_int (fun _ _ => rfl)) (pa_cons (pe_ix ix_seq (pv 1) pe_int (fun _ _ => rfl)) (pa_cons (pv 10) pa_nil)))) pa_nil)) pe_int (nomark _))
    (pss_one (ps_ret pe_bl))
    pss_nil)
    (pss_one (ps_ret (pe_cmpR (op_eqU hr.units) (pe_callG G_divisor hgu (hr.mono (by decide)) (by rfl) D_divisor.g D_divisor.F.kp D_divisor.b pass0 (pa_cons (pe_tup (pa_cons (pe_ix ix_seq (pv 1) pe_int (fun _ _ => rfl)) (pa_cons (pe_ix ix_seq (pv 1) pe_int (fun _ _ => rfl)) (pa_cons (pe_lc (own := [("one", 12), ("more", 13)]) (g := (gTup K 2 (gNames [12, 13]))) (tt := tYes) rfl sc__law_divisor_right.nd (pi_zip (by rfl) M.zip (pa_cons (pe_ix ix_seq (pv 1) pe_int (fun _ _ => rfl)) (pa_cons (pv 10) pa_nil))) (blkOk_by (N := ["tap", "weight", "times", "handed", "due", "many", "value", "size", "heights", "number", "idle", "k", "one", "more"]) (sc := defScope s__law_divisor_right) (by decide +kernel)) (fun _ _ _ _ _ => (pg_tup rfl (pgs_cons (pg_name (i := 12) sc__law_divisor_right.nd rfl (by first | exact Or.inl rfl | exact Or.inr rfl)) (pgs_cons (pg_name (i := 13) sc__law_divisor_right.nd rfl (by first | exact Or.inl rfl | exact Or.inr rfl)) pgs_nil)))) (fun _ _ _ _ _ => pts_nil) (fun _ _ _ _ _ => (pe_op op_plus (pv 12) (pv 13)))) pa_nil)))) pa_nil)) (pv 4) (nomark _))))))))))))
  · exact run_T h (ds__law_divisor_right K)
theorem len__law_right : ∀ (ds : List PyData) (R : PyData → Prop), W__law_right ds R → ds.length = 0 := by
  intro ds R h
  unfold W__law_right at h
  (repeat (first | (obtain ⟨rfl, _⟩ := h) | (obtain ⟨_, h⟩ := h)))
  rfl
theorem ok__law_right {f : Addr} {fd : FuncData} (D : Dn K mg "_law_right" s__law_right ["tap"] f fd) {f__law_draw : Addr} {fd__law_draw : FuncData} (D__law_draw : Dn K mg "_law_draw" s__law_draw ["tap", "bound"] f__law_draw fd__law_draw) (G__law_draw : FnG P w K mg base CX0 1 f__law_draw fd__law_draw ["tap", "bound"] (spT K W__law_draw)) {f__law_weight : Addr} {fd__law_weight : FuncData} (D__law_weight : Dn K mg "_law_weight" s__law_weight ["tap", "signs", "words", "top"] f__law_weight fd__law_weight) (G__law_weight : FnG P w K mg base CX0 3 f__law_weight fd__law_weight ["tap", "signs", "words", "top"] (spT K W__law_weight)) {f__law_added_right : Addr} {fd__law_added_right : FuncData} (D__law_added_right : Dn K mg "_law_added_right" s__law_added_right ["tap", "weight", "second", "times"] f__law_added_right fd__law_added_right) (G__law_added_right : FnG P w K mg base CX0 6 f__law_added_right fd__law_added_right ["tap", "weight", "second", "times"] (spT K W__law_added_right)) {f__law_divisor_right : Addr} {fd__law_divisor_right : FuncData} (D__law_divisor_right : Dn K mg "_law_divisor_right" s__law_divisor_right ["tap", "weight"] f__law_divisor_right fd__law_divisor_right) (G__law_divisor_right : FnG P w K mg base CX0 13 f__law_divisor_right fd__law_divisor_right ["tap", "weight"] (spT K W__law_divisor_right)) (M : Ms mg) (Cc : CsL mg t_WORD_LIMIT) : FnG P w K mg base CX0 14 f fd ["tap"] (spT K W__law_right) := by
  refine fun_okG (k := 13) D.F sc__law_right (fun vs H Q E h => ?_) (fun cdv A outer s H vs Q E hgu hr h => ⟨t__law_right K, ?_, ?_⟩)
  · obtain ⟨a, ws, F, ds, R, rfl, e, tp, z, hW, k⟩ := h
    rw [List.length_cons, z.len, len__law_right ds R hW]
    rfl
  · unfold t__law_right
    exact (pss_cons (ps_asg (pe_tup (pa_cons (pe_op op_plus pe_int (pe_callG G__law_draw hgu (hr.mono (by decide)) (by rfl) D__law_draw.g D__law_draw.F.kp D__law_draw.b pass0 (pa_cons (pv 0) (pa_cons pe_int pa_nil)))) (pa_cons (pe_ix ix_seq (pe_lst (pa_cons pe_int (pa_cons (pe_op op_powI pe_int pe_int) pa_nil))) (pe_callG G__law_draw hgu (hr.mono (by decide)) (by rfl) D__law_draw.g D__law_draw.F.kp D__law_draw.b pass0 (pa_cons (pv 0) (pa_cons pe_int pa_nil))) (fun _ _ => rfl)) pa_nil))) (pg_tup rfl (pgs_cons (pg_name (i := 1) sc__law_right.nd rfl (by first | exact Or.inl rfl | exact Or.inr rfl)) (pgs_cons (pg_name (i := 2) sc__law_right.nd rfl (by first | exact Or.inl rfl | exact Or.inr rfl)) pgs_nil))))
    (pss_cons (ps_setLc (i := 3) (own := [("turn", 4)]) (g := (gName 4)) (tt := tYes) rfl sc__law_right.nd rfl rfl (sw_true rfl rfl rfl (by decide +kernel)) (pi_rg1 (by rfl) M.range (pa_cons pe_int pa_nil)) (blkOk_by (N := ["tap", "signs", "top", "weights", "turn", "times", "first", "second"]) (sc := defScope s__law_right) (by decide +kernel)) (fun _ _ _ _ _ => (pg_name (i := 4) sc__law_right.nd rfl (by first | exact Or.inl rfl | exact Or.inr rfl))) (fun _ _ _ _ _ => pts_nil) (fun _ _ _ _ _ => (pe_callG G__law_weight hgu (hr.mono (by decide)) (by rfl) D__law_weight.g D__law_weight.F.kp D__law_weight.b pass0 (pa_cons (pv 0) (pa_cons (pv 1) (pa_cons (pe_ix ix_seq (pe_lst (pa_cons pe_int (pa_cons pe_int (pa_cons pe_int pa_nil)))) (pe_callG G__law_draw hgu (hr.mono (by decide)) (by rfl) D__law_draw.g D__law_draw.F.kp D__law_draw.b pass0 (pa_cons (pv 0) (pa_cons pe_int pa_nil))) (fun _ _ => rfl)) (pa_cons (pv 2) pa_nil)))))))
    (pss_cons (ps_set (i := 5) sc__law_right.nd rfl (by first | exact Or.inl rfl | exact Or.inr rfl) (pe_ix ix_seq (pe_lst (pa_cons pe_int (pa_cons pe_int (pa_cons (pe_un un_negI pe_int) (pa_cons (pe_op op_minus (pe_callG G__law_draw hgu (hr.mono (by decide)) (by rfl) D__law_draw.g D__law_draw.F.kp D__law_draw.b pass0 (pa_cons (pv 0) (pa_cons pe_int pa_nil))) pe_int) pa_nil))))) (pe_callG G__law_draw hgu (hr.mono (by decide)) (by rfl) D__law_draw.g D__law_draw.F.kp D__law_draw.b pass0 (pa_cons (pv 0) (pa_cons pe_int pa_nil))) (fun _ _ => rfl)))
    (pss_cons (ps_for PassesOwn.never rfl (pi_list (pe_lst (pa_cons (pv 3) (pa_cons (pe_revL (pv 3)) pa_nil)))) (pg_tupL rfl (pgs_cons (pg_name (i := 6) sc__law_right.nd rfl (by first | exact Or.inl rfl | exact Or.inr rfl)) (pgs_cons (pg_name (i := 7) sc__law_right.nd rfl (by first | exact Or.inl rfl | exact Or.inr rfl)) pgs_nil)))
    (pss_one (ps_if (pt_not (pt_val (pe_callG G__law_added_right hgu (hr.mono (by decide)) (by rfl) D__law_added_right.g D__law_added_right.F.kp D__law_added_right.b pass0 (pa_cons (pv 0) (pa_cons (pv 6) (pa_cons (pv 7) (pa_cons (pv 5) pa_nil)))))))
    (pss_one (ps_ret pe_bl))
    pss_nil)))
    (pss_one (ps_ret (pe_and (pe_callG G__law_divisor_right hgu (hr.mono (by decide)) (by rfl) D__law_divisor_right.g D__law_divisor_right.F.kp D__law_divisor_right.b pass0 (pa_cons (pv 0) (pa_cons (pe_ix ix_seq (pv 3) pe_int (fun _ _ => rfl)) pa_nil))) (pe_one (pe_callG G__law_divisor_right hgu (hr.mono (by decide)) (by rfl) D__law_divisor_right.g D__law_divisor_right.F.kp D__law_divisor_right.b pass0 (pa_cons (pv 0) (pa_cons (pe_ix ix_seq (pv 3) pe_int (fun _ _ => rfl)) pa_nil)))))))))))
  · exact run_T h (ds__law_right K)
theorem ok_law {f : Addr} {fd : FuncData} (D : Dn K mg "law" s_law ["script"] f fd) {f__law_tap : Addr} {fd__law_tap : FuncData} (D__law_tap : Dn K mg "_law_tap" s__law_tap ["cell", "turn"] f__law_tap fd__law_tap) (G__law_tap : FnG P w K mg base CX0 1 f__law_tap fd__law_tap ["cell", "turn"] (spF K W__law_tap)) {f__law_draw : Addr} {fd__law_draw : FuncData} (D__law_draw : Dn K mg "_law_draw" s__law_draw ["tap", "bound"] f__law_draw fd__law_draw) (G__law_draw : FnG P w K mg base CX0 1 f__law_draw fd__law_draw ["tap", "bound"] (spT K W__law_draw)) {f__law_cells : Addr} {fd__law_cells : FuncData} (D__law_cells : Dn K mg "_law_cells" s__law_cells ["script", "many"] f__law_cells fd__law_cells) (G__law_cells : FnG P w K mg base CX0 1 f__law_cells fd__law_cells ["script", "many"] (spP K Ce.W__law_cells)) {f__law_weight : Addr} {fd__law_weight : FuncData} (D__law_weight : Dn K mg "_law_weight" s__law_weight ["tap", "signs", "words", "top"] f__law_weight fd__law_weight) (G__law_weight : FnG P w K mg base CX0 3 f__law_weight fd__law_weight ["tap", "signs", "words", "top"] (spT K W__law_weight)) {f_divisor : Addr} {fd_divisor : FuncData} (D_divisor : Dn K mg "divisor" s_divisor ["weight"] f_divisor fd_divisor) (G_divisor : FnG P w K mg base CX0 6 f_divisor fd_divisor ["weight"] (spP K W_divisor)) {f__law_added_right : Addr} {fd__law_added_right : FuncData} (D__law_added_right : Dn K mg "_law_added_right" s__law_added_right ["tap", "weight", "second", "times"] f__law_added_right fd__law_added_right) (G__law_added_right : FnG P w K mg base CX0 6 f__law_added_right fd__law_added_right ["tap", "weight", "second", "times"] (spT K W__law_added_right)) {f__law_divisor_right : Addr} {fd__law_divisor_right : FuncData} (D__law_divisor_right : Dn K mg "_law_divisor_right" s__law_divisor_right ["tap", "weight"] f__law_divisor_right fd__law_divisor_right) (G__law_divisor_right : FnG P w K mg base CX0 13 f__law_divisor_right fd__law_divisor_right ["tap", "weight"] (spT K W__law_divisor_right)) {f__law_right : Addr} {fd__law_right : FuncData} (D__law_right : Dn K mg "_law_right" s__law_right ["tap"] f__law_right fd__law_right) (G__law_right : FnG P w K mg base CX0 14 f__law_right fd__law_right ["tap"] (spT K W__law_right)) (M : Ms mg) (Cc : CsL mg t_WORD_LIMIT) : FnG P w K mg base CX0 15 f fd ["script"] (spLaw K) := by
  refine fun_okG (k := 14) D.F sc_law (fun vs H Q E h => ?_) (fun cdv A outer s H vs Q E hgu hr h => ⟨t_law K, ?_, ?_⟩)
  · obtain ⟨a, ns, rfl, _⟩ := h
    rfl
  · unfold t_law
    exact (pss_cons (ps_set (i := 1) sc_law.nd rfl (by first | exact Or.inl rfl | exact Or.inr rfl) (pe_callG G__law_cells hgu (hr.mono (by decide)) (by rfl) D__law_cells.g D__law_cells.F.kp D__law_cells.b pass0 (pa_cons (pv 0) (pa_cons pe_int pa_nil))))
    (pss_cons (ps_if (pt_cmpR (op_neU hr.units) (pe_lc (own := [("k", 2)]) (g := (gName 2)) (tt := (tNot (tB (tCall (spT K W__law_right) [] E0 (tCons (tCall (spF K W__law_tap) [] E0 (tCons (tOp (rIx K) (tVar 1) (tVar 2)) (tCons (tVar 2) tNil))) tNil))))) rfl sc_law.nd (pi_rg1 (by rfl) M.range (pa_cons (pe_callB call_lenA (by rfl) M.len (by decide +kernel) (pa_cons (pv 1) pa_nil)) pa_nil)) (blkOk_by (N := ["script", "cells", "k", "tap", "great", "few", "number", "told"]) (sc := defScope s_law) (by decide +kernel)) (fun _ _ _ _ _ => (pg_name (i := 2) sc_law.nd rfl (by first | exact Or.inl rfl | exact Or.inr rfl))) (fun _ _ _ _ _ => (pts_one (pt_not (pt_val (pe_callG G__law_right hgu (hr.mono (by decide)) (by rfl) D__law_right.g D__law_right.F.kp D__law_right.b pass0 (pa_cons (pe_callG G__law_tap hgu (hr.mono (by decide)) (by rfl) D__law_tap.g D__law_tap.F.kp D__law_tap.b pass0 (pa_cons (pe_ix ix_seq (pv 1) (pv 2) (fun _ _ => rfl)) (pa_cons (pv 2) pa_nil))) pa_nil)))))) (fun _ _ _ _ _ => (pv 2))) (pe_lst pa_nil) (nomark _))
    (pss_one (ps_ret pe_bl))
    pss_nil)
    (pss_cons (ps_set (i := 3) sc_law.nd rfl (by first | exact Or.inl rfl | exact Or.inr rfl) (pe_callG G__law_tap hgu (hr.mono (by decide)) (by rfl) D__law_tap.g D__law_tap.F.kp D__law_tap.b pass0 (pa_cons (pe_ix ix_seq (pv 1) pe_int (fun _ _ => rfl)) (pa_cons pe_int pa_nil))))
    (pss_cons (ps_par (i := 4) (j := 5) (by rfl) sc_law.nd rfl rfl (by decide) rfl rfl (pa_cons (pe_tup (pa_cons pe_int (pa_cons pe_int (pa_cons (pe_lc (own := [("number", 6)]) (g := (gName 6)) (tt := tYes) rfl sc_law.nd (pi_rg1 (by rfl) M.range (pa_cons pe_int pa_nil)) (blkOk_by (N := ["script", "cells", "k", "tap", "great", "few", "number", "told"]) (sc := defScope s_law) (by decide +kernel)) (fun _ _ _ _ _ => (pg_name (i := 6) sc_law.nd rfl (by first | exact Or.inl rfl | exact Or.inr rfl))) (fun _ _ _ _ _ => pts_nil) (fun _ _ _ _ _ => (pe_op op_times pe_int (pe_op op_minus (pe_callG G__law_draw hgu (hr.mono (by decide)) (by rfl) D__law_draw.g D__law_draw.F.kp D__law_draw.b pass0 (pa_cons (pv 3) (pa_cons pe_int pa_nil))) pe_int)))) pa_nil)))) (pa_cons (pe_callG G__law_weight hgu (hr.mono (by decide)) (by rfl) D__law_weight.g D__law_weight.F.kp D__law_weight.b pass0 (pa_cons (pv 3) (pa_cons pe_int (pa_cons pe_int (pa_cons pe_int pa_nil))))) pa_nil)) (by rfl))
    (pss_cons (ps_if (PW.pt (pw_or (pt_not (pt_val (pe_callG G__law_added_right hgu (hr.mono (by decide)) (by rfl) D__law_added_right.g D__law_added_right.F.kp D__law_added_right.b pass0 (pa_cons (pv 3) (pa_cons (pv 4) (pa_cons (pv 5) (pa_cons pe_int pa_nil))))))) (pw_or1 (pt_not (pt_val (pe_callG G__law_added_right hgu (hr.mono (by decide)) (by rfl) D__law_added_right.g D__law_added_right.F.kp D__law_added_right.b pass0 (pa_cons (pv 3) (pa_cons (pv 5) (pa_cons (pv 4) (pa_cons (pe_un un_negI pe_int) pa_nil))))))))))
    (pss_one (ps_ret pe_bl))
    pss_nil)
    (pss_cons (ps_if (PW.pt (pw_or (pt_not (pt_val (pe_callG G__law_divisor_right hgu (hr.mono (by decide)) (by rfl) D__law_divisor_right.g D__law_divisor_right.F.kp D__law_divisor_right.b pass0 (pa_cons (pv 3) (pa_cons (pv 4) pa_nil))))) (pw_or1 (pt_cmpR (op_neU hr.units) (pe_callG G_divisor hgu (hr.mono (by decide)) (by rfl) D_divisor.g D_divisor.F.kp D_divisor.b pass0 (pa_cons (pe_tup (pa_cons pe_int (pa_cons pe_int (pa_cons (pe_op op_times (pe_lst (pa_cons (pe_un un_negI pe_int) pa_nil)) pe_int) pa_nil)))) pa_nil)) pe_int (nomark _)))))
    (pss_one (ps_ret pe_bl))
    pss_nil)
    (pss_cons (ps_set (i := 7) sc_law.nd rfl (by first | exact Or.inl rfl | exact Or.inr rfl) (pe_lst (pa_cons (pe_callG G_divisor hgu (hr.mono (by decide)) (by rfl) D_divisor.g D_divisor.F.kp D_divisor.b pass0 (pa_cons (pe_tup (pa_cons pe_int (pa_cons pe_int (pa_cons (pe_lst (pa_cons pe_int (pa_cons pe_int (pa_cons pe_int (pa_cons pe_int pa_nil))))) pa_nil)))) pa_nil)) (pa_cons (pe_callG G_divisor hgu (hr.mono (by decide)) (by rfl) D_divisor.g D_divisor.F.kp D_divisor.b pass0 (pa_cons (pe_tup (pa_cons pe_int (pa_cons pe_int (pa_cons (pe_lst (pa_cons pe_int (pa_cons pe_int pa_nil))) pa_nil)))) pa_nil)) (pa_cons (pe_callG G_divisor hgu (hr.mono (by decide)) (by rfl) D_divisor.g D_divisor.F.kp D_divisor.b pass0 (pa_cons (pe_tup (pa_cons pe_int (pa_cons pe_int (pa_cons (pe_lst (pa_cons pe_int (pa_cons pe_int (pa_cons pe_int pa_nil)))) pa_nil)))) pa_nil)) pa_nil)))))
    (pss_one (ps_ret (pe_cmpR (op_eqU hr.units) (pe_op op_plus (pv 7) (pe_lst (pa_cons (pe_callG G_divisor hgu (hr.mono (by decide)) (by rfl) D_divisor.g D_divisor.F.kp D_divisor.b pass0 (pa_cons (pe_tup (pa_cons pe_int (pa_cons pe_int (pa_cons (pe_lst (pa_cons (pe_un un_negI pe_int) (pa_cons pe_int pa_nil))) pa_nil)))) pa_nil)) pa_nil))) (pe_lst (pa_cons pe_int (pa_cons pe_int (pa_cons pe_int (pa_cons pe_int pa_nil))))) (nomark _)))))))))))
  · exact run_P (sp_of_law h) (ds_law K)
end
theorem all_mk {l : PySem.W.OpenLaw} {w : World} {K : PySem.W.Frag} {h : Heap} {mg : Str → Option Value} {fa : Addr} (X : K.In h) (G : h.Ns mainGlobals mg) (hfa : mg "law" = some (.ref fa))
    {f1 f2 f3 f4 f5 f6 f7 f8 f9 f10 f11 f12 f13 f14 f15 f16 f17 f18 f19 f20 f21 f22 f23 f24 f25 f26 f27 f28 f29 f30 f31 f32 f33 f34 f35 : Addr}
    {od1 an1 od2 an2 od3 an3 od4 an4 od5 an5 od6 an6 od7 an7 od8 an8 od9 an9 od10 an10 od11 an11 od12 an12 od13 an13 od14 an14 od15 an15 od16 an16 od17 an17 od18 an18 od19 an19 od20 an20 od21 an21 od22 an22 od23 an23 od24 an24 od25 an25 od26 an26 od27 an27 od28 an28 od29 an29 od30 an30 od31 an31 od32 an32 od33 an33 od34 an34 od35 an35 : Option Addr}
    {sl1 sl2 sl3 sl4 sl5 sl6 sl7 sl8 sl9 sl10 sl11 sl12 sl13 sl14 sl15 sl16 sl17 sl18 sl19 sl20 sl21 sl22 sl23 sl24 sl25 sl26 sl27 sl28 sl29 sl30 sl31 sl32 sl33 sl34 sl35 : Array (Option Value)}
    {oc1 kV1 dc1 pm1 cd1 ct1 oc2 kV2 dc2 pm2 cd2 ct2 oc3 kV3 dc3 pm3 cd3 ct3 oc4 kV4 dc4 pm4 cd4 ct4 oc5 kV5 dc5 pm5 cd5 ct5 oc6 kV6 dc6 pm6 cd6 ct6 oc7 kV7 dc7 pm7 cd7 ct7 oc8 kV8 dc8 pm8 cd8 ct8 oc9 kV9 dc9 pm9 cd9 ct9 oc10 kV10 dc10 pm10 cd10 ct10 oc11 kV11 dc11 pm11 cd11 ct11 oc12 kV12 dc12 pm12 cd12 ct12 oc13 kV13 dc13 pm13 cd13 ct13 oc14 kV14 dc14 pm14 cd14 ct14 oc15 kV15 dc15 pm15 cd15 ct15 oc16 kV16 dc16 pm16 cd16 ct16 oc17 kV17 dc17 pm17 cd17 ct17 oc18 kV18 dc18 pm18 cd18 ct18 oc19 kV19 dc19 pm19 cd19 ct19 oc20 kV20 dc20 pm20 cd20 ct20 oc21 kV21 dc21 pm21 cd21 ct21 oc22 kV22 dc22 pm22 cd22 ct22 oc23 kV23 dc23 pm23 cd23 ct23 oc24 kV24 dc24 pm24 cd24 ct24 oc25 kV25 dc25 pm25 cd25 ct25 oc26 kV26 dc26 pm26 cd26 ct26 oc27 kV27 dc27 pm27 cd27 ct27 oc28 kV28 dc28 pm28 cd28 ct28 oc29 kV29 dc29 pm29 cd29 ct29 oc30 kV30 dc30 pm30 cd30 ct30 oc31 kV31 dc31 pm31 cd31 ct31 oc32 kV32 dc32 pm32 cd32 ct32 oc33 kV33 dc33 pm33 cd33 ct33 oc34 kV34 dc34 pm34 cd34 ct34 oc35 kV35 dc35 pm35 cd35 ct35 : Value}
    {t_WORD_LIMIT : Tok}
    (a1 : PySem.W.nsIn K mainGlobals "is_integer" = some (some (.ref f1))) (l1 : K.lookup f1 = some ⟨oc1, od1, .func (PySem.W.fnOf "is_integer" "is_integer" (defArgs s_is_integer) (defBody s_is_integer) (defScope s_is_integer) .none kV1 dc1 pm1 an1 cd1 ct1), sl1⟩) (c1 : PySem.W.codeIn K cd1 "is_integer" = true) (k1 : PySem.W.keepIn K (.ref f1) = true)
    (a2 : PySem.W.nsIn K mainGlobals "check_like_signs" = some (some (.ref f2))) (l2 : K.lookup f2 = some ⟨oc2, od2, .func (PySem.W.fnOf "check_like_signs" "check_like_signs" (defArgs s_check_like_signs) (defBody s_check_like_signs) (defScope s_check_like_signs) .none kV2 dc2 pm2 an2 cd2 ct2), sl2⟩) (c2 : PySem.W.codeIn K cd2 "check_like_signs" = true) (k2 : PySem.W.keepIn K (.ref f2) = true)
    (a3 : PySem.W.nsIn K mainGlobals "count_words" = some (some (.ref f3))) (l3 : K.lookup f3 = some ⟨oc3, od3, .func (PySem.W.fnOf "count_words" "count_words" (defArgs s_count_words) (defBody s_count_words) (defScope s_count_words) .none kV3 dc3 pm3 an3 cd3 ct3), sl3⟩) (c3 : PySem.W.codeIn K cd3 "count_words" = true) (k3 : PySem.W.keepIn K (.ref f3) = true)
    (a4 : PySem.W.nsIn K mainGlobals "last_matters" = some (some (.ref f4))) (l4 : K.lookup f4 = some ⟨oc4, od4, .func (PySem.W.fnOf "last_matters" "last_matters" (defArgs s_last_matters) (defBody s_last_matters) (defScope s_last_matters) .none kV4 dc4 pm4 an4 cd4 ct4), sl4⟩) (c4 : PySem.W.codeIn K cd4 "last_matters" = true) (k4 : PySem.W.keepIn K (.ref f4) = true)
    (a5 : PySem.W.nsIn K mainGlobals "sums_behind_zeros" = some (some (.ref f5))) (l5 : K.lookup f5 = some ⟨oc5, od5, .func (PySem.W.fnOf "sums_behind_zeros" "sums_behind_zeros" (defArgs s_sums_behind_zeros) (defBody s_sums_behind_zeros) (defScope s_sums_behind_zeros) .none kV5 dc5 pm5 an5 cd5 ct5), sl5⟩) (c5 : PySem.W.codeIn K cd5 "sums_behind_zeros" = true) (k5 : PySem.W.keepIn K (.ref f5) = true)
    (a6 : PySem.W.nsIn K mainGlobals "values_at_span" = some (some (.ref f6))) (l6 : K.lookup f6 = some ⟨oc6, od6, .func (PySem.W.fnOf "values_at_span" "values_at_span" (defArgs s_values_at_span) (defBody s_values_at_span) (defScope s_values_at_span) .none kV6 dc6 pm6 an6 cd6 ct6), sl6⟩) (c6 : PySem.W.codeIn K cd6 "values_at_span" = true) (k6 : PySem.W.keepIn K (.ref f6) = true)
    (a7 : PySem.W.nsIn K mainGlobals "_law_tap" = some (some (.ref f7))) (l7 : K.lookup f7 = some ⟨oc7, od7, .func (PySem.W.fnOf "_law_tap" "_law_tap" (defArgs s__law_tap) (defBody s__law_tap) (defScope s__law_tap) .none kV7 dc7 pm7 an7 cd7 ct7), sl7⟩) (c7 : PySem.W.codeIn K cd7 "_law_tap" = true) (k7 : PySem.W.keepIn K (.ref f7) = true)
    (a8 : PySem.W.nsIn K mainGlobals "_law_draw" = some (some (.ref f8))) (l8 : K.lookup f8 = some ⟨oc8, od8, .func (PySem.W.fnOf "_law_draw" "_law_draw" (defArgs s__law_draw) (defBody s__law_draw) (defScope s__law_draw) .none kV8 dc8 pm8 an8 cd8 ct8), sl8⟩) (c8 : PySem.W.codeIn K cd8 "_law_draw" = true) (k8 : PySem.W.keepIn K (.ref f8) = true)
    (a9 : PySem.W.nsIn K mainGlobals "_law_cells" = some (some (.ref f9))) (l9 : K.lookup f9 = some ⟨oc9, od9, .func (PySem.W.fnOf "_law_cells" "_law_cells" (defArgs s__law_cells) (defBody s__law_cells) (defScope s__law_cells) .none kV9 dc9 pm9 an9 cd9 ct9), sl9⟩) (c9 : PySem.W.codeIn K cd9 "_law_cells" = true) (k9 : PySem.W.keepIn K (.ref f9) = true)
    (a10 : PySem.W.nsIn K mainGlobals "_law_many" = some (some (.ref f10))) (l10 : K.lookup f10 = some ⟨oc10, od10, .func (PySem.W.fnOf "_law_many" "_law_many" (defArgs s__law_many) (defBody s__law_many) (defScope s__law_many) .none kV10 dc10 pm10 an10 cd10 ct10), sl10⟩) (c10 : PySem.W.codeIn K cd10 "_law_many" = true) (k10 : PySem.W.keepIn K (.ref f10) = true)
    (a11 : PySem.W.nsIn K mainGlobals "_law_number" = some (some (.ref f11))) (l11 : K.lookup f11 = some ⟨oc11, od11, .func (PySem.W.fnOf "_law_number" "_law_number" (defArgs s__law_number) (defBody s__law_number) (defScope s__law_number) .none kV11 dc11 pm11 an11 cd11 ct11), sl11⟩) (c11 : PySem.W.codeIn K cd11 "_law_number" = true) (k11 : PySem.W.keepIn K (.ref f11) = true)
    (a12 : PySem.W.nsIn K mainGlobals "_law_word" = some (some (.ref f12))) (l12 : K.lookup f12 = some ⟨oc12, od12, .func (PySem.W.fnOf "_law_word" "_law_word" (defArgs s__law_word) (defBody s__law_word) (defScope s__law_word) .none kV12 dc12 pm12 an12 cd12 ct12), sl12⟩) (c12 : PySem.W.codeIn K cd12 "_law_word" = true) (k12 : PySem.W.keepIn K (.ref f12) = true)
    (a13 : PySem.W.nsIn K mainGlobals "_law_same" = some (some (.ref f13))) (l13 : K.lookup f13 = some ⟨oc13, od13, .func (PySem.W.fnOf "_law_same" "_law_same" (defArgs s__law_same) (defBody s__law_same) (defScope s__law_same) .none kV13 dc13 pm13 an13 cd13 ct13), sl13⟩) (c13 : PySem.W.codeIn K cd13 "_law_same" = true) (k13 : PySem.W.keepIn K (.ref f13) = true)
    (a14 : PySem.W.nsIn K mainGlobals "_law_uneven" = some (some (.ref f14))) (l14 : K.lookup f14 = some ⟨oc14, od14, .func (PySem.W.fnOf "_law_uneven" "_law_uneven" (defArgs s__law_uneven) (defBody s__law_uneven) (defScope s__law_uneven) .none kV14 dc14 pm14 an14 cd14 ct14), sl14⟩) (c14 : PySem.W.codeIn K cd14 "_law_uneven" = true) (k14 : PySem.W.keepIn K (.ref f14) = true)
    (a15 : PySem.W.nsIn K mainGlobals "_law_common" = some (some (.ref f15))) (l15 : K.lookup f15 = some ⟨oc15, od15, .func (PySem.W.fnOf "_law_common" "_law_common" (defArgs s__law_common) (defBody s__law_common) (defScope s__law_common) .none kV15 dc15 pm15 an15 cd15 ct15), sl15⟩) (c15 : PySem.W.codeIn K cd15 "_law_common" = true) (k15 : PySem.W.keepIn K (.ref f15) = true)
    (a16 : PySem.W.nsIn K mainGlobals "is_sign_count" = some (some (.ref f16))) (l16 : K.lookup f16 = some ⟨oc16, od16, .func (PySem.W.fnOf "is_sign_count" "is_sign_count" (defArgs s_is_sign_count) (defBody s_is_sign_count) (defScope s_is_sign_count) .none kV16 dc16 pm16 an16 cd16 ct16), sl16⟩) (c16 : PySem.W.codeIn K cd16 "is_sign_count" = true) (k16 : PySem.W.keepIn K (.ref f16) = true)
    (a17 : PySem.W.nsIn K mainGlobals "is_integer_list" = some (some (.ref f17))) (l17 : K.lookup f17 = some ⟨oc17, od17, .func (PySem.W.fnOf "is_integer_list" "is_integer_list" (defArgs s_is_integer_list) (defBody s_is_integer_list) (defScope s_is_integer_list) .none kV17 dc17 pm17 an17 cd17 ct17), sl17⟩) (c17 : PySem.W.codeIn K cd17 "is_integer_list" = true) (k17 : PySem.W.keepIn K (.ref f17) = true)
    (a18 : PySem.W.nsIn K mainGlobals "check_total" = some (some (.ref f18))) (l18 : K.lookup f18 = some ⟨oc18, od18, .func (PySem.W.fnOf "check_total" "check_total" (defArgs s_check_total) (defBody s_check_total) (defScope s_check_total) .none kV18 dc18 pm18 an18 cd18 ct18), sl18⟩) (c18 : PySem.W.codeIn K cd18 "check_total" = true) (k18 : PySem.W.keepIn K (.ref f18) = true)
    (a19 : PySem.W.nsIn K mainGlobals "_law_ring" = some (some (.ref f19))) (l19 : K.lookup f19 = some ⟨oc19, od19, .func (PySem.W.fnOf "_law_ring" "_law_ring" (defArgs s__law_ring) (defBody s__law_ring) (defScope s__law_ring) .none kV19 dc19 pm19 an19 cd19 ct19), sl19⟩) (c19 : PySem.W.codeIn K cd19 "_law_ring" = true) (k19 : PySem.W.keepIn K (.ref f19) = true)
    (a20 : PySem.W.nsIn K mainGlobals "_law_widest" = some (some (.ref f20))) (l20 : K.lookup f20 = some ⟨oc20, od20, .func (PySem.W.fnOf "_law_widest" "_law_widest" (defArgs s__law_widest) (defBody s__law_widest) (defScope s__law_widest) .none kV20 dc20 pm20 an20 cd20 ct20), sl20⟩) (c20 : PySem.W.codeIn K cd20 "_law_widest" = true) (k20 : PySem.W.keepIn K (.ref f20) = true)
    (a21 : PySem.W.nsIn K mainGlobals "_law_sum" = some (some (.ref f21))) (l21 : K.lookup f21 = some ⟨oc21, od21, .func (PySem.W.fnOf "_law_sum" "_law_sum" (defArgs s__law_sum) (defBody s__law_sum) (defScope s__law_sum) .none kV21 dc21 pm21 an21 cd21 ct21), sl21⟩) (c21 : PySem.W.codeIn K cd21 "_law_sum" = true) (k21 : PySem.W.keepIn K (.ref f21) = true)
    (a22 : PySem.W.nsIn K mainGlobals "_law_added" = some (some (.ref f22))) (l22 : K.lookup f22 = some ⟨oc22, od22, .func (PySem.W.fnOf "_law_added" "_law_added" (defArgs s__law_added) (defBody s__law_added) (defScope s__law_added) .none kV22 dc22 pm22 an22 cd22 ct22), sl22⟩) (c22 : PySem.W.codeIn K cd22 "_law_added" = true) (k22 : PySem.W.keepIn K (.ref f22) = true)
    (a23 : PySem.W.nsIn K mainGlobals "is_weight" = some (some (.ref f23))) (l23 : K.lookup f23 = some ⟨oc23, od23, .func (PySem.W.fnOf "is_weight" "is_weight" (defArgs s_is_weight) (defBody s_is_weight) (defScope s_is_weight) .none kV23 dc23 pm23 an23 cd23 ct23), sl23⟩) (c23 : PySem.W.codeIn K cd23 "is_weight" = true) (k23 : PySem.W.keepIn K (.ref f23) = true)
    (a24 : PySem.W.nsIn K mainGlobals "_law_weight" = some (some (.ref f24))) (l24 : K.lookup f24 = some ⟨oc24, od24, .func (PySem.W.fnOf "_law_weight" "_law_weight" (defArgs s__law_weight) (defBody s__law_weight) (defScope s__law_weight) .none kV24 dc24 pm24 an24 cd24 ct24), sl24⟩) (c24 : PySem.W.codeIn K cd24 "_law_weight" = true) (k24 : PySem.W.keepIn K (.ref f24) = true)
    (a25 : PySem.W.nsIn K mainGlobals "_law_by_rings" = some (some (.ref f25))) (l25 : K.lookup f25 = some ⟨oc25, od25, .func (PySem.W.fnOf "_law_by_rings" "_law_by_rings" (defArgs s__law_by_rings) (defBody s__law_by_rings) (defScope s__law_by_rings) .none kV25 dc25 pm25 an25 cd25 ct25), sl25⟩) (c25 : PySem.W.codeIn K cd25 "_law_by_rings" = true) (k25 : PySem.W.keepIn K (.ref f25) = true)
    (a26 : PySem.W.nsIn K mainGlobals "check_weight" = some (some (.ref f26))) (l26 : K.lookup f26 = some ⟨oc26, od26, .func (PySem.W.fnOf "check_weight" "check_weight" (defArgs s_check_weight) (defBody s_check_weight) (defScope s_check_weight) .none kV26 dc26 pm26 an26 cd26 ct26), sl26⟩) (c26 : PySem.W.codeIn K cd26 "check_weight" = true) (k26 : PySem.W.keepIn K (.ref f26) = true)
    (a27 : PySem.W.nsIn K mainGlobals "plain" = some (some (.ref f27))) (l27 : K.lookup f27 = some ⟨oc27, od27, .func (PySem.W.fnOf "plain" "plain" (defArgs s_plain) (defBody s_plain) (defScope s_plain) .none kV27 dc27 pm27 an27 cd27 ct27), sl27⟩) (c27 : PySem.W.codeIn K cd27 "plain" = true) (k27 : PySem.W.keepIn K (.ref f27) = true)
    (a28 : PySem.W.nsIn K mainGlobals "added" = some (some (.ref f28))) (l28 : K.lookup f28 = some ⟨oc28, od28, .func (PySem.W.fnOf "added" "added" (defArgs s_added) (defBody s_added) (defScope s_added) .none kV28 dc28 pm28 an28 cd28 ct28), sl28⟩) (c28 : PySem.W.codeIn K cd28 "added" = true) (k28 : PySem.W.keepIn K (.ref f28) = true)
    (a29 : PySem.W.nsIn K mainGlobals "divisor" = some (some (.ref f29))) (l29 : K.lookup f29 = some ⟨oc29, od29, .func (PySem.W.fnOf "divisor" "divisor" (defArgs s_divisor) (defBody s_divisor) (defScope s_divisor) .none kV29 dc29 pm29 an29 cd29 ct29), sl29⟩) (c29 : PySem.W.codeIn K cd29 "divisor" = true) (k29 : PySem.W.keepIn K (.ref f29) = true)
    (a30 : PySem.W.nsIn K mainGlobals "_law_added_right" = some (some (.ref f30))) (l30 : K.lookup f30 = some ⟨oc30, od30, .func (PySem.W.fnOf "_law_added_right" "_law_added_right" (defArgs s__law_added_right) (defBody s__law_added_right) (defScope s__law_added_right) .none kV30 dc30 pm30 an30 cd30 ct30), sl30⟩) (c30 : PySem.W.codeIn K cd30 "_law_added_right" = true) (k30 : PySem.W.keepIn K (.ref f30) = true)
    (a31 : PySem.W.nsIn K mainGlobals "_law_height" = some (some (.ref f31))) (l31 : K.lookup f31 = some ⟨oc31, od31, .func (PySem.W.fnOf "_law_height" "_law_height" (defArgs s__law_height) (defBody s__law_height) (defScope s__law_height) .none kV31 dc31 pm31 an31 cd31 ct31), sl31⟩) (c31 : PySem.W.codeIn K cd31 "_law_height" = true) (k31 : PySem.W.keepIn K (.ref f31) = true)
    (a32 : PySem.W.nsIn K mainGlobals "_law_plain" = some (some (.ref f32))) (l32 : K.lookup f32 = some ⟨oc32, od32, .func (PySem.W.fnOf "_law_plain" "_law_plain" (defArgs s__law_plain) (defBody s__law_plain) (defScope s__law_plain) .none kV32 dc32 pm32 an32 cd32 ct32), sl32⟩) (c32 : PySem.W.codeIn K cd32 "_law_plain" = true) (k32 : PySem.W.keepIn K (.ref f32) = true)
    (a33 : PySem.W.nsIn K mainGlobals "_law_divisor_right" = some (some (.ref f33))) (l33 : K.lookup f33 = some ⟨oc33, od33, .func (PySem.W.fnOf "_law_divisor_right" "_law_divisor_right" (defArgs s__law_divisor_right) (defBody s__law_divisor_right) (defScope s__law_divisor_right) .none kV33 dc33 pm33 an33 cd33 ct33), sl33⟩) (c33 : PySem.W.codeIn K cd33 "_law_divisor_right" = true) (k33 : PySem.W.keepIn K (.ref f33) = true)
    (a34 : PySem.W.nsIn K mainGlobals "_law_right" = some (some (.ref f34))) (l34 : K.lookup f34 = some ⟨oc34, od34, .func (PySem.W.fnOf "_law_right" "_law_right" (defArgs s__law_right) (defBody s__law_right) (defScope s__law_right) .none kV34 dc34 pm34 an34 cd34 ct34), sl34⟩) (c34 : PySem.W.codeIn K cd34 "_law_right" = true) (k34 : PySem.W.keepIn K (.ref f34) = true)
    (a35 : PySem.W.nsIn K mainGlobals "law" = some (some (.ref f35))) (l35 : K.lookup f35 = some ⟨oc35, od35, .func (PySem.W.fnOf "law" "law" (defArgs s_law) (defBody s_law) (defScope s_law) .none kV35 dc35 pm35 an35 cd35 ct35), sl35⟩) (c35 : PySem.W.codeIn K cd35 "law" = true) (k35 : PySem.W.keepIn K (.ref f35) = true)
    (z_abs : PySem.W.nsIn K mainGlobals "abs" = some none)
    (z_all : PySem.W.nsIn K mainGlobals "all" = some none)
    (z_any : PySem.W.nsIn K mainGlobals "any" = some none)
    (z_bool : PySem.W.nsIn K mainGlobals "bool" = some none)
    (z_enumerate : PySem.W.nsIn K mainGlobals "enumerate" = some none)
    (z_gcd : PySem.W.nsIn K mainGlobals "gcd" = some (some (.builtin "math.gcd")))
    (z_int : PySem.W.nsIn K mainGlobals "int" = some none)
    (z_isinstance : PySem.W.nsIn K mainGlobals "isinstance" = some none)
    (z_len : PySem.W.nsIn K mainGlobals "len" = some none)
    (z_list : PySem.W.nsIn K mainGlobals "list" = some none)
    (z_max : PySem.W.nsIn K mainGlobals "max" = some none)
    (z_min : PySem.W.nsIn K mainGlobals "min" = some none)
    (z_range : PySem.W.nsIn K mainGlobals "range" = some none)
    (z_repr : PySem.W.nsIn K mainGlobals "repr" = some none)
    (z_sum : PySem.W.nsIn K mainGlobals "sum" = some none)
    (z_tuple : PySem.W.nsIn K mainGlobals "tuple" = some none)
    (z_type : PySem.W.nsIn K mainGlobals "type" = some none)
    (z_zip : PySem.W.nsIn K mainGlobals "zip" = some none)
    (y_WORD_LIMIT : PySem.W.nsIn K mainGlobals "WORD_LIMIT" = some (some (.int 1024 t_WORD_LIMIT)))
    : ∃ fd : FuncData, (∀ (s : Shared) (u : Value), BindsTo s fd ⟨[u], []⟩ [("script", u)]) ∧ ∀ base : Heap, K.In base → base.Ns mainGlobals mg → FnG l.prog w K mg base CX0 15 fa fd ["script"] (spLaw K) := by
  have e := hfa.symm.trans (PySem.W.mg_of X G a35)
  cases e
  have M : Ms mg := ⟨PySem.W.mg_none_of X G z_abs, PySem.W.mg_none_of X G z_all, PySem.W.mg_none_of X G z_any, PySem.W.mg_none_of X G z_bool, PySem.W.mg_none_of X G z_enumerate, PySem.W.mg_of X G z_gcd, PySem.W.mg_none_of X G z_int, PySem.W.mg_none_of X G z_isinstance, PySem.W.mg_none_of X G z_len, PySem.W.mg_none_of X G z_list, PySem.W.mg_none_of X G z_max, PySem.W.mg_none_of X G z_min, PySem.W.mg_none_of X G z_range, PySem.W.mg_none_of X G z_repr, PySem.W.mg_none_of X G z_sum, PySem.W.mg_none_of X G z_tuple, PySem.W.mg_none_of X G z_type, PySem.W.mg_none_of X G z_zip⟩
  have Cc : CsL mg t_WORD_LIMIT := ⟨PySem.W.mg_of X G y_WORD_LIMIT⟩
  have F1 := fun_mk (st := s_is_integer) l1 c1 k1
  have D_is_integer : Dn K mg "is_integer" s_is_integer ["value"] f1 (PySem.W.fnOf "is_integer" "is_integer" (defArgs s_is_integer) (defBody s_is_integer) (defScope s_is_integer) .none kV1 dc1 pm1 an1 cd1 ct1) := ⟨F1, PySem.W.mg_of X G a1, F1.binds (ps := ["value"]) fun _ _ _ _ _ _ us hl => match us, hl with | [_], _ => rfl⟩
  have F2 := fun_mk (st := s_check_like_signs) l2 c2 k2
  have D_check_like_signs : Dn K mg "check_like_signs" s_check_like_signs ["one", "other"] f2 (PySem.W.fnOf "check_like_signs" "check_like_signs" (defArgs s_check_like_signs) (defBody s_check_like_signs) (defScope s_check_like_signs) .none kV2 dc2 pm2 an2 cd2 ct2) := ⟨F2, PySem.W.mg_of X G a2, F2.binds (ps := ["one", "other"]) fun _ _ _ _ _ _ us hl => match us, hl with | [_, _], _ => rfl⟩
  have F3 := fun_mk (st := s_count_words) l3 c3 k3
  have D_count_words : Dn K mg "count_words" s_count_words ["signs", "length", "limit"] f3 (PySem.W.fnOf "count_words" "count_words" (defArgs s_count_words) (defBody s_count_words) (defScope s_count_words) .none kV3 dc3 pm3 an3 cd3 ct3) := ⟨F3, PySem.W.mg_of X G a3, F3.binds (ps := ["signs", "length", "limit"]) fun _ _ _ _ _ _ us hl => match us, hl with | [_, _, _], _ => rfl⟩
  have F4 := fun_mk (st := s_last_matters) l4 c4 k4
  have D_last_matters : Dn K mg "last_matters" s_last_matters ["signs", "items"] f4 (PySem.W.fnOf "last_matters" "last_matters" (defArgs s_last_matters) (defBody s_last_matters) (defScope s_last_matters) .none kV4 dc4 pm4 an4 cd4 ct4) := ⟨F4, PySem.W.mg_of X G a4, F4.binds (ps := ["signs", "items"]) fun _ _ _ _ _ _ us hl => match us, hl with | [_, _], _ => rfl⟩
  have F5 := fun_mk (st := s_sums_behind_zeros) l5 c5 k5
  have D_sums_behind_zeros : Dn K mg "sums_behind_zeros" s_sums_behind_zeros ["weight"] f5 (PySem.W.fnOf "sums_behind_zeros" "sums_behind_zeros" (defArgs s_sums_behind_zeros) (defBody s_sums_behind_zeros) (defScope s_sums_behind_zeros) .none kV5 dc5 pm5 an5 cd5 ct5) := ⟨F5, PySem.W.mg_of X G a5, F5.binds (ps := ["weight"]) fun _ _ _ _ _ _ us hl => match us, hl with | [_], _ => rfl⟩
  have F6 := fun_mk (st := s_values_at_span) l6 c6 k6
  have D_values_at_span : Dn K mg "values_at_span" s_values_at_span ["weight", "span"] f6 (PySem.W.fnOf "values_at_span" "values_at_span" (defArgs s_values_at_span) (defBody s_values_at_span) (defScope s_values_at_span) .none kV6 dc6 pm6 an6 cd6 ct6) := ⟨F6, PySem.W.mg_of X G a6, F6.binds (ps := ["weight", "span"]) fun _ _ _ _ _ _ us hl => match us, hl with | [_, _], _ => rfl⟩
  have F7 := fun_mk (st := s__law_tap) l7 c7 k7
  have D__law_tap : Dn K mg "_law_tap" s__law_tap ["cell", "turn"] f7 (PySem.W.fnOf "_law_tap" "_law_tap" (defArgs s__law_tap) (defBody s__law_tap) (defScope s__law_tap) .none kV7 dc7 pm7 an7 cd7 ct7) := ⟨F7, PySem.W.mg_of X G a7, F7.binds (ps := ["cell", "turn"]) fun _ _ _ _ _ _ us hl => match us, hl with | [_, _], _ => rfl⟩
  have F8 := fun_mk (st := s__law_draw) l8 c8 k8
  have D__law_draw : Dn K mg "_law_draw" s__law_draw ["tap", "bound"] f8 (PySem.W.fnOf "_law_draw" "_law_draw" (defArgs s__law_draw) (defBody s__law_draw) (defScope s__law_draw) .none kV8 dc8 pm8 an8 cd8 ct8) := ⟨F8, PySem.W.mg_of X G a8, F8.binds (ps := ["tap", "bound"]) fun _ _ _ _ _ _ us hl => match us, hl with | [_, _], _ => rfl⟩
  have F9 := fun_mk (st := s__law_cells) l9 c9 k9
  have D__law_cells : Dn K mg "_law_cells" s__law_cells ["script", "many"] f9 (PySem.W.fnOf "_law_cells" "_law_cells" (defArgs s__law_cells) (defBody s__law_cells) (defScope s__law_cells) .none kV9 dc9 pm9 an9 cd9 ct9) := ⟨F9, PySem.W.mg_of X G a9, F9.binds (ps := ["script", "many"]) fun _ _ _ _ _ _ us hl => match us, hl with | [_, _], _ => rfl⟩
  have F10 := fun_mk (st := s__law_many) l10 c10 k10
  have D__law_many : Dn K mg "_law_many" s__law_many ["signs", "size"] f10 (PySem.W.fnOf "_law_many" "_law_many" (defArgs s__law_many) (defBody s__law_many) (defScope s__law_many) .none kV10 dc10 pm10 an10 cd10 ct10) := ⟨F10, PySem.W.mg_of X G a10, F10.binds (ps := ["signs", "size"]) fun _ _ _ _ _ _ us hl => match us, hl with | [_, _], _ => rfl⟩
  have F11 := fun_mk (st := s__law_number) l11 c11 k11
  have D__law_number : Dn K mg "_law_number" s__law_number ["signs", "ring", "at", "size"] f11 (PySem.W.fnOf "_law_number" "_law_number" (defArgs s__law_number) (defBody s__law_number) (defScope s__law_number) .none kV11 dc11 pm11 an11 cd11 ct11) := ⟨F11, PySem.W.mg_of X G a11, F11.binds (ps := ["signs", "ring", "at", "size"]) fun _ _ _ _ _ _ us hl => match us, hl with | [_, _, _, _], _ => rfl⟩
  have F12 := fun_mk (st := s__law_word) l12 c12 k12
  have D__law_word : Dn K mg "_law_word" s__law_word ["signs", "number", "size"] f12 (PySem.W.fnOf "_law_word" "_law_word" (defArgs s__law_word) (defBody s__law_word) (defScope s__law_word) .none kV12 dc12 pm12 an12 cd12 ct12) := ⟨F12, PySem.W.mg_of X G a12, F12.binds (ps := ["signs", "number", "size"]) fun _ _ _ _ _ _ us hl => match us, hl with | [_, _, _], _ => rfl⟩
  have F13 := fun_mk (st := s__law_same) l13 c13 k13
  have D__law_same : Dn K mg "_law_same" s__law_same ["weight"] f13 (PySem.W.fnOf "_law_same" "_law_same" (defArgs s__law_same) (defBody s__law_same) (defScope s__law_same) .none kV13 dc13 pm13 an13 cd13 ct13) := ⟨F13, PySem.W.mg_of X G a13, F13.binds (ps := ["weight"]) fun _ _ _ _ _ _ us hl => match us, hl with | [_], _ => rfl⟩
  have F14 := fun_mk (st := s__law_uneven) l14 c14 k14
  have D__law_uneven : Dn K mg "_law_uneven" s__law_uneven ["signs", "values"] f14 (PySem.W.fnOf "_law_uneven" "_law_uneven" (defArgs s__law_uneven) (defBody s__law_uneven) (defScope s__law_uneven) .none kV14 dc14 pm14 an14 cd14 ct14) := ⟨F14, PySem.W.mg_of X G a14, F14.binds (ps := ["signs", "values"]) fun _ _ _ _ _ _ us hl => match us, hl with | [_, _], _ => rfl⟩
  have F15 := fun_mk (st := s__law_common) l15 c15 k15
  have D__law_common : Dn K mg "_law_common" s__law_common ["numbers"] f15 (PySem.W.fnOf "_law_common" "_law_common" (defArgs s__law_common) (defBody s__law_common) (defScope s__law_common) .none kV15 dc15 pm15 an15 cd15 ct15) := ⟨F15, PySem.W.mg_of X G a15, F15.binds (ps := ["numbers"]) fun _ _ _ _ _ _ us hl => match us, hl with | [_], _ => rfl⟩
  have F16 := fun_mk (st := s_is_sign_count) l16 c16 k16
  have D_is_sign_count : Dn K mg "is_sign_count" s_is_sign_count ["value"] f16 (PySem.W.fnOf "is_sign_count" "is_sign_count" (defArgs s_is_sign_count) (defBody s_is_sign_count) (defScope s_is_sign_count) .none kV16 dc16 pm16 an16 cd16 ct16) := ⟨F16, PySem.W.mg_of X G a16, F16.binds (ps := ["value"]) fun _ _ _ _ _ _ us hl => match us, hl with | [_], _ => rfl⟩
  have F17 := fun_mk (st := s_is_integer_list) l17 c17 k17
  have D_is_integer_list : Dn K mg "is_integer_list" s_is_integer_list ["value"] f17 (PySem.W.fnOf "is_integer_list" "is_integer_list" (defArgs s_is_integer_list) (defBody s_is_integer_list) (defScope s_is_integer_list) .none kV17 dc17 pm17 an17 cd17 ct17) := ⟨F17, PySem.W.mg_of X G a17, F17.binds (ps := ["value"]) fun _ _ _ _ _ _ us hl => match us, hl with | [_], _ => rfl⟩
  have F18 := fun_mk (st := s_check_total) l18 c18 k18
  have D_check_total : Dn K mg "check_total" s_check_total ["value"] f18 (PySem.W.fnOf "check_total" "check_total" (defArgs s_check_total) (defBody s_check_total) (defScope s_check_total) .none kV18 dc18 pm18 an18 cd18 ct18) := ⟨F18, PySem.W.mg_of X G a18, F18.binds (ps := ["value"]) fun _ _ _ _ _ _ us hl => match us, hl with | [_], _ => rfl⟩
  have F19 := fun_mk (st := s__law_ring) l19 c19 k19
  have D__law_ring : Dn K mg "_law_ring" s__law_ring ["tap", "signs", "cells"] f19 (PySem.W.fnOf "_law_ring" "_law_ring" (defArgs s__law_ring) (defBody s__law_ring) (defScope s__law_ring) .none kV19 dc19 pm19 an19 cd19 ct19) := ⟨F19, PySem.W.mg_of X G a19, F19.binds (ps := ["tap", "signs", "cells"]) fun _ _ _ _ _ _ us hl => match us, hl with | [_, _, _], _ => rfl⟩
  have F20 := fun_mk (st := s__law_widest) l20 c20 k20
  have D__law_widest : Dn K mg "_law_widest" s__law_widest ["signs", "words"] f20 (PySem.W.fnOf "_law_widest" "_law_widest" (defArgs s__law_widest) (defBody s__law_widest) (defScope s__law_widest) .none kV20 dc20 pm20 an20 cd20 ct20) := ⟨F20, PySem.W.mg_of X G a20, F20.binds (ps := ["signs", "words"]) fun _ _ _ _ _ _ us hl => match us, hl with | [_, _], _ => rfl⟩
  have F21 := fun_mk (st := s__law_sum) l21 c21 k21
  have D__law_sum : Dn K mg "_law_sum" s__law_sum ["weight", "ring"] f21 (PySem.W.fnOf "_law_sum" "_law_sum" (defArgs s__law_sum) (defBody s__law_sum) (defScope s__law_sum) .none kV21 dc21 pm21 an21 cd21 ct21) := ⟨F21, PySem.W.mg_of X G a21, F21.binds (ps := ["weight", "ring"]) fun _ _ _ _ _ _ us hl => match us, hl with | [_, _], _ => rfl⟩
  have F22 := fun_mk (st := s__law_added) l22 c22 k22
  have D__law_added : Dn K mg "_law_added" s__law_added ["weight", "second", "times"] f22 (PySem.W.fnOf "_law_added" "_law_added" (defArgs s__law_added) (defBody s__law_added) (defScope s__law_added) .none kV22 dc22 pm22 an22 cd22 ct22) := ⟨F22, PySem.W.mg_of X G a22, F22.binds (ps := ["weight", "second", "times"]) fun _ _ _ _ _ _ us hl => match us, hl with | [_, _, _], _ => rfl⟩
  have F23 := fun_mk (st := s_is_weight) l23 c23 k23
  have D_is_weight : Dn K mg "is_weight" s_is_weight ["value"] f23 (PySem.W.fnOf "is_weight" "is_weight" (defArgs s_is_weight) (defBody s_is_weight) (defScope s_is_weight) .none kV23 dc23 pm23 an23 cd23 ct23) := ⟨F23, PySem.W.mg_of X G a23, F23.binds (ps := ["value"]) fun _ _ _ _ _ _ us hl => match us, hl with | [_], _ => rfl⟩
  have F24 := fun_mk (st := s__law_weight) l24 c24 k24
  have D__law_weight : Dn K mg "_law_weight" s__law_weight ["tap", "signs", "words", "top"] f24 (PySem.W.fnOf "_law_weight" "_law_weight" (defArgs s__law_weight) (defBody s__law_weight) (defScope s__law_weight) .none kV24 dc24 pm24 an24 cd24 ct24) := ⟨F24, PySem.W.mg_of X G a24, F24.binds (ps := ["tap", "signs", "words", "top"]) fun _ _ _ _ _ _ us hl => match us, hl with | [_, _, _, _], _ => rfl⟩
  have F25 := fun_mk (st := s__law_by_rings) l25 c25 k25
  have D__law_by_rings : Dn K mg "_law_by_rings" s__law_by_rings ["weight"] f25 (PySem.W.fnOf "_law_by_rings" "_law_by_rings" (defArgs s__law_by_rings) (defBody s__law_by_rings) (defScope s__law_by_rings) .none kV25 dc25 pm25 an25 cd25 ct25) := ⟨F25, PySem.W.mg_of X G a25, F25.binds (ps := ["weight"]) fun _ _ _ _ _ _ us hl => match us, hl with | [_], _ => rfl⟩
  have F26 := fun_mk (st := s_check_weight) l26 c26 k26
  have D_check_weight : Dn K mg "check_weight" s_check_weight ["value"] f26 (PySem.W.fnOf "check_weight" "check_weight" (defArgs s_check_weight) (defBody s_check_weight) (defScope s_check_weight) .none kV26 dc26 pm26 an26 cd26 ct26) := ⟨F26, PySem.W.mg_of X G a26, F26.binds (ps := ["value"]) fun _ _ _ _ _ _ us hl => match us, hl with | [_], _ => rfl⟩
  have F27 := fun_mk (st := s_plain) l27 c27 k27
  have D_plain : Dn K mg "plain" s_plain ["weight"] f27 (PySem.W.fnOf "plain" "plain" (defArgs s_plain) (defBody s_plain) (defScope s_plain) .none kV27 dc27 pm27 an27 cd27 ct27) := ⟨F27, PySem.W.mg_of X G a27, F27.binds (ps := ["weight"]) fun _ _ _ _ _ _ us hl => match us, hl with | [_], _ => rfl⟩
  have F28 := fun_mk (st := s_added) l28 c28 k28
  have D_added : Dn K mg "added" s_added ["weight", "second", "times"] f28 (PySem.W.fnOf "added" "added" (defArgs s_added) (defBody s_added) (defScope s_added) .none kV28 dc28 pm28 an28 cd28 ct28) := ⟨F28, PySem.W.mg_of X G a28, F28.binds (ps := ["weight", "second", "times"]) fun _ _ _ _ _ _ us hl => match us, hl with | [_, _, _], _ => rfl⟩
  have F29 := fun_mk (st := s_divisor) l29 c29 k29
  have D_divisor : Dn K mg "divisor" s_divisor ["weight"] f29 (PySem.W.fnOf "divisor" "divisor" (defArgs s_divisor) (defBody s_divisor) (defScope s_divisor) .none kV29 dc29 pm29 an29 cd29 ct29) := ⟨F29, PySem.W.mg_of X G a29, F29.binds (ps := ["weight"]) fun _ _ _ _ _ _ us hl => match us, hl with | [_], _ => rfl⟩
  have F30 := fun_mk (st := s__law_added_right) l30 c30 k30
  have D__law_added_right : Dn K mg "_law_added_right" s__law_added_right ["tap", "weight", "second", "times"] f30 (PySem.W.fnOf "_law_added_right" "_law_added_right" (defArgs s__law_added_right) (defBody s__law_added_right) (defScope s__law_added_right) .none kV30 dc30 pm30 an30 cd30 ct30) := ⟨F30, PySem.W.mg_of X G a30, F30.binds (ps := ["tap", "weight", "second", "times"]) fun _ _ _ _ _ _ us hl => match us, hl with | [_, _, _, _], _ => rfl⟩
  have F31 := fun_mk (st := s__law_height) l31 c31 k31
  have D__law_height : Dn K mg "_law_height" s__law_height ["weight", "known", "number"] f31 (PySem.W.fnOf "_law_height" "_law_height" (defArgs s__law_height) (defBody s__law_height) (defScope s__law_height) .none kV31 dc31 pm31 an31 cd31 ct31) := ⟨F31, PySem.W.mg_of X G a31, F31.binds (ps := ["weight", "known", "number"]) fun _ _ _ _ _ _ us hl => match us, hl with | [_, _, _], _ => rfl⟩
  have F32 := fun_mk (st := s__law_plain) l32 c32 k32
  have D__law_plain : Dn K mg "_law_plain" s__law_plain ["weight"] f32 (PySem.W.fnOf "_law_plain" "_law_plain" (defArgs s__law_plain) (defBody s__law_plain) (defScope s__law_plain) .none kV32 dc32 pm32 an32 cd32 ct32) := ⟨F32, PySem.W.mg_of X G a32, F32.binds (ps := ["weight"]) fun _ _ _ _ _ _ us hl => match us, hl with | [_], _ => rfl⟩
  have F33 := fun_mk (st := s__law_divisor_right) l33 c33 k33
  have D__law_divisor_right : Dn K mg "_law_divisor_right" s__law_divisor_right ["tap", "weight"] f33 (PySem.W.fnOf "_law_divisor_right" "_law_divisor_right" (defArgs s__law_divisor_right) (defBody s__law_divisor_right) (defScope s__law_divisor_right) .none kV33 dc33 pm33 an33 cd33 ct33) := ⟨F33, PySem.W.mg_of X G a33, F33.binds (ps := ["tap", "weight"]) fun _ _ _ _ _ _ us hl => match us, hl with | [_, _], _ => rfl⟩
  have F34 := fun_mk (st := s__law_right) l34 c34 k34
  have D__law_right : Dn K mg "_law_right" s__law_right ["tap"] f34 (PySem.W.fnOf "_law_right" "_law_right" (defArgs s__law_right) (defBody s__law_right) (defScope s__law_right) .none kV34 dc34 pm34 an34 cd34 ct34) := ⟨F34, PySem.W.mg_of X G a34, F34.binds (ps := ["tap"]) fun _ _ _ _ _ _ us hl => match us, hl with | [_], _ => rfl⟩
  have F35 := fun_mk (st := s_law) l35 c35 k35
  have D_law : Dn K mg "law" s_law ["script"] fa (PySem.W.fnOf "law" "law" (defArgs s_law) (defBody s_law) (defScope s_law) .none kV35 dc35 pm35 an35 cd35 ct35) := ⟨F35, PySem.W.mg_of X G a35, F35.binds (ps := ["script"]) fun _ _ _ _ _ _ us hl => match us, hl with | [_], _ => rfl⟩
  refine ⟨PySem.W.fnOf "law" "law" (defArgs s_law) (defBody s_law) (defScope s_law) .none kV35 dc35 pm35 an35 cd35 ct35, fun s v => .of_eq rfl, fun base _ _ => ?_⟩
  have G_is_integer := ok_is_integer (P := l.prog) (w := w) (base := base) D_is_integer  M Cc
  have G_check_like_signs := ok_check_like_signs (P := l.prog) (w := w) (base := base) D_check_like_signs  M Cc
  have G_count_words := ok_count_words (P := l.prog) (w := w) (base := base) D_count_words  M Cc
  have G_last_matters := ok_last_matters (P := l.prog) (w := w) (base := base) D_last_matters  M Cc
  have G_sums_behind_zeros := ok_sums_behind_zeros (P := l.prog) (w := w) (base := base) D_sums_behind_zeros  M Cc
  have G_values_at_span := ok_values_at_span (P := l.prog) (w := w) (base := base) D_values_at_span  M Cc
  have G__law_tap := ok__law_tap (P := l.prog) (w := w) (base := base) D__law_tap  M Cc
  have G__law_draw := ok__law_draw (P := l.prog) (w := w) (base := base) D__law_draw  M Cc
  have G__law_cells := ok__law_cells (P := l.prog) (w := w) (base := base) D__law_cells  M Cc
  have G__law_many := ok__law_many (P := l.prog) (w := w) (base := base) D__law_many  M Cc
  have G__law_number := ok__law_number (P := l.prog) (w := w) (base := base) D__law_number  M Cc
  have G__law_word := ok__law_word (P := l.prog) (w := w) (base := base) D__law_word  M Cc
  have G__law_same := ok__law_same (P := l.prog) (w := w) (base := base) D__law_same  M Cc
  have G__law_uneven := ok__law_uneven (P := l.prog) (w := w) (base := base) D__law_uneven  M Cc
  have G__law_common := ok__law_common (P := l.prog) (w := w) (base := base) D__law_common  M Cc
  have G_is_sign_count := ok_is_sign_count (P := l.prog) (w := w) (base := base) D_is_sign_count D_is_integer G_is_integer M Cc
  have G_is_integer_list := ok_is_integer_list (P := l.prog) (w := w) (base := base) D_is_integer_list D_is_integer G_is_integer M Cc
  have G_check_total := ok_check_total (P := l.prog) (w := w) (base := base) D_check_total D_is_integer G_is_integer M Cc
  have G__law_ring := ok__law_ring (P := l.prog) (w := w) (base := base) D__law_ring D__law_draw G__law_draw M Cc
  have G__law_widest := ok__law_widest (P := l.prog) (w := w) (base := base) D__law_widest D__law_many G__law_many M Cc
  have G__law_sum := ok__law_sum (P := l.prog) (w := w) (base := base) D__law_sum D__law_number G__law_number M Cc
  have G__law_added := ok__law_added (P := l.prog) (w := w) (base := base) D__law_added D__law_many G__law_many M Cc
  have G_is_weight := ok_is_weight (P := l.prog) (w := w) (base := base) D_is_weight D_is_integer G_is_integer D_count_words G_count_words D_is_sign_count G_is_sign_count D_is_integer_list G_is_integer_list M Cc
  have G__law_weight := ok__law_weight (P := l.prog) (w := w) (base := base) D__law_weight D__law_draw G__law_draw D__law_many G__law_many D__law_widest G__law_widest M Cc
  have G__law_by_rings := ok__law_by_rings (P := l.prog) (w := w) (base := base) D__law_by_rings D__law_many G__law_many D__law_word G__law_word D__law_common G__law_common D__law_sum G__law_sum M Cc
  have G_check_weight := ok_check_weight (P := l.prog) (w := w) (base := base) D_check_weight D_is_weight G_is_weight M Cc
  have G_plain := ok_plain (P := l.prog) (w := w) (base := base) D_plain D_last_matters G_last_matters D_sums_behind_zeros G_sums_behind_zeros D_check_weight G_check_weight M Cc
  have G_added := ok_added (P := l.prog) (w := w) (base := base) D_added D_check_like_signs G_check_like_signs D_values_at_span G_values_at_span D_check_total G_check_total D_check_weight G_check_weight M Cc
  have G_divisor := ok_divisor (P := l.prog) (w := w) (base := base) D_divisor D_plain G_plain M Cc
  have G__law_added_right := ok__law_added_right (P := l.prog) (w := w) (base := base) D__law_added_right D__law_same G__law_same D__law_ring G__law_ring D__law_sum G__law_sum D__law_added G__law_added D_added G_added M Cc
  have G__law_height := ok__law_height (P := l.prog) (w := w) (base := base) D__law_height  M Cc
  have G__law_plain := ok__law_plain (P := l.prog) (w := w) (base := base) D__law_plain D__law_many G__law_many D__law_uneven G__law_uneven D__law_height G__law_height M Cc
  have G__law_divisor_right := ok__law_divisor_right (P := l.prog) (w := w) (base := base) D__law_divisor_right D__law_draw G__law_draw D__law_many G__law_many D__law_same G__law_same D__law_common G__law_common D__law_by_rings G__law_by_rings D_divisor G_divisor D__law_plain G__law_plain M Cc
  have G__law_right := ok__law_right (P := l.prog) (w := w) (base := base) D__law_right D__law_draw G__law_draw D__law_weight G__law_weight D__law_added_right G__law_added_right D__law_divisor_right G__law_divisor_right M Cc
  have G_law := ok_law (P := l.prog) (w := w) (base := base) D_law D__law_tap G__law_tap D__law_draw G__law_draw D__law_cells G__law_cells D__law_weight G__law_weight D_divisor G_divisor D__law_added_right G__law_added_right D__law_divisor_right G__law_divisor_right D__law_right G__law_right M Cc
  exact G_law
end Cf
open PySem PySem.W PyProof.Rows
set_option maxHeartbeats 0 in
theorem PySem.Challenge.cw_cellflows_k08_weights_added_and_divisors_holds : PySem.Challenge.rw_cellflows_k08_weights_added_and_divisors.Holds := by
  w_on; o_law; k_head; (case hw => w_witness2)
  k_fill
  refine Cf.walk_G (l := PySem.Challenge.rw_cellflows_k08_weights_added_and_divisors) (k := 15) (x := "script") rfl (by decide) ⟨rfl, by decide, by decide⟩ (fun w h Y => PySem.W.kIn_of Y) ?F
  case F =>
    intro w mg fa h KX G hmg
    refine' Cf.all_mk KX G hmg ?a1 ?l1 ?c1 ?k1 ?a2 ?l2 ?c2 ?k2 ?a3 ?l3 ?c3 ?k3 ?a4 ?l4 ?c4 ?k4 ?a5 ?l5 ?c5 ?k5 ?a6 ?l6 ?c6 ?k6 ?a7 ?l7 ?c7 ?k7 ?a8 ?l8 ?c8 ?k8 ?a9 ?l9 ?c9 ?k9 ?a10 ?l10 ?c10 ?k10 ?a11 ?l11 ?c11 ?k11 ?a12 ?l12 ?c12 ?k12 ?a13 ?l13 ?c13 ?k13 ?a14 ?l14 ?c14 ?k14 ?a15 ?l15 ?c15 ?k15 ?a16 ?l16 ?c16 ?k16 ?a17 ?l17 ?c17 ?k17 ?a18 ?l18 ?c18 ?k18 ?a19 ?l19 ?c19 ?k19 ?a20 ?l20 ?c20 ?k20 ?a21 ?l21 ?c21 ?k21 ?a22 ?l22 ?c22 ?k22 ?a23 ?l23 ?c23 ?k23 ?a24 ?l24 ?c24 ?k24 ?a25 ?l25 ?c25 ?k25 ?a26 ?l26 ?c26 ?k26 ?a27 ?l27 ?c27 ?k27 ?a28 ?l28 ?c28 ?k28 ?a29 ?l29 ?c29 ?k29 ?a30 ?l30 ?c30 ?k30 ?a31 ?l31 ?c31 ?k31 ?a32 ?l32 ?c32 ?k32 ?a33 ?l33 ?c33 ?k33 ?a34 ?l34 ?c34 ?k34 ?a35 ?l35 ?c35 ?k35 ?z_abs ?z_all ?z_any ?z_bool ?z_enumerate ?z_gcd ?z_int ?z_isinstance ?z_len ?z_list ?z_max ?z_min ?z_range ?z_repr ?z_sum ?z_tuple ?z_type ?z_zip ?y_WORD_LIMIT
    (case a1 => k_is)
    (case l1 => k_is)
    (case c1 => k_is)
    (case k1 => k_is)
    (case a2 => k_is)
    (case l2 => k_is)
    (case c2 => k_is)
    (case k2 => k_is)
    (case a3 => k_is)
    (case l3 => k_is)
    (case c3 => k_is)
    (case k3 => k_is)
    (case a4 => k_is)
    (case l4 => k_is)
    (case c4 => k_is)
    (case k4 => k_is)
    (case a5 => k_is)
    (case l5 => k_is)
    (case c5 => k_is)
    (case k5 => k_is)
    (case a6 => k_is)
    (case l6 => k_is)
    (case c6 => k_is)
    (case k6 => k_is)
    (case a7 => k_is)
    (case l7 => k_is)
    (case c7 => k_is)
    (case k7 => k_is)
    (case a8 => k_is)
    (case l8 => k_is)
    (case c8 => k_is)
    (case k8 => k_is)
    (case a9 => k_is)
    (case l9 => k_is)
    (case c9 => k_is)
    (case k9 => k_is)
    (case a10 => k_is)
    (case l10 => k_is)
    (case c10 => k_is)
    (case k10 => k_is)
    (case a11 => k_is)
    (case l11 => k_is)
    (case c11 => k_is)
    (case k11 => k_is)
    (case a12 => k_is)
    (case l12 => k_is)
    (case c12 => k_is)
    (case k12 => k_is)
    (case a13 => k_is)
    (case l13 => k_is)
    (case c13 => k_is)
    (case k13 => k_is)
    (case a14 => k_is)
    (case l14 => k_is)
    (case c14 => k_is)
    (case k14 => k_is)
    (case a15 => k_is)
    (case l15 => k_is)
    (case c15 => k_is)
    (case k15 => k_is)
    (case a16 => k_is)
    (case l16 => k_is)
    (case c16 => k_is)
    (case k16 => k_is)
    (case a17 => k_is)
    (case l17 => k_is)
    (case c17 => k_is)
    (case k17 => k_is)
    (case a18 => k_is)
    (case l18 => k_is)
    (case c18 => k_is)
    (case k18 => k_is)
    (case a19 => k_is)
    (case l19 => k_is)
    (case c19 => k_is)
    (case k19 => k_is)
    (case a20 => k_is)
    (case l20 => k_is)
    (case c20 => k_is)
    (case k20 => k_is)
    (case a21 => k_is)
    (case l21 => k_is)
    (case c21 => k_is)
    (case k21 => k_is)
    (case a22 => k_is)
    (case l22 => k_is)
    (case c22 => k_is)
    (case k22 => k_is)
    (case a23 => k_is)
    (case l23 => k_is)
    (case c23 => k_is)
    (case k23 => k_is)
    (case a24 => k_is)
    (case l24 => k_is)
    (case c24 => k_is)
    (case k24 => k_is)
    (case a25 => k_is)
    (case l25 => k_is)
    (case c25 => k_is)
    (case k25 => k_is)
    (case a26 => k_is)
    (case l26 => k_is)
    (case c26 => k_is)
    (case k26 => k_is)
    (case a27 => k_is)
    (case l27 => k_is)
    (case c27 => k_is)
    (case k27 => k_is)
    (case a28 => k_is)
    (case l28 => k_is)
    (case c28 => k_is)
    (case k28 => k_is)
    (case a29 => k_is)
    (case l29 => k_is)
    (case c29 => k_is)
    (case k29 => k_is)
    (case a30 => k_is)
    (case l30 => k_is)
    (case c30 => k_is)
    (case k30 => k_is)
    (case a31 => k_is)
    (case l31 => k_is)
    (case c31 => k_is)
    (case k31 => k_is)
    (case a32 => k_is)
    (case l32 => k_is)
    (case c32 => k_is)
    (case k32 => k_is)
    (case a33 => k_is)
    (case l33 => k_is)
    (case c33 => k_is)
    (case k33 => k_is)
    (case a34 => k_is)
    (case l34 => k_is)
    (case c34 => k_is)
    (case k34 => k_is)
    (case a35 => k_is)
    (case l35 => k_is)
    (case c35 => k_is)
    (case k35 => k_is)
    (case z_abs => k_is)
    (case z_all => k_is)
    (case z_any => k_is)
    (case z_bool => k_is)
    (case z_enumerate => k_is)
    (case z_gcd => k_is)
    (case z_int => k_is)
    (case z_isinstance => k_is)
    (case z_len => k_is)
    (case z_list => k_is)
    (case z_max => k_is)
    (case z_min => k_is)
    (case z_range => k_is)
    (case z_repr => k_is)
    (case z_sum => k_is)
    (case z_tuple => k_is)
    (case z_type => k_is)
    (case z_zip => k_is)
    (case y_WORD_LIMIT => k_is)
