import PyProof.Rows.All
import Wide.All
import OpenK.AllK
import Wide.FinOn
import HandS.ForMost
import HandS.Evl
import HandS.Walk
import HandS.IsInst
import HandS.Wide
import HandS.Conv
import HandS.More
import HandS.Style
import HandS.TupLe
import HandS.Flow
import HandS.Exc
import HandS.TryOnly
import HandS.ExcOwn
import HandS.RaiseMore
import HandS.Gcd
import KE.DataEq
import PyProof.LongRange
import KE.KDictZip
import KE.KStar
import HandS.Star
import KE.DataMinMax
import KE.KDictDisplayH
import HandS.Codes
import HandS.Text
import HandS.CallLocal
import HandS.FStr
import KE.GoesMore
import PySem.Challenge.RW_cellflows_k50_texts_of_rules_and_rings
set_option Elab.async false
set_option linter.all false
set_option maxRecDepth 100000
set_option maxHeartbeats 4000000
/-! data over the abstract heap: Dq; the state of a def's body: At; judgements DE, DT, DA, DS over data alone -/
namespace Cf
open PySem PySem.Spec PyProof.Rows L2
open Evl (Ex)

mutual
inductive Dq (K : PySem.W.Frag) (F : Hp) : PyData → V → Prop
  | non : Dq K F .none .non
  | bl (b : Bool) : Dq K F (.bool b) (.bl b)
  | int (i : Int) : Dq K F (.int i) (.int i)
  | str (x : Str) : Dq K F (.str x) (.str x)
  | lst {a : Addr} {xs : List V} {ds : List PyData} : SqL K F a xs → Dqs K F ds xs → Dq K F (.list ds) (.ref a)
  | tup {a : Addr} {xs : List V} {ds : List PyData} : SqT K F a xs → Dqs K F ds xs → Dq K F (.tuple ds) (.ref a)
  | emp {a : Addr} : F a = some (.dK []) → Dq K F (.dict []) (.ref a)
  | one {a : Addr} {k n : Int} : F a = some (.dK [(.inl k, .int n)]) → Dq K F (.dict [(.int k, .int n)]) (.ref a)
inductive Dqs (K : PySem.W.Frag) (F : Hp) : List PyData → List V → Prop
  | nil : Dqs K F [] []
  | cons {v : V} {vs : List V} {d : PyData} {ds : List PyData} : Dq K F d v → Dqs K F ds vs → Dqs K F (d :: ds) (v :: vs)
end
section
variable {K : PySem.W.Frag} {F F' : Hp}
mutual
theorem Dq.mono (e : Ex F F') : ∀ (d : PyData) (v : V), Dq K F d v → Dq K F' d v
  | .none, _, .non => .non
  | .bool _, _, .bl b => .bl b
  | .int _, _, .int i => .int i
  | .str _, _, .str x => .str x
  | .list ds, _, .lst h1 h2 => .lst (Evl.ex_l e h1) (Dqs.mono e ds _ h2)
  | .tuple ds, _, .tup h1 h2 => .tup (Evl.ex_t e h1) (Dqs.mono e ds _ h2)
  | .dict _, _, .emp h => .emp (e _ _ h)
  | .dict _, _, .one h => .one (e _ _ h)
theorem Dqs.mono (e : Ex F F') : ∀ (ds : List PyData) (vs : List V), Dqs K F ds vs → Dqs K F' ds vs
  | [], _, .nil => .nil
  | d :: ds, _, .cons h1 h2 => .cons (Dq.mono e d _ h1) (Dqs.mono e ds _ h2)
end
theorem Dq.up (e : Ex F F') {d : PyData} {v : V} (h : Dq K F d v) : Dq K F' d v := Dq.mono e d v h
theorem Dqs.up (e : Ex F F') {ds : List PyData} {vs : List V} (h : Dqs K F ds vs) : Dqs K F' ds vs := Dqs.mono e ds vs h
theorem Dqs.len : ∀ {ds : List PyData} {vs : List V}, Dqs K F ds vs → vs.length = ds.length
  | [], _, .nil => rfl
  | _ :: _, _, .cons _ h => congrArg (· + 1) (Dqs.len h)
theorem Dqs.get : ∀ {ds : List PyData} {vs : List V} {i : Nat} {v : V}, Dqs K F ds vs → vs[i]? = some v → ∃ d, ds[i]? = some d ∧ Dq K F d v
  | [], _, i, v, .nil, h => by simp at h
  | d :: _, _, 0, v, .cons h1 _, h => ⟨d, rfl, by cases h; exact h1⟩
  | _ :: ds, _, i + 1, v, .cons _ h2, h => Dqs.get (i := i) h2 (by simpa using h)
theorem Dqs.at : ∀ {ds : List PyData} {vs : List V} {i : Nat} {d : PyData}, Dqs K F ds vs → ds[i]? = some d → ∃ v, vs[i]? = some v ∧ Dq K F d v
  | [], _, i, d, .nil, h => by simp at h
  | d' :: _, v :: _, 0, d, .cons h1 _, h => ⟨v, rfl, by cases h; exact h1⟩
  | _ :: ds, _ :: vs, i + 1, d, .cons _ h2, h => Dqs.at (i := i) h2 (by simpa using h)
theorem Dqs.app : ∀ {ds es : List PyData} {vs ws : List V}, Dqs K F ds vs → Dqs K F es ws → Dqs K F (ds ++ es) (vs ++ ws)
  | [], _, _, _, .nil, h => h
  | _ :: _, _, _, _, .cons h1 h2, h => .cons h1 (Dqs.app h2 h)
theorem Dqs.drop : ∀ {ds : List PyData} {vs : List V} (n : Nat), Dqs K F ds vs → Dqs K F (ds.drop n) (vs.drop n)
  | _, _, 0, h => h
  | [], _, _ + 1, .nil => .nil
  | _ :: _, _, n + 1, .cons _ h => Dqs.drop n h
theorem Dqs.take : ∀ {ds : List PyData} {vs : List V} (n : Nat), Dqs K F ds vs → Dqs K F (ds.take n) (vs.take n)
  | _, _, 0, _ => .nil
  | [], _, _ + 1, .nil => .nil
  | _ :: _, _, n + 1, .cons h1 h => .cons h1 (Dqs.take n h)
theorem Dqs.set : ∀ {ds : List PyData} {vs : List V} {d : PyData} {v : V} (n : Nat), Dqs K F ds vs → Dq K F d v → Dqs K F (ds.set n d) (vs.set n v)
  | [], _, _, _, _, .nil, _ => .nil
  | _ :: _, _, _, _, 0, .cons _ h, q => .cons q h
  | _ :: _, _, _, _, n + 1, .cons h1 h, q => .cons h1 (Dqs.set n h q)
theorem Dqs.ints : ∀ {ns : List Int} {vs : List V}, Dqs K F (ns.map .int) vs → vs = ns.map V.int
  | [], _, .nil => rfl
  | _ :: ns, _, .cons h1 h2 => by
    cases h1
    rw [Dqs.ints (ns := ns) h2]
    rfl
theorem Dqs.ofInts : ∀ {ns : List Int}, Dqs K F (ns.map .int) (ns.map V.int)
  | [] => .nil
  | n :: ns => .cons (.int n) Dqs.ofInts
theorem Dqs.bls : ∀ {ns : List Bool} {vs : List V}, Dqs K F (ns.map .bool) vs → vs = ns.map V.bl
  | [], _, .nil => rfl
  | _ :: ns, _, .cons h1 h2 => by
    cases h1
    rw [Dqs.bls (ns := ns) h2]
    rfl
end

/-! ### growth of the frozen part F and the heap H; t: the list of draws -/
structure Tap (x y z : Int) : Prop where
  x0 : 0 ≤ x
  y0 : 0 ≤ y
  y1 : y < 2 ^ 40
  z0 : 0 ≤ z
  z1 : z < 2 ^ 40
def TpOk (t : Option Addr) (F H : Hp) : Prop := ∀ a, t = some a → F a = none ∧ ∃ x y z, H a = some (.lst [.int x, .int y, .int z]) ∧ Tap x y z
structure Gr (t : Option Addr) (F0 H0 F H : Hp) : Prop where
  ff : Ex F0 F
  hh : ∀ a o, t ≠ some a → H0 a = some o → H a = some o
  fh : Ex F H
  nw : ∀ a o, F a = some o → F0 a = none → H0 a = none
section
variable {t : Option Addr} {F0 H0 F H F' H' : Hp}
theorem Gr.refl (h : Ex F H) : Gr t F H F H := ⟨Ex.refl F, fun _ _ _ h => h, h, fun a o h1 h2 => by rw [h2] at h1; cases h1⟩
theorem none_back {H H' : Hp} {a : Addr} (h : ∀ o, H a = some o → H' a = some o) (n : H' a = none) : H a = none := by
  cases e : H a with
  | none => rfl
  | some o =>
    rw [h o e] at n
    cases n
theorem Gr.trans (g : Gr t F0 H0 F H) (g' : Gr t F H F' H') (ht : ∀ a, t = some a → F' a = none) : Gr t F0 H0 F' H' :=
  ⟨g.ff.trans g'.ff, fun a o n h => g'.hh a o n (g.hh a o n h), g'.fh, fun a o h1 h2 => by
    cases e : F a with
    | some u => exact g.nw a u e h2
    | none =>
      have nt : t ≠ some a := fun z => by
        rw [ht a z] at h1
        cases h1
      exact none_back (fun o q => g.hh a o nt q) (g'.nw a o h1 e)⟩
/-- nothing but fresh objects come: from a callee without draws -/
theorem Gr.any (g : Gr none F H F' H') : Gr t F H F' H' := ⟨g.ff, fun a o _ h => g.hh a o (by simp) h, g.fh, g.nw⟩
end

/-! ### slots -/
/-- the entries of a dict: keys, data -/
inductive Dkv {κ : Type} (K : PySem.W.Frag) (F : Hp) : List (κ × PyData) → List (κ × V) → Prop
  | nil : Dkv K F [] []
  | cons {k : κ} {d : PyData} {v : V} {kvs : List (κ × PyData)} {xs : List (κ × V)} : Dq K F d v → Dkv K F kvs xs → Dkv K F ((k, d) :: kvs) ((k, v) :: xs)
theorem Dkv.up {κ : Type} {K : PySem.W.Frag} {F F' : Hp} (e : Ex F F') : ∀ {kvs : List (κ × PyData)} {xs : List (κ × V)}, Dkv K F kvs xs → Dkv K F' kvs xs
  | [], _, .nil => .nil
  | _ :: _, _, .cons h1 h2 => .cons (h1.up e) (h2.up e)
inductive Sl where
  | no
  | sh (d : PyData)
  | ow (ds : List PyData)
  | tp
  | vl (v : V)
  | od (d : PyData)
  | nw (d : PyData)
  | dk (p : Addr) (kvs : List (L2.Key × PyData))
  | dt (p : Addr) (kvs : List (List L2.Key × PyData))
abbrev Rho := List Sl
/-- v is, or ends with, a list that was not there at the base -/
def Nw (F0 H0 F : Hp) (d : PyData) (v : V) : Prop := ∃ p xs, F p = some (.lst xs) ∧ H0 p = none ∧ F0 p = none ∧ xs.length < 100000 ∧ (∀ ds, d = .list ds → v = .ref p) ∧ ∀ ds, d = .tuple ds → ∃ q vs, v = .ref q ∧ F q = some (.tup (vs ++ [.ref p])) ∧ vs.length + 1 = ds.length
theorem Nw.up {F0 H0 F F' : Hp} {d : PyData} {v : V} (e : Ex F F') (h : Nw F0 H0 F d v) : Nw F0 H0 F' d v := by
  obtain ⟨p, xs, h1, h2, h3, h4, h5, h6⟩ := h
  refine ⟨p, xs, e _ _ h1, h2, h3, h4, h5, fun ds hd => ?_⟩
  obtain ⟨q, vs, a, b, c⟩ := h6 ds hd
  exact ⟨q, vs, a, e _ _ b, c⟩
def SlOk (K : PySem.W.Frag) (t : Option Addr) (F0 H0 F H : Hp) (o : Option V) : Sl → Prop
  | .no => True
  | .sh d => ∃ v, o = some v ∧ Dq K F d v
  | .ow ds => ∃ p xs, o = some (.ref p) ∧ H p = some (.lst xs) ∧ F p = none ∧ H0 p = none ∧ t ≠ some p ∧ Dqs K F ds xs
  | .tp => ∃ a, t = some a ∧ o = some (.ref a)
  | .vl v => o = some v
  | .od d => ∃ v, o = some v ∧ Dq K F0 d v
  | .nw d => ∃ v, o = some v ∧ Dq K F d v ∧ Nw F0 H0 F d v
  | .dk p kvs => o = some (.ref p) ∧ (∃ xs, H p = some (.dK xs) ∧ Dkv K F kvs xs) ∧ F p = none ∧ H0 p = none ∧ t ≠ some p
  | .dt p kvs => o = some (.ref p) ∧ (∃ xs, H p = some (.dT xs) ∧ Dkv K F kvs xs) ∧ F p = none ∧ H0 p = none ∧ t ≠ some p
structure At (K : PySem.W.Frag) (t : Option Addr) (F0 H0 F H : Hp) (σ : L2.St) (ρ : Rho) : Prop where
  gr : Gr t F0 H0 F H
  len : σ.length = ρ.length
  sl : ∀ (i : Nat) (o : Option V) (s : Sl), σ[i]? = some o → ρ[i]? = some s → SlOk K t F0 H0 F H o s
  ap : ∀ (i j : Nat) (p : Addr) (ds es : List PyData), i ≠ j → ρ[i]? = some (.ow ds) → ρ[j]? = some (.ow es) → σ[i]? = some (some (.ref p)) → σ[j]? ≠ some (some (.ref p))
  tp : TpOk t F H

section
variable {K : PySem.W.Frag} {t : Option Addr} {F0 H0 F H F' H' : Hp} {σ : L2.St} {ρ : Rho} {i : Nat} {d : PyData} {v : V}
theorem At.slot (A : At K t F0 H0 F H σ ρ) {s : Sl} (h : ρ[i]? = some s) : ∃ o, σ[i]? = some o ∧ SlOk K t F0 H0 F H o s := by
  have hi : i < σ.length := by
    rw [A.len]
    exact (List.getElem?_eq_some_iff.mp h).1
  exact ⟨σ[i], List.getElem?_eq_getElem hi, A.sl i _ s (List.getElem?_eq_getElem hi) h⟩
theorem At.var (A : At K t F0 H0 F H σ ρ) (h : ρ[i]? = some (.sh d)) : ∃ v, σ[i]? = some (some v) ∧ Dq K F d v := by
  obtain ⟨o, e, v, rfl, q⟩ := A.slot h
  exact ⟨v, e, q⟩
theorem At.own (A : At K t F0 H0 F H σ ρ) {ds : List PyData} (h : ρ[i]? = some (.ow ds)) :
    ∃ p xs, σ[i]? = some (some (.ref p)) ∧ H p = some (.lst xs) ∧ F p = none ∧ H0 p = none ∧ t ≠ some p ∧ Dqs K F ds xs := by
  obtain ⟨o, e, p, xs, rfl, q⟩ := A.slot h
  exact ⟨p, xs, e, q⟩
/-- the heaps grow, the slots stay -/
theorem At.grow (A : At K t F0 H0 F H σ ρ) (g : Gr t F H F' H') (ht : TpOk t F' H') : At K t F0 H0 F' H' σ ρ where
  gr := A.gr.trans g fun a e => (ht a e).1
  len := A.len
  sl := fun i o s h1 h2 => by
    have q := A.sl i o s h1 h2
    cases s with
    | no => trivial
    | sh d =>
      obtain ⟨v, e, h⟩ := q
      exact ⟨v, e, h.up g.ff⟩
    | ow ds =>
      obtain ⟨p, xs, e, h1, h2, h3, h4, h5⟩ := q
      refine ⟨p, xs, e, g.hh p _ h4 h1, ?_, h3, h4, h5.up g.ff⟩
      cases e' : F' p with
      | none => rfl
      | some o =>
        have z := g.nw p o e' h2
        rw [h1] at z
        cases z
    | tp => exact q
    | vl v => exact q
    | od d => exact q
    | nw d =>
      obtain ⟨v, e, h, n⟩ := q
      exact ⟨v, e, h.up g.ff, n.up g.ff⟩
    | dk p kvs =>
      obtain ⟨e, ⟨xs, h1, hq⟩, h2, h3, h4⟩ := q
      refine ⟨e, ⟨xs, g.hh p _ h4 h1, hq.up g.ff⟩, ?_, h3, h4⟩
      cases e' : F' p with
      | none => rfl
      | some o =>
        have z := g.nw p o e' h2
        rw [h1] at z
        cases z
    | dt p kvs =>
      obtain ⟨e, ⟨xs, h1, hq⟩, h2, h3, h4⟩ := q
      refine ⟨e, ⟨xs, g.hh p _ h4 h1, hq.up g.ff⟩, ?_, h3, h4⟩
      cases e' : F' p with
      | none => rfl
      | some o =>
        have z := g.nw p o e' h2
        rw [h1] at z
        cases z
  ap := A.ap
  tp := ht
/-- what a pure callee leaves -/
theorem At.call (A : At K t F0 H0 F H σ ρ) (g : Gr none F H F' H') : At K t F0 H0 F' H' σ ρ := by
  refine A.grow g.any fun a e => ?_
  obtain ⟨h1, x, y, z, h2, h3⟩ := A.tp a e
  refine ⟨?_, x, y, z, g.hh a _ (by simp) h2, h3⟩
  cases e' : F' a with
  | none => rfl
  | some o =>
    have q := g.nw a o e' h1
    rw [h2] at q
    cases q
/-- a new frozen object -/
theorem Gr.new (h : Ex F H) {p : Addr} {o : HO} (n : H p = none) : Gr none F H (upd F p o) (upd H p o) where
  ff := Ex.new (by
    cases e : F p with
    | none => rfl
    | some u =>
      rw [h p u e] at n
      cases n)
  hh := fun a u _ q => Ex.new n a u q
  fh := fun a u q => by
    by_cases e : a = p
    · subst e
      rw [upd_same] at q ⊢
      exact q
    · rw [upd_ne e] at q ⊢
      exact h a u q
  nw := fun a u q f => by
    by_cases e : a = p
    · rw [e]
      exact n
    · rw [upd_ne e, f] at q
      cases q
/-- a new object that is not frozen -/
theorem Gr.free (h : Ex F H) {p : Addr} {o : HO} (n : H p = none) : Gr none F H F (upd H p o) where
  ff := Ex.refl F
  hh := fun a u _ q => Ex.new n a u q
  fh := h.trans (Ex.new n)
  nw := fun a u q f => by
    rw [f] at q
    cases q
theorem At.fh (A : At K t F0 H0 F H σ ρ) : Ex F H := A.gr.fh
/-- a slot is given another value -/
theorem At.set (A : At K t F0 H0 F H σ ρ) {s : Sl} {o : Option V} (h : SlOk K t F0 H0 F H o s) (hn : ∀ ds, s ≠ .ow ds) : At K t F0 H0 F H (σ.set i o) (ρ.set i s) where
  gr := A.gr
  len := by rw [List.length_set, List.length_set, A.len]
  sl := fun j o' s' h1 h2 => by
    by_cases e : i = j
    · subst e
      have hi : i < σ.length := by
        have := (List.getElem?_eq_some_iff.mp h1).1
        rwa [List.length_set] at this
      rw [List.getElem?_set_self hi] at h1
      rw [List.getElem?_set_self (by rw [← A.len]; exact hi)] at h2
      cases h1
      cases h2
      exact h
    · rw [List.getElem?_set_ne e] at h1 h2
      exact A.sl j o' s' h1 h2
  ap := fun a b p ds es n h1 h2 h3 => by
    have ha : i ≠ a := fun e => by
      subst e
      have hi := (List.getElem?_eq_some_iff.mp h1).1
      rw [List.length_set] at hi
      rw [List.getElem?_set_self hi] at h1
      cases h1
      exact hn ds rfl
    have hb : i ≠ b := fun e => by
      subst e
      have hi := (List.getElem?_eq_some_iff.mp h2).1
      rw [List.length_set] at hi
      rw [List.getElem?_set_self hi] at h2
      cases h2
      exact hn es rfl
    rw [List.getElem?_set_ne ha] at h1 h3
    rw [List.getElem?_set_ne hb] at h2 ⊢
    exact A.ap a b p ds es n h1 h2 h3
  tp := A.tp
/-- a slot is given a list of its own -/
theorem At.setOw (A : At K t F0 H0 F H σ ρ) {p : Addr} {ds : List PyData} (h : SlOk K t F0 H0 F H (some (.ref p)) (.ow ds)) (hn : ∀ (j : Nat) (es : List PyData), i ≠ j → ρ[j]? = some (.ow es) → σ[j]? ≠ some (some (.ref p))) :
    At K t F0 H0 F H (σ.set i (some (.ref p))) (ρ.set i (.ow ds)) where
  gr := A.gr
  len := by rw [List.length_set, List.length_set, A.len]
  sl := fun j o' s' h1 h2 => by
    by_cases e : i = j
    · subst e
      have hi : i < σ.length := by
        have := (List.getElem?_eq_some_iff.mp h1).1
        rwa [List.length_set] at this
      rw [List.getElem?_set_self hi] at h1
      rw [List.getElem?_set_self (by rw [← A.len]; exact hi)] at h2
      cases h1
      cases h2
      exact h
    · rw [List.getElem?_set_ne e] at h1 h2
      exact A.sl j o' s' h1 h2
  ap := fun a b q ds' es n h1 h2 h3 => by
    by_cases ha : i = a
    · subst ha
      have hi : i < σ.length := by
        have := (List.getElem?_eq_some_iff.mp h3).1
        rwa [List.length_set] at this
      rw [List.getElem?_set_self hi] at h3
      cases h3
      rw [List.getElem?_set_ne n] at h2 ⊢
      exact hn b es n h2
    · rw [List.getElem?_set_ne ha] at h1 h3
      by_cases hb : i = b
      · subst hb
        intro h4
        have hi : i < σ.length := by
          have := (List.getElem?_eq_some_iff.mp h4).1
          rwa [List.length_set] at this
        rw [List.getElem?_set_self hi] at h4
        cases h4
        exact hn a ds' (fun e => ha e) h1 h3
      · rw [List.getElem?_set_ne hb] at h2 ⊢
        exact A.ap a b q ds' es n h1 h2 h3
  tp := A.tp
/-- an owned list is changed -/
theorem At.put (A : At K t F0 H0 F H σ ρ) {p : Addr} {ds es : List PyData} {ys : List V} (h : ρ[i]? = some (.ow ds)) (hp : σ[i]? = some (some (.ref p))) (hy : Dqs K F es ys) :
    At K t F0 H0 F (upd H p (.lst ys)) σ (ρ.set i (.ow es)) := by
  obtain ⟨p', xs, e, h1, h2, h3, h4, h5⟩ := A.own h
  rw [hp] at e
  cases e
  refine ⟨⟨A.gr.ff, fun a o n q => ?_, fun a o q => ?_, A.gr.nw⟩, ?_, fun j o s q1 q2 => ?_, fun a b q ds' es' n q1 q2 q3 => ?_, fun a q => ?_⟩
  · rw [upd_ne (fun z => by rw [z, h3] at q; cases q)]
    exact A.gr.hh a o n q
  · rw [upd_ne (fun z => by rw [z, h2] at q; cases q)]
    exact A.fh a o q
  · rw [List.length_set]
    exact A.len
  · by_cases z : i = j
    · subst z
      have hi : i < ρ.length := (List.getElem?_eq_some_iff.mp h).1
      rw [List.getElem?_set_self hi] at q2
      cases q2
      rw [hp] at q1
      cases q1
      exact ⟨p, ys, rfl, upd_same, h2, h3, h4, hy⟩
    · rw [List.getElem?_set_ne z] at q2
      have w := A.sl j o s q1 q2
      cases s with
      | no => trivial
      | sh d => exact w
      | ow fs =>
        obtain ⟨r, zs, e, w1, w2⟩ := w
        subst e
        refine ⟨r, zs, rfl, ?_, w2⟩
        rw [upd_ne (fun y => A.ap i j p ds fs z h q2 hp (by rw [q1, y]))]
        exact w1
      | tp => exact w
      | vl v => exact w
      | od d => exact w
      | nw d => exact w
      | dk r kvs =>
        obtain ⟨e, ⟨zs, w1, wq⟩, w2⟩ := w
        exact ⟨e, ⟨zs, by rw [upd_ne (fun y => by rw [y, h1] at w1; cases w1)]; exact w1, wq⟩, w2⟩
      | dt r kvs =>
        obtain ⟨e, ⟨zs, w1, wq⟩, w2⟩ := w
        exact ⟨e, ⟨zs, by rw [upd_ne (fun y => by rw [y, h1] at w1; cases w1)]; exact w1, wq⟩, w2⟩
  · have ow : ∀ (c : Nat) (fs : List PyData), (ρ.set i (Sl.ow es))[c]? = some (Sl.ow fs) → ∃ gs, ρ[c]? = some (Sl.ow gs) := fun c fs z => by
      by_cases y : i = c
      · subst y
        exact ⟨ds, h⟩
      · rw [List.getElem?_set_ne y] at z
        exact ⟨fs, z⟩
    obtain ⟨g1, r1⟩ := ow a ds' q1
    obtain ⟨g2, r2⟩ := ow b es' q2
    exact A.ap a b q g1 g2 n r1 r2 q3
  · obtain ⟨w1, x, y, z, w2, w3⟩ := A.tp a q
    refine ⟨w1, x, y, z, ?_, w3⟩
    rw [upd_ne (fun e => h4 (by rw [q, e]))]
    exact w2
/-- an owned list is frozen -/
theorem At.freeze (A : At K t F0 H0 F H σ ρ) {ds : List PyData} (h : ρ[i]? = some (.ow ds)) : ∃ F', At K t F0 H0 F' H σ (ρ.set i (.sh (.list ds))) ∧ Ex F F' := by
  obtain ⟨p, xs, e, h1, h2, h3, h4, h5⟩ := A.own h
  have ef : Ex F (upd F p (.lst xs)) := Ex.new h2
  refine ⟨upd F p (.lst xs), ⟨⟨A.gr.ff.trans ef, A.gr.hh, fun a o q => ?_, fun a o q f => ?_⟩, ?_, fun j o s q1 q2 => ?_, fun a b q ds' es' n q1 q2 q3 => ?_, fun a q => ?_⟩, ef⟩
  · by_cases z : a = p
    · subst z
      rw [upd_same] at q
      cases q
      exact h1
    · rw [upd_ne z] at q
      exact A.fh a o q
  · by_cases z : a = p
    · subst z
      exact h3
    · rw [upd_ne z] at q
      exact A.gr.nw a o q f
  · rw [List.length_set]
    exact A.len
  · by_cases z : i = j
    · subst z
      have hi : i < ρ.length := (List.getElem?_eq_some_iff.mp h).1
      rw [List.getElem?_set_self hi] at q2
      cases q2
      rw [e] at q1
      cases q1
      exact ⟨.ref p, rfl, .lst (.inl (.inl upd_same)) (h5.up ef)⟩
    · rw [List.getElem?_set_ne z] at q2
      have w := A.sl j o s q1 q2
      cases s with
      | no => trivial
      | sh d =>
        obtain ⟨v, e', w'⟩ := w
        exact ⟨v, e', w'.up ef⟩
      | ow fs =>
        obtain ⟨r, zs, e', w1, w2, w3, w4, w5⟩ := w
        subst e'
        refine ⟨r, zs, rfl, w1, ?_, w3, w4, w5.up ef⟩
        rw [upd_ne (fun y => A.ap i j p ds fs z h q2 e (by rw [q1, y]))]
        exact w2
      | tp => exact w
      | vl v => exact w
      | od d => exact w
      | nw d =>
        obtain ⟨v, e', w', n'⟩ := w
        exact ⟨v, e', w'.up ef, n'.up ef⟩
      | dk r kvs =>
        obtain ⟨e', ⟨zs, w1, wq⟩, w2, w3⟩ := w
        exact ⟨e', ⟨zs, w1, wq.up ef⟩, by rw [upd_ne (fun y => by rw [y, h1] at w1; cases w1)]; exact w2, w3⟩
      | dt r kvs =>
        obtain ⟨e', ⟨zs, w1, wq⟩, w2, w3⟩ := w
        exact ⟨e', ⟨zs, w1, wq.up ef⟩, by rw [upd_ne (fun y => by rw [y, h1] at w1; cases w1)]; exact w2, w3⟩
  · have ow : ∀ (c : Nat) (fs : List PyData), (ρ.set i (Sl.sh (.list ds)))[c]? = some (Sl.ow fs) → ρ[c]? = some (Sl.ow fs) := fun c fs z => by
      by_cases y : i = c
      · subst y
        have hi : i < ρ.length := (List.getElem?_eq_some_iff.mp h).1
        rw [List.getElem?_set_self hi] at z
        cases z
      · rw [List.getElem?_set_ne y] at z
        exact z
    exact A.ap a b q ds' es' n (ow a ds' q1) (ow b es' q2) q3
  · obtain ⟨w1, x, y, z, w2, w3⟩ := A.tp a q
    refine ⟨?_, x, y, z, w2, w3⟩
    rw [upd_ne (fun e => h4 (by rw [q, e]))]
    exact w1
end
end Cf
namespace Cf
open PySem PySem.Spec PyProof.Rows L2
open Evl (Ex)

/-- a step of evaluation: nothing that was there changes, but the draws -/
structure Stp (t : Option Addr) (F H F' H' : Hp) : Prop where
  g : Gr t F H F' H'
  tp : TpOk t F' H'
section
variable {K : PySem.W.Frag} {t : Option Addr} {F0 H0 F H F' H' F2 H2 : Hp} {σ : L2.St} {ρ : Rho}
theorem At.step (A : At K t F0 H0 F H σ ρ) (e : Stp t F H F' H') : At K t F0 H0 F' H' σ ρ := A.grow e.g e.tp
theorem Stp.ff (e : Stp t F H F' H') : Ex F F' := e.g.ff
theorem Stp.trans (e : Stp t F H F' H') (e' : Stp t F' H' F2 H2) : Stp t F H F2 H2 := ⟨e.g.trans e'.g fun a z => (e'.tp a z).1, e'.tp⟩
theorem At.stp (A : At K t F0 H0 F H σ ρ) (g : Gr none F H F' H') : Stp t F H F' H' := ⟨g.any, (A.call g).tp⟩
theorem Stp.back (e : Stp t F H F' H') {p : Addr} (n : H' p = none) : H p = none := by
  have nt : t ≠ some p := fun z => by
    obtain ⟨_, x, y, w, h, _⟩ := e.tp p z
    rw [n] at h
    cases h
  exact none_back (fun o q => e.g.hh p o nt q) n
/-- what is new is frozen -/
theorem Stp.ice (A : At K t F0 H0 F H σ ρ) (e : Stp t F H F' H') {p : Addr} {xs : List V} {ds : List PyData} (f : H p = none) (n : F' p = none) (h : H' p = some (.lst xs)) (q : Dqs K F' ds xs) :
    Stp t F H (upd F' p (.lst xs)) H' ∧ Dq K (upd F' p (.lst xs)) (.list ds) (.ref p) := by
  have e1 : Ex F' (upd F' p (.lst xs)) := Ex.new n
  refine ⟨⟨⟨e.ff.trans e1, e.g.hh, fun a o z => ?_, fun a o z w => ?_⟩, fun a z => ?_⟩, .lst (.inl (.inl upd_same)) (q.up e1)⟩
  · by_cases y : a = p
    · subst y
      rw [upd_same] at z
      cases z
      exact h
    · rw [upd_ne y] at z
      exact e.g.fh a o z
  · by_cases y : a = p
    · rw [y]
      exact f
    · rw [upd_ne y] at z
      exact e.g.nw a o z w
  · obtain ⟨w1, x, y, u, w2, w3⟩ := e.tp a z
    refine ⟨?_, x, y, u, w2, w3⟩
    by_cases y : a = p
    · subst y
      obtain ⟨_, x, y, u, w4, _⟩ := A.tp a z
      rw [f] at w4
      cases w4
    · rw [upd_ne y]
      exact w1
theorem At.rfl (A : At K t F0 H0 F H σ ρ) : Stp t F H F H := ⟨Gr.refl A.fh, A.tp⟩
end

def DE (K : PySem.W.Frag) (t : Option Addr) (te : TE) (ρ : Rho) (Q : PyData → Prop) : Prop :=
  ∀ (F0 H0 F H : Hp) (σ : L2.St), At K t F0 H0 F H σ ρ → ∀ QK : VK, (∀ d v F' H', Q d → Stp t F H F' H' → Dq K F' d v → QK v H') → te σ H QK
/-- p is apart from what was there -/
structure Fs (t : Option Addr) (H0 : Hp) (σ : L2.St) (ρ : Rho) (p : Addr) : Prop where
  old : H0 p = none
  tap : t ≠ some p
  own : ∀ (j : Nat) (es : List PyData), ρ[j]? = some (.ow es) → σ[j]? ≠ some (some (.ref p))
theorem At.fs {K : PySem.W.Frag} {t : Option Addr} {F0 H0 F H : Hp} {σ : L2.St} {ρ : Rho} (A : At K t F0 H0 F H σ ρ) {p : Addr} (n : H p = none) : Fs t H0 σ ρ p := by
  have nt : t ≠ some p := fun e => by
    obtain ⟨_, x, y, z, h, _⟩ := A.tp p e
    rw [n] at h
    cases h
  refine ⟨none_back (fun o q => A.gr.hh p o nt q) n, nt, fun j es h e => ?_⟩
  obtain ⟨q, xs, e', h1, _⟩ := A.own h
  rw [e] at e'
  cases e'
  rw [n] at h1
  cases h1
/-- a new list, not frozen -/
def DL (K : PySem.W.Frag) (t : Option Addr) (te : TE) (ρ : Rho) (Q : List PyData → Prop) : Prop :=
  ∀ (F0 H0 F H : Hp) (σ : L2.St), At K t F0 H0 F H σ ρ → ∀ QK : VK, (∀ ds p xs F' H', Q ds → Stp t F H F' H' → H p = none → F' p = none → H' p = some (.lst xs) → Dqs K F' ds xs → QK (.ref p) H') → te σ H QK
def DA (K : PySem.W.Frag) (t : Option Addr) (ta : TA) (ρ : Rho) (Q : List PyData → Prop) : Prop :=
  ∀ (F0 H0 F H : Hp) (σ : L2.St), At K t F0 H0 F H σ ρ → ∀ QK : List V → Hp → Prop, (∀ ds vs F' H', Q ds → Stp t F H F' H' → Dqs K F' ds vs → QK vs H') → ta σ H QK
def DT (K : PySem.W.Frag) (t : Option Addr) (tt : TT) (ρ : Rho) (Q : Bool → Prop) : Prop :=
  ∀ (F0 H0 F H : Hp) (σ : L2.St), At K t F0 H0 F H σ ρ → ∀ QK : Bool → Hp → Prop, (∀ b F' H', Q b → Stp t F H F' H' → QK b H') → tt σ H QK
def DO (K : PySem.W.Frag) (t : Option Addr) (to : TO) (ρ : Rho) (Q : Option Int → Prop) : Prop :=
  ∀ (F0 H0 F H : Hp) (σ : L2.St), At K t F0 H0 F H σ ρ → ∀ QK : Option Int → Hp → Prop, (∀ b F' H', Q b → Stp t F H F' H' → QK b H') → to σ H QK
/-- operations on values, over data -/
def DR (K : PySem.W.Frag) (r : R2) (x y : PyData) (Q : PyData → Prop) : Prop :=
  ∀ (v w : V) (F H : Hp), Ex F H → Dq K F x v → Dq K F y w → ∀ QK : VK, (∀ d u F' H', Q d → Gr none F H F' H' → Dq K F' d u → QK u H') → r v w H QK
def DRL (K : PySem.W.Frag) (r : R2) (x y : PyData) (Q : List PyData → Prop) : Prop :=
  ∀ (v w : V) (F H : Hp), Ex F H → Dq K F x v → Dq K F y w → ∀ QK : VK, (∀ ds p xs F' H', Q ds → Gr none F H F' H' → H p = none → F' p = none → H' p = some (.lst xs) → Dqs K F' ds xs → QK (.ref p) H') → r v w H QK
def DU (K : PySem.W.Frag) (r : V → Hp → VK → Prop) (x : PyData) (Q : PyData → Prop) : Prop :=
  ∀ (v : V) (F H : Hp), Ex F H → Dq K F x v → ∀ QK : VK, (∀ d u F' H', Q d → Gr none F H F' H' → Dq K F' d u → QK u H') → r v H QK
def DC (K : PySem.W.Frag) (r : List V → Hp → VK → Prop) (xs : List PyData) (Q : PyData → Prop) : Prop :=
  ∀ (vs : List V) (F H : Hp), Ex F H → Dqs K F xs vs → ∀ QK : VK, (∀ d u F' H', Q d → Gr none F H F' H' → Dq K F' d u → QK u H') → r vs H QK
def DCL (K : PySem.W.Frag) (r : List V → Hp → VK → Prop) (xs : List PyData) (Q : List PyData → Prop) : Prop :=
  ∀ (vs : List V) (F H : Hp), Ex F H → Dqs K F xs vs → ∀ QK : VK, (∀ ds p ys F' H', Q ds → Gr none F H F' H' → H p = none → F' p = none → H' p = some (.lst ys) → Dqs K F' ds ys → QK (.ref p) H') → r vs H QK

/-- ranges of any size -/
def iRg1 (ta : TA) : TI := fun σ H R => ta σ H fun vs H1 => ∃ j : Int, vs = [.int j] ∧ R (Itr 0 j.toNat) H1
def iRg2 (ta : TA) : TI := fun σ H R => ta σ H fun vs H1 => ∃ i j : Int, vs = [.int i, .int j] ∧ R (Itr i (j - i).toNat) H1
theorem ex_none {F H : Hp} (e : Ex F H) {p : Addr} (h : H p = none) : F p = none := none_back (fun o q => e p o q) h
theorem dqs1 {K : PySem.W.Frag} {F : Hp} {d : PyData} {vs : List V} (h : Dqs K F [d] vs) : ∃ v, vs = [v] ∧ Dq K F d v := by
  cases h with
  | cons h1 h2 =>
    cases h2
    exact ⟨_, rfl, h1⟩
theorem dqs2 {K : PySem.W.Frag} {F : Hp} {d e : PyData} {vs : List V} (h : Dqs K F [d, e] vs) : ∃ v w, vs = [v, w] ∧ Dq K F d v ∧ Dq K F e w := by
  cases h with
  | cons h1 h2 =>
    obtain ⟨w, rfl, h3⟩ := dqs1 h2
    exact ⟨_, _, rfl, h1, h3⟩

section
variable {K : PySem.W.Frag} {t : Option Addr} {ρ : Rho} {i : Nat} {d : PyData} {te ta tb tc : TE} {Q : PyData → Prop}
theorem DE.mono {Q' : PyData → Prop} (h : DE K t te ρ Q) (m : ∀ d, Q d → Q' d) : DE K t te ρ Q' := fun F0 H0 F H σ A QK k => h F0 H0 F H σ A QK fun d v F' H' q => k d v F' H' (m d q)
theorem DT.mono {tt : TT} {Q Q' : Bool → Prop} (h : DT K t tt ρ Q) (m : ∀ d, Q d → Q' d) : DT K t tt ρ Q' := fun F0 H0 F H σ A QK k => h F0 H0 F H σ A QK fun d F' H' q => k d F' H' (m d q)
theorem DL.mono {Q Q' : List PyData → Prop} (h : DL K t te ρ Q) (m : ∀ d, Q d → Q' d) : DL K t te ρ Q' := fun F0 H0 F H σ A QK k => h F0 H0 F H σ A QK fun ds p xs F' H' q => k ds p xs F' H' (m ds q)
theorem DE_var (h : ρ[i]? = some (.sh d)) (q : Q d) : DE K t (tVar i) ρ Q := fun F0 H0 F H σ A QK k => by
  obtain ⟨v, e, z⟩ := A.var h
  exact ⟨v, e, k d v F H q A.rfl z⟩
theorem DE_int {z : Int} (q : Q (.int z)) : DE K t (tC (.int z)) ρ Q := fun F0 H0 F H σ A QK k => k _ _ F H q A.rfl (.int z)
theorem DE_str {z : Str} (q : Q (.str z)) : DE K t (tC (.str z)) ρ Q := fun F0 H0 F H σ A QK k => k _ _ F H q A.rfl (.str z)
theorem DE_bl {z : Bool} (q : Q (.bool z)) : DE K t (tC (.bl z)) ρ Q := fun F0 H0 F H σ A QK k => k _ _ F H q A.rfl (.bl z)
theorem DE_non (q : Q .none) : DE K t (tC .non) ρ Q := fun F0 H0 F H σ A QK k => k _ _ F H q A.rfl .non
theorem DE_op {r : R2} (h : DE K t ta ρ fun x => DE K t tb ρ fun y => DR K r x y Q) : DE K t (tOp r ta tb) ρ Q := fun F0 H0 F H σ A QK k =>
  h F0 H0 F H σ A _ fun x v F1 H1 hb e1 q1 => have A1 := A.step e1;  hb F0 H0 F1 H1 σ A1 _ fun y w F2 H2 hr e2 q2 => have A2 := A1.step e2;  hr v w F2 H2 A2.fh (q1.up e2.ff) q2 QK fun d u F3 H3 q g q3 =>
    k d u F3 H3 q ((e1.trans e2).trans (A2.stp g)) q3
theorem DE_new (h : DL K t te ρ fun ds => Q (.list ds)) : DE K t te ρ Q := fun F0 H0 F H σ A QK k => h F0 H0 F H σ A QK fun ds p xs F' H' q e f n1 n2 z => by
  obtain ⟨e2, z2⟩ := e.ice A f n1 n2 z
  exact k _ _ _ _ q e2 z2
theorem DE_un {r : V → Hp → VK → Prop} (h : DE K t ta ρ fun x => DU K r x Q) : DE K t (tUn r ta) ρ Q := fun F0 H0 F H σ A QK k =>
  h F0 H0 F H σ A _ fun x v F1 H1 hr e1 q1 => have A1 := A.step e1;  hr v F1 H1 A1.fh q1 QK fun d u F3 H3 q g q3 => k d u F3 H3 q (e1.trans (A1.stp g)) q3
theorem DE_cb {r : List V → Hp → VK → Prop} {tr : TA} (h : DA K t tr ρ fun xs => DC K r xs Q) : DE K t (tCB r tr) ρ Q := fun F0 H0 F H σ A QK k =>
  h F0 H0 F H σ A _ fun x v F1 H1 hr e1 q1 => have A1 := A.step e1;  hr v F1 H1 A1.fh q1 QK fun d u F3 H3 q g q3 => k d u F3 H3 q (e1.trans (A1.stp g)) q3
theorem DA_nil {Q : List PyData → Prop} (q : Q []) : DA K t tNil ρ Q := fun F0 H0 F H σ A QK k => k [] [] F H q A.rfl .nil
theorem DA_cons {tr : TA} {Q : List PyData → Prop} (h : DE K t te ρ fun x => DA K t tr ρ fun xs => Q (x :: xs)) : DA K t (tCons te tr) ρ Q := fun F0 H0 F H σ A QK k =>
  h F0 H0 F H σ A _ fun x v F1 H1 hr e1 q1 => have A1 := A.step e1;  hr F0 H0 F1 H1 σ A1 _ fun xs vs F2 H2 q e2 q2 => have A2 := A1.step e2;  k _ _ F2 H2 q (e1.trans e2) (.cons (q1.up e2.ff) q2)
theorem DE_tup {tr : TA} (h : DA K t tr ρ fun xs => xs.length ≤ 100000 ∧ Q (.tuple xs)) : DE K t (tTup tr) ρ Q := fun F0 H0 F H σ A QK k =>
  h F0 H0 F H σ A _ fun xs vs F1 H1 hq e1 q1 => have A1 := A.step e1;  ⟨Evl.sz_of (by rw [q1.len]; exact hq.1), fun p n =>
    have g := Gr.new A1.fh (o := .tup vs) n
    k _ _ _ _ hq.2 (e1.trans (A1.stp g)) (.tup (.inl (.inl upd_same)) (q1.up g.ff))⟩
theorem DL_lst {tr : TA} {Q : List PyData → Prop} (h : DA K t tr ρ fun xs => xs.length ≤ 100000 ∧ Q xs) : DL K t (tLst tr) ρ Q := fun F0 H0 F H σ A QK k =>
  h F0 H0 F H σ A _ fun xs vs F1 H1 hq e1 q1 => have A1 := A.step e1;  ⟨Evl.sz_of (by rw [q1.len]; exact hq.1), fun p n =>
    have g := Gr.free A1.fh (o := .lst vs) n
    k _ p _ _ _ hq.2 (e1.trans (A1.stp g)) (e1.back n) (ex_none A1.fh n) upd_same (q1.up g.ff)⟩
theorem DE_if {tt : TT} (h : DT K t tt ρ fun b => if b = true then DE K t ta ρ Q else DE K t tb ρ Q) : DE K t (tIf tt ta tb) ρ Q := fun F0 H0 F H σ A QK k =>
  h F0 H0 F H σ A _ fun b F1 H1 hb e1 => by
    have A1 := A.step e1
    cases b with
    | true => exact hb F0 H0 F1 H1 σ A1 QK fun d v F2 H2 q e2 q2 => have A2 := A1.step e2;  k d v F2 H2 q (e1.trans e2) q2
    | false => exact hb F0 H0 F1 H1 σ A1 QK fun d v F2 H2 q e2 q2 => have A2 := A1.step e2;  k d v F2 H2 q (e1.trans e2) q2
theorem DE_and (h : DE K t ta ρ fun x => ∃ b, x = .bool b ∧ if b = true then DE K t tb ρ Q else Q (.bool false)) : DE K t (tAndV ta tb) ρ Q := fun F0 H0 F H σ A QK k =>
  h F0 H0 F H σ A _ fun x v F1 H1 hb e1 q1 => by
    have A1 := A.step e1
    obtain ⟨b, rfl, hb⟩ := hb
    cases q1
    refine ⟨b, rfl, ?_⟩
    cases b with
    | true => exact hb F0 H0 F1 H1 σ A1 QK fun d v F2 H2 q e2 q2 => have A2 := A1.step e2;  k d v F2 H2 q (e1.trans e2) q2
    | false => exact k _ _ F1 H1 hb e1 (.bl false)
theorem DE_or (h : DE K t ta ρ fun x => ∃ b, x = .bool b ∧ if b = true then Q (.bool true) else DE K t tb ρ Q) : DE K t (tOrV ta tb) ρ Q := fun F0 H0 F H σ A QK k =>
  h F0 H0 F H σ A _ fun x v F1 H1 hb e1 q1 => by
    have A1 := A.step e1
    obtain ⟨b, rfl, hb⟩ := hb
    cases q1
    refine ⟨b, rfl, ?_⟩
    cases b with
    | true => exact k _ _ F1 H1 hb e1 (.bl true)
    | false => exact hb F0 H0 F1 H1 σ A1 QK fun d v F2 H2 q e2 q2 => have A2 := A1.step e2;  k d v F2 H2 q (e1.trans e2) q2
theorem DE_not (h : DE K t ta ρ fun x => ∃ b, x = .bool b ∧ Q (.bool (!b))) : DE K t (tNotV ta) ρ Q := fun F0 H0 F H σ A QK k =>
  h F0 H0 F H σ A _ fun x v F1 H1 hb e1 q1 => by
    have A1 := A.step e1
    obtain ⟨b, rfl, hb⟩ := hb
    cases q1
    exact ⟨b, rfl, k _ _ F1 H1 hb e1 (.bl _)⟩
theorem DE_chain {r r' : R2} (h : DE K t ta ρ fun x => DE K t tb ρ fun y => DR K r x y fun z => ∃ b, z = .bool b ∧ if b = true then DE K t tc ρ fun w => DR K r' y w Q else Q (.bool false)) :
    DE K t (tChain r r' ta tb tc) ρ Q := fun F0 H0 F H σ A QK k =>
  h F0 H0 F H σ A _ fun x v F1 H1 hb e1 q1 => have A1 := A.step e1;  hb F0 H0 F1 H1 σ A1 _ fun y w F2 H2 hr e2 q2 => have A2 := A1.step e2;  hr v w F2 H2 A2.fh (q1.up e2.ff) q2 _ fun z u F3 H3 hz g q3 => by
    obtain ⟨b, rfl, hz⟩ := hz
    cases q3
    refine ⟨b, rfl, ?_⟩
    have A3 := A2.call g
    have e3 := (e1.trans e2).trans (A2.stp g)
    cases b with
    | true => exact hz F0 H0 F3 H3 σ A3 _ fun y2 w2 F4 H4 hr2 e4 q4 => have A4 := A3.step e4;  hr2 w w2 F4 H4 A4.fh ((q2.up g.ff).up e4.ff) q4 QK fun d u F5 H5 q g2 q5 => k d u F5 H5 q ((e3.trans e4).trans (A4.stp g2)) q5
    | false => exact k _ _ F3 H3 hz e3 (.bl false)
theorem DT_test {tt : TE} {Q : Bool → Prop} (h : DE K t tt ρ fun x => ∃ b, x = .bool b ∧ Q b) : DT K t (tTest tt) ρ Q := fun F0 H0 F H σ A QK k =>
  h F0 H0 F H σ A _ fun x v F1 H1 hb e1 q1 => by
    have A1 := A.step e1
    obtain ⟨b, rfl, hb⟩ := hb
    cases q1
    exact ⟨b, rfl, k b F1 H1 hb e1⟩
theorem DT_B {tt : TE} {Q : Bool → Prop} (h : DE K t tt ρ fun x => ∃ b, x = .bool b ∧ Q b) : DT K t (tB tt) ρ Q := fun F0 H0 F H σ A QK k =>
  h F0 H0 F H σ A _ fun x v F1 H1 hb e1 q1 => by
    have A1 := A.step e1
    obtain ⟨b, rfl, hb⟩ := hb
    cases q1
    exact ⟨b, rfl, k b F1 H1 hb e1⟩
theorem DT_and {ua ub : TT} {Q : Bool → Prop} (h : DT K t ua ρ fun b => if b = true then DT K t ub ρ Q else Q false) : DT K t (tAnd ua ub) ρ Q := fun F0 H0 F H σ A QK k =>
  h F0 H0 F H σ A _ fun b F1 H1 hb e1 => by
    have A1 := A.step e1
    cases b with
    | true => exact hb F0 H0 F1 H1 σ A1 QK fun d F2 H2 q e2 => have A2 := A1.step e2;  k d F2 H2 q (e1.trans e2)
    | false => exact k _ F1 H1 hb e1
theorem DT_or {ua ub : TT} {Q : Bool → Prop} (h : DT K t ua ρ fun b => if b = true then Q true else DT K t ub ρ Q) : DT K t (tOr ua ub) ρ Q := fun F0 H0 F H σ A QK k =>
  h F0 H0 F H σ A _ fun b F1 H1 hb e1 => by
    have A1 := A.step e1
    cases b with
    | true => exact k _ F1 H1 hb e1
    | false => exact hb F0 H0 F1 H1 σ A1 QK fun d F2 H2 q e2 => have A2 := A1.step e2;  k d F2 H2 q (e1.trans e2)
theorem DT_not {ua : TT} {Q : Bool → Prop} (h : DT K t ua ρ fun b => Q (!b)) : DT K t (tNot ua) ρ Q := fun F0 H0 F H σ A QK k =>
  h F0 H0 F H σ A _ fun b F1 H1 hb e1 => have A1 := A.step e1;  k _ F1 H1 hb e1
theorem DT_yes {Q : Bool → Prop} (h : Q true) : DT K t tYes ρ Q := fun F0 H0 F H σ A QK k => k true F H h A.rfl
theorem DO_no {Q : Option Int → Prop} (h : Q none) : DO K t tNoPart ρ Q := fun F0 H0 F H σ A QK k => k none F H h A.rfl
theorem DO_at {Q : Option Int → Prop} (h : DE K t te ρ fun x => ∃ z, x = .int z ∧ Q (some z)) : DO K t (tPart te) ρ Q := fun F0 H0 F H σ A QK k =>
  h F0 H0 F H σ A _ fun x v F1 H1 hb e1 q1 => by
    have A1 := A.step e1
    obtain ⟨b, rfl, hb⟩ := hb
    cases q1
    exact ⟨b, rfl, k _ F1 H1 hb e1⟩

/-! slices -/
theorem cutV_dqs {F : Hp} {ds : List PyData} {xs : List V} (lo hi : Option Int) (h : Dqs K F ds xs) :
    Dqs K F ((ds.drop (HT.sIx ds.length 0 lo)).take (HT.sIx ds.length ds.length hi - HT.sIx ds.length 0 lo)) (cutV xs lo hi) := by
  unfold cutV
  rw [h.len]
  exact (h.drop _).take _
def cutD (ds : List PyData) (lo hi : Option Int) : List PyData := (ds.drop (HT.sIx ds.length 0 lo)).take (HT.sIx ds.length ds.length hi - HT.sIx ds.length 0 lo)
theorem DL_sl {tl th : TO} {Q : List PyData → Prop} (h : DE K t te ρ fun x => ∃ ds, x = .list ds ∧ DO K t tl ρ fun lo => DO K t th ρ fun hi => Q (cutD ds lo hi)) : DL K t (tSl (rSlL K) te tl th) ρ Q := fun F0 H0 F H σ A QK k =>
  h F0 H0 F H σ A _ fun x v F1 H1 hb e1 q1 => by
    have A1 := A.step e1
    obtain ⟨ds, rfl, hb⟩ := hb
    refine hb F0 H0 F1 H1 σ A1 _ fun lo F2 H2 hc e2 => have A2 := A1.step e2;  hc F0 H0 F2 H2 σ A2 _ fun hi F3 H3 q e3 => ?_
    have A3 := ((A.step e1).step e2).step e3
    have q2 := (q1.up e2.ff).up e3.ff
    cases q2 with
    | @lst a xs _ s1 s2 =>
      refine ⟨a, xs, rfl, Evl.ex_l A3.fh s1, fun p n => ?_⟩
      have g := Gr.free A3.fh (o := .lst (cutV xs lo hi)) n
      exact k _ p _ _ _ q (((e1.trans e2).trans e3).trans (A3.stp g)) (((e1.trans e2).trans e3).back n) (ex_none A3.fh n) upd_same (cutV_dqs lo hi s2)
theorem DE_slT {tl th : TO} (h : DE K t te ρ fun x => ∃ ds, x = .tuple ds ∧ DO K t tl ρ fun lo => DO K t th ρ fun hi =>
    ¬ (HT.sIx ds.length 0 lo = 0 ∧ HT.sIx ds.length ds.length hi = ds.length) ∧ Q (.tuple (cutD ds lo hi))) : DE K t (tSl (rSlT K) te tl th) ρ Q := fun F0 H0 F H σ A QK k =>
  h F0 H0 F H σ A _ fun x v F1 H1 hb e1 q1 => by
    have A1 := A.step e1
    obtain ⟨ds, rfl, hb⟩ := hb
    refine hb F0 H0 F1 H1 σ A1 _ fun lo F2 H2 hc e2 => have A2 := A1.step e2;  hc F0 H0 F2 H2 σ A2 _ fun hi F3 H3 q e3 => ?_
    have A3 := ((A.step e1).step e2).step e3
    have q2 := (q1.up e2.ff).up e3.ff
    cases q2 with
    | @tup a xs _ s1 s2 =>
      refine ⟨a, xs, rfl, Evl.ex_t A3.fh s1, by rw [s2.len]; exact q.1, fun p n => ?_⟩
      have g := Gr.new A3.fh (o := .tup (cutV xs lo hi)) n
      exact k _ _ _ _ q.2 (((e1.trans e2).trans e3).trans (A3.stp g)) (.tup (.inl (.inl upd_same)) ((cutV_dqs lo hi s2).up g.ff))

/-! ### operations over data -/
theorem DR_I0 {g : Int → Int → V} {g' : Int → Int → PyData} {x y : PyData} (hg : ∀ F i j, Dq K F (g' i j) (g i j)) (h : ∃ i j, x = .int i ∧ y = .int j ∧ Q (g' i j)) : DR K (rI0 g) x y Q := fun v w F H e q1 q2 QK k => by
  obtain ⟨i, j, rfl, rfl, q⟩ := h
  cases q1
  cases q2
  exact ⟨i, j, rfl, rfl, k _ _ F H q (Gr.refl e) (hg F i j)⟩
theorem DR_I {C : Int → Int → Prop} {g : Int → Int → V} {g' : Int → Int → PyData} {x y : PyData} (hg : ∀ F i j, Dq K F (g' i j) (g i j)) (h : ∃ i j, x = .int i ∧ y = .int j ∧ C i j ∧ Q (g' i j)) : DR K (rI C g) x y Q := fun v w F H e q1 q2 QK k => by
  obtain ⟨i, j, rfl, rfl, c, q⟩ := h
  cases q1
  cases q2
  exact ⟨i, j, rfl, rfl, c, k _ _ F H q (Gr.refl e) (hg F i j)⟩
theorem DR_l {r r' : R2} {x y : PyData} (h : DR K r x y Q) : DR K (fun a b H Q => r a b H Q ∨ r' a b H Q) x y Q := fun v w F H e q1 q2 QK k => .inl (h v w F H e q1 q2 QK k)
theorem DR_r {r r' : R2} {x y : PyData} (h : DR K r' x y Q) : DR K (fun a b H Q => r a b H Q ∨ r' a b H Q) x y Q := fun v w F H e q1 q2 QK k => .inr (h v w F H e q1 q2 QK k)
theorem DR_ixL {x y : PyData} (h : ∃ ds i d, x = .list ds ∧ y = .int i ∧ atI ds i = some d ∧ Q d) : DR K (rIxL K) x y Q := fun v w F H e q1 q2 QK k => by
  obtain ⟨ds, i, d, rfl, rfl, ha, q⟩ := h
  cases q2
  cases q1 with
  | @lst a xs _ s1 s2 =>
    unfold atI at ha
    cases hj : ixN ds.length i with
    | none => rw [hj] at ha; cases ha
    | some j =>
      rw [hj] at ha
      obtain ⟨u, hu, z⟩ := s2.at (i := j) ha
      refine ⟨a, xs, i, u, rfl, rfl, Evl.ex_l e s1, ?_, k _ _ F H q (Gr.refl e) z⟩
      unfold atI
      rw [s2.len, hj]
      exact hu
theorem DR_ixT {x y : PyData} (h : ∃ ds i d, x = .tuple ds ∧ y = .int i ∧ atI ds i = some d ∧ Q d) : DR K (rIxT K) x y Q := fun v w F H e q1 q2 QK k => by
  obtain ⟨ds, i, d, rfl, rfl, ha, q⟩ := h
  cases q2
  cases q1 with
  | @tup a xs _ s1 s2 =>
    unfold atI at ha
    cases hj : ixN ds.length i with
    | none => rw [hj] at ha; cases ha
    | some j =>
      rw [hj] at ha
      obtain ⟨u, hu, z⟩ := s2.at (i := j) ha
      refine ⟨a, xs, i, u, rfl, rfl, Evl.ex_t e s1, ?_, k _ _ F H q (Gr.refl e) z⟩
      unfold atI
      rw [s2.len, hj]
      exact hu
/-- xs[i], t[i] by the one rule -/
theorem DR_ix {x y : PyData} (h : (∃ ds i d, x = .list ds ∧ y = .int i ∧ atI ds i = some d ∧ Q d) ∨ (∃ ds i d, x = .tuple ds ∧ y = .int i ∧ atI ds i = some d ∧ Q d)) : DR K (rIx K) x y Q := fun v w F H e q1 q2 QK k =>
  h.elim (fun h => .inl (DR_ixL h v w F H e q1 q2 QK k)) fun h => .inr (.inl (DR_ixT h v w F H e q1 q2 QK k))
mutual
theorem Dq.dp {F : Hp} : ∀ (d : PyData) (v : V), PyData.plain d = true → Dq K F d v → Dp K F v d
  | .none, _, _, .non => .non
  | .bool _, _, _, .bl b => .bl b
  | .int _, _, _, .int i => .int i
  | .str _, _, _, .str x => .str x
  | .list ds, _, h, .lst h1 h2 => .lst h1 (Dqs.dp ds _ (by simpa only [PyData.plain] using h) h2)
  | .tuple ds, _, h, .tup h1 h2 => .tup h1 (Dqs.dp ds _ (by simpa only [PyData.plain] using h) h2)
  | .dict _, _, h, _ => by simp [PyData.plain] at h
theorem Dqs.dp {F : Hp} : ∀ (ds : List PyData) (vs : List V), PyData.plainAll ds = true → Dqs K F ds vs → DpAll K F vs ds
  | [], _, _, .nil => .nil
  | d :: ds, _, h, .cons h1 h2 => by
    have h' : d.plain = true ∧ PyData.plainAll ds = true := by simpa [PyData.plainAll] using h
    exact .cons (Dq.dp d _ h'.1 h1) (Dqs.dp ds _ h'.2 h2)
end
mutual
theorem dp_mono {F F' : Hp} (e : Ex F F') : ∀ (d : PyData) (v : V), Dp K F v d → Dp K F' v d
  | .none, _, .non => .non
  | .bool _, _, .bl b => .bl b
  | .int _, _, .int i => .int i
  | .str _, _, .str x => .str x
  | .list ds, _, .lst h1 h2 => .lst (Evl.ex_l e h1) (dps_mono e ds _ h2)
  | .tuple ds, _, .tup h1 h2 => .tup (Evl.ex_t e h1) (dps_mono e ds _ h2)
theorem dps_mono {F F' : Hp} (e : Ex F F') : ∀ (ds : List PyData) (vs : List V), DpAll K F vs ds → DpAll K F' vs ds
  | [], _, .nil => .nil
  | d :: ds, _, .cons h1 h2 => .cons (dp_mono e d _ h1) (dps_mono e ds _ h2)
end
theorem plain_of_shaped {d : PyData} (h : SeqAt.shaped d = true) : d.plain = true := PyData.plain_of_canLay0 d (SeqAt.canLay_of_shaped h)
/-- == where one side may hold what has no data of its own: lists of different lengths -/
def rLen (K : PySem.W.Frag) (b : Bool) : R2 := fun x y H Q => ∃ l r xs ys, x = .ref l ∧ y = .ref r ∧ SqL K H l xs ∧ SqL K H r ys ∧ xs.length ≠ ys.length ∧ Q (.bl b) H
def rStr (g : Bool → Bool) : R2 := fun x y H Q => ∃ i j, x = .str i ∧ y = .str j ∧ Q (.bl (g (decide (i = j)))) H
def rEqU (K : PySem.W.Frag) : R2 := fun x y H Q => rEqD K x y H Q ∨ rLen K false x y H Q ∨ rStr id x y H Q
def rNeU (K : PySem.W.Frag) : R2 := fun x y H Q => rNeD K x y H Q ∨ rLen K true x y H Q ∨ rStr not x y H Q
theorem DR_eq {x y : PyData} (h : SeqAt.shaped x = true ∧ SeqAt.shaped y = true ∧ Q (.bool (PyData.eqv x y))) : DR K (rEqU K) x y Q := fun v w F H e q1 q2 QK k => .inl
  ⟨x, y, dp_mono e x v (Dq.dp x v (plain_of_shaped h.1) q1), dp_mono e y w (Dq.dp y w (plain_of_shaped h.2.1) q2), h.1, h.2.1, k _ _ F H h.2.2 (Gr.refl e) (.bl _)⟩
theorem DR_ne {x y : PyData} (h : SeqAt.shaped x = true ∧ SeqAt.shaped y = true ∧ Q (.bool (!PyData.eqv x y))) : DR K (rNeU K) x y Q := fun v w F H e q1 q2 QK k => .inl
  ⟨x, y, dp_mono e x v (Dq.dp x v (plain_of_shaped h.1) q1), dp_mono e y w (Dq.dp y w (plain_of_shaped h.2.1) q2), h.1, h.2.1, k _ _ F H h.2.2 (Gr.refl e) (.bl _)⟩
theorem DR_str {g : Bool → Bool} {x y : PyData} (h : ∃ a b, x = .str a ∧ y = .str b ∧ Q (.bool (g (decide (a = b))))) : DR K (rStr g) x y Q := fun v w F H e q1 q2 QK k => by
  obtain ⟨a, b, rfl, rfl, q⟩ := h
  cases q1
  cases q2
  exact ⟨a, b, rfl, rfl, k _ _ F H q (Gr.refl e) (.bl _)⟩
theorem DR_eqS {x y : PyData} (h : ∃ a b, x = .str a ∧ y = .str b ∧ Q (.bool (decide (a = b)))) : DR K (rEqU K) x y Q := DR_r (DR_r (DR_str h))
theorem DR_neS {x y : PyData} (h : ∃ a b, x = .str a ∧ y = .str b ∧ Q (.bool (!decide (a = b)))) : DR K (rNeU K) x y Q := DR_r (DR_r (DR_str h))
end
end Cf
namespace Cf
open PySem PySem.Spec PyProof.Rows L2
open Evl (Ex)

/-- what follows, what is returned, break, continue -/
def DS (K : PySem.W.Frag) (t : Option Addr) (ts : TS) (ρ : Rho) (N : Rho → Prop) (R : PyData → Prop) (B C : Rho → Prop) : Prop :=
  ∀ (F0 H0 F H : Hp) (σ : L2.St) (D : Ends), At K t F0 H0 F H σ ρ →
    (∀ ρ' F' H' σ', N ρ' → At K t F0 H0 F' H' σ' ρ' → Ex F F' → D.nx σ' H') →
    (∀ d v F' H', R d → Gr t F0 H0 F' H' → TpOk t F' H' → Dq K F' d v → D.rt v H') →
    (∀ ρ' F' H' σ', B ρ' → At K t F0 H0 F' H' σ' ρ' → Ex F F' → D.bk σ' H') →
    (∀ ρ' F' H' σ', C ρ' → At K t F0 H0 F' H' σ' ρ' → Ex F F' → D.ct σ' H') → ts D σ H
abbrev NoR : Rho → Prop := fun _ => False

section
variable {K : PySem.W.Frag} {t : Option Addr} {ρ : Rho} {i : Nat} {d : PyData} {te ta tb tc : TE} {t1 t2 : TS} {N B C : Rho → Prop} {R : PyData → Prop}
theorem DS.mono {N' B' C' : Rho → Prop} {R' : PyData → Prop} (h : DS K t t1 ρ N R B C) (hN : ∀ x, N x → N' x) (hR : ∀ x, R x → R' x) (hB : ∀ x, B x → B' x) (hC : ∀ x, C x → C' x) : DS K t t1 ρ N' R' B' C' :=
  fun F0 H0 F H σ D A kn kr kb kc => h F0 H0 F H σ D A (fun r F' H' s q => kn r F' H' s (hN r q)) (fun d v F' H' q => kr d v F' H' (hR d q)) (fun r F' H' s q => kb r F' H' s (hB r q)) fun r F' H' s q => kc r F' H' s (hC r q)
theorem DS_seq (h : DS K t t1 ρ (fun ρ1 => DS K t t2 ρ1 N R B C) R B C) : DS K t (tSeq t1 t2) ρ N R B C := fun F0 H0 F H σ D A kn kr kb kc => by
  refine h F0 H0 F H σ { D with nx := t2 D } A (fun r F1 H1 s1 q A1 e1 => ?_) kr kb kc
  exact q F0 H0 F1 H1 s1 D A1 (fun r F' H' s q A' e => kn r F' H' s q A' (e1.trans e)) kr (fun r F' H' s q A' e => kb r F' H' s q A' (e1.trans e)) fun r F' H' s q A' e => kc r F' H' s q A' (e1.trans e)
theorem DS_next (q : N ρ) : DS K t tNext ρ N R B C := fun F0 H0 F H σ D A kn kr kb kc => kn ρ F H σ q A (Ex.refl F)
theorem DS_set (h : DE K t te ρ fun d => N (ρ.set i (.sh d))) : DS K t (tAsg te (gName i)) ρ N R B C := fun F0 H0 F H σ D A kn kr kb kc =>
  h F0 H0 F H σ A _ fun d v F1 H1 q e1 z => kn _ F1 H1 _ q ((A.step e1).set (s := .sh d) ⟨v, rfl, z⟩ fun _ e => by cases e) e1.ff
theorem DS_setOw (h : DL K t te ρ fun ds => N (ρ.set i (.ow ds))) : DS K t (tAsg te (gName i)) ρ N R B C := fun F0 H0 F H σ D A kn kr kb kc =>
  h F0 H0 F H σ A _ fun ds p xs F1 H1 q e1 n n1 n2 z => have f := A.fs n; kn _ F1 H1 _ q ((A.step e1).setOw ⟨p, xs, rfl, n2, n1, f.old, f.tap, z⟩ fun j es _ h => f.own j es h) e1.ff
theorem DS_drop (h : DE K t te ρ fun _ => N ρ) : DS K t (tDrop te) ρ N R B C := fun F0 H0 F H σ D A kn kr kb kc =>
  h F0 H0 F H σ A _ fun d v F1 H1 q e1 z => kn _ F1 H1 _ q (A.step e1) e1.ff
theorem DS_ret (h : DE K t te ρ R) : DS K t (tRet te) ρ N R B C := fun F0 H0 F H σ D A kn kr kb kc =>
  h F0 H0 F H σ A _ fun d v F1 H1 q e1 z => kr d v F1 H1 q (A.step e1).gr e1.tp z
theorem DS_retN (h : R .none) : DS K t tRetN ρ N R B C := fun F0 H0 F H σ D A kn kr kb kc => kr _ _ F H h A.gr A.tp .non
theorem DS_retOw {ds : List PyData} (h : ρ[i]? = some (.ow ds)) (q : R (.list ds)) : DS K t (tRet (tVar i)) ρ N R B C := fun F0 H0 F H σ D A kn kr kb kc => by
  obtain ⟨p, xs, e, h1, h2, h3, h4, h5⟩ := A.own h
  have ef : Ex F (upd F p (.lst xs)) := Ex.new h2
  obtain ⟨F', A', _⟩ := A.freeze h
  obtain ⟨v, e2, z⟩ := A'.var (i := i) (d := .list ds) (List.getElem?_set_self (List.getElem?_eq_some_iff.mp h).1)
  rw [e] at e2
  cases e2
  exact ⟨_, e, kr _ _ _ _ q A'.gr A'.tp z⟩
theorem DS_if {c : TT} (h : DT K t c ρ fun b => if b = true then DS K t t1 ρ N R B C else DS K t t2 ρ N R B C) : DS K t (tIfS c t1 t2) ρ N R B C := fun F0 H0 F H σ D A kn kr kb kc =>
  h F0 H0 F H σ A _ fun b F1 H1 hb s1 => by
    have A1 := A.step s1
    have e1 := s1.ff
    cases b with
    | true => exact hb F0 H0 F1 H1 σ D A1 (fun r F' H' s q A' e => kn r F' H' s q A' (e1.trans e)) kr (fun r F' H' s q A' e => kb r F' H' s q A' (e1.trans e)) fun r F' H' s q A' e => kc r F' H' s q A' (e1.trans e)
    | false => exact hb F0 H0 F1 H1 σ D A1 (fun r F' H' s q A' e => kn r F' H' s q A' (e1.trans e)) kr (fun r F' H' s q A' e => kb r F' H' s q A' (e1.trans e)) fun r F' H' s q A' e => kc r F' H' s q A' (e1.trans e)
/-- a, b, .. = a tuple -/
def setAll : List Nat → List PyData → Rho → Rho
  | i :: is, d :: ds, ρ => setAll is ds (ρ.set i (.sh d))
  | _, _, ρ => ρ
def gNames : List Nat → TGs
  | [] => gNil
  | i :: is => gCons (gName i) (gNames is)
theorem names_run {F0 H0 F H : Hp} : ∀ (is : List Nat) (ds : List PyData) (vs : List V) (σ : L2.St) (ρ : Rho) (Q : L2.St → Hp → Prop), is.length = ds.length → Dqs K F ds vs → At K t F0 H0 F H σ ρ →
    (∀ σ', At K t F0 H0 F H σ' (setAll is ds ρ) → Q σ' H) → gNames is vs σ H Q
  | [], [], _, σ, ρ, Q, _, .nil, A, k => ⟨rfl, k σ A⟩
  | i :: is, d :: ds, v :: vs, σ, ρ, Q, hl, .cons h1 h2, A, k => ⟨v, vs, rfl, names_run is ds vs _ _ Q (by simpa using hl) h2 (A.set (i := i) (s := .sh d) ⟨v, rfl, h1⟩ fun _ e => by cases e) k⟩
theorem DS_unpack {is : List Nat} {n : Nat} (h : DE K t te ρ fun x => ∃ ds, x = .tuple ds ∧ ds.length = n ∧ is.length = n ∧ N (setAll is ds ρ)) : DS K t (tAsg te (gTup K n (gNames is))) ρ N R B C := fun F0 H0 F H σ D A kn kr kb kc =>
  h F0 H0 F H σ A _ fun x v F1 H1 hq s1 z => by
    have A1 := A.step s1
    have e1 := s1.ff
    obtain ⟨ds, rfl, h1, h2, q⟩ := hq
    cases z with
    | @tup a xs _ s1 s2 =>
      exact ⟨a, xs, rfl, Evl.ex_t A1.fh s1, by rw [s2.len, h1], names_run is ds xs σ ρ _ (by rw [h1, h2]) s2 A1 fun σ' A' => kn _ F1 H1 σ' q A' e1⟩
/-- a, b = x, y, two different names -/
theorem DS_par {i j : Nat} {tr : TA} (h : DA K t tr ρ fun xs => ∃ d e, xs = [d, e] ∧ N ((ρ.set i (.sh d)).set j (.sh e))) : DS K t (tPar i j tr) ρ N R B C := fun F0 H0 F H σ D A kn kr kb kc =>
  h F0 H0 F H σ A _ fun xs vs F1 H1 hq s1 z => by
    have A1 := A.step s1
    have e1 := s1.ff
    obtain ⟨d, e, rfl, q⟩ := hq
    obtain ⟨v, w, rfl, z1, z2⟩ := dqs2 z
    exact ⟨v, w, rfl, kn _ F1 H1 _ q ((A1.set (i := i) (s := .sh d) ⟨v, rfl, z1⟩ fun _ e => by cases e).set (i := j) (s := .sh e) ⟨w, rfl, z2⟩ fun _ e => by cases e) e1⟩
/-- xs.append(e), xs a list of its own -/
theorem DS_append {ds : List PyData} (h : ρ[i]? = some (.ow ds)) (hl : ds.length < 100000) (he : DE K t te ρ fun d => N (ρ.set i (.ow (ds ++ [d])))) : DS K t (tDrop (tBM K "list" rAppend (tVar i) (tCons te tNil))) ρ N R B C :=
  fun F0 H0 F H σ D A kn kr kb kc => by
    obtain ⟨p, xs, e, h1, h2, h3, h4, h5⟩ := A.own h
    refine ⟨.ref p, e, .inl ⟨rfl, xs, .inl (.inl h1)⟩, he F0 H0 F H σ A _ fun d v F1 H1 q s1 z => ?_⟩
    have A1 := A.step s1
    have e1 := s1.ff
    obtain ⟨p', xs', e', g1, g2, g3, g4, g5⟩ := A1.own h
    rw [e] at e'
    cases e'
    exact ⟨p, xs', v, rfl, rfl, g1, Evl.sz_lt (by rw [g5.len]; exact hl), kn _ F1 _ σ q (A1.put h e (g5.app (.cons z .nil))) e1⟩
theorem atI_dqs {F : Hp} {ds : List PyData} {xs : List V} {z : Int} {d : PyData} (h : Dqs K F ds xs) (ha : atI ds z = some d) : ∃ v, atI xs z = some v ∧ Dq K F d v := by
  unfold atI at ha ⊢
  rw [h.len]
  cases hj : ixN ds.length z with
  | none => rw [hj] at ha; cases ha
  | some j =>
    rw [hj] at ha
    obtain ⟨u, hu, q⟩ := h.at (i := j) ha
    exact ⟨u, hu, q⟩
/-- xs[k] of a list of its own -/
theorem DE_ixOw {ds : List PyData} {Q : PyData → Prop} (h : ρ[i]? = some (.ow ds)) (he : DE K t te ρ fun y => ∃ z d, y = .int z ∧ atI ds z = some d ∧ Q d) : DE K t (tOp (rIx K) (tVar i) te) ρ Q := fun F0 H0 F H σ A QK k => by
  obtain ⟨p, xs, e, _⟩ := A.own h
  refine ⟨.ref p, e, he F0 H0 F H σ A _ fun y w F1 H1 hq s1 z => ?_⟩
  have A1 := A.step s1
  obtain ⟨m, d, rfl, ha, q⟩ := hq
  cases z
  obtain ⟨p', xs', e', g1, g2, g3, g4, g5⟩ := A1.own h
  rw [e] at e'
  cases e'
  obtain ⟨v, hv, zq⟩ := atI_dqs g5 ha
  exact .inl ⟨p, xs', m, v, rfl, rfl, .inl (.inl g1), hv, k d v F1 H1 q s1 zq⟩
/-! ### loops -/
theorem DS_for {g : TG} {J : It} {n : Nat} {G : Hp → Prop} {Y : Nat → Hp → V → Hp → Prop} {F0 H0 F H : Hp} {σ : L2.St} {D : Ends} (w : Walk J n G Y) (I : Nat → Rho → Prop) (A : At K t F0 H0 F H σ ρ) (h0 : I 0 ρ)
    (hG : ∀ F' H', Ex F F' → Ex F' H' → G H')
    (kn : ∀ ρ' F' H' σ', I n ρ' → At K t F0 H0 F' H' σ' ρ' → Ex F F' → D.nx σ' H')
    (hs : ∀ k x σ' ρ' F1 H1 H2 (Nx : L2.St → Hp → Prop), k < n → I k ρ' → At K t F0 H0 F1 H1 σ' ρ' → Ex F F1 → Y k H1 x H2 →
      (∀ ρ2 F2 H3 σ2, I (k + 1) ρ2 → At K t F0 H0 F2 H3 σ2 ρ2 → Ex F F2 → Nx σ2 H3) → g x σ' H2 fun σ2 H3 => t1 { D with nx := Nx, ct := Nx, bk := D.nx } σ2 H3) :
    ∃ W : Nat → Nat → L2.St → Hp → Prop, (∃ m, W 0 m σ H) ∧ ∀ i m σ H, W i m σ H →
      (J.stop i H ∧ D.nx σ H) ∨ (J.go i H ∧ ∃ N : L2.St → Hp → Prop, (∀ σ' H', N σ' H' → ∃ m', m' < m ∧ W (i + 1) m' σ' H') ∧ ∀ x H', J.yld i H x H' → g x σ H' fun σ2 H2 => t1 { D with nx := N, ct := N, bk := D.nx } σ2 H2) := by
  refine for_it w (fun k σ' H' => ∃ F' ρ', I k ρ' ∧ At K t F0 H0 F' H' σ' ρ' ∧ Ex F F') ⟨F, ρ, h0, A, Ex.refl F⟩ (fun k σ' H' _ ⟨F', ρ', _, A', e⟩ => hG F' H' e A'.fh) ?_ fun σ' H' ⟨F', ρ', q, A', e⟩ => kn ρ' F' H' σ' q A' e
  rintro k x σ' H1 H2 hk ⟨F1, ρ', q, A1, e1⟩ y
  exact hs k x σ' ρ' F1 H1 H2 _ hk q A1 e1 y fun ρ2 F2 H3 σ2 q2 A2 e2 => ⟨F2, ρ2, q2, A2, e2⟩
theorem forR_core {F0 H0 F H : Hp} {σ : L2.St} {D : Ends} {lo : Int} {n : Nat} {I : Nat → Rho → Prop} (A : At K t F0 H0 F H σ ρ) (h0 : I 0 ρ) (hs : ∀ k ρ', k < n → I k ρ' → DS K t t1 (ρ'.set i (.sh (.int (lo + k)))) (I (k + 1)) R N (I (k + 1))) (hd : ∀ ρ', I n ρ' → N ρ')
    (kn : ∀ ρ' F' H' σ', N ρ' → At K t F0 H0 F' H' σ' ρ' → Ex F F' → D.nx σ' H') (kr : ∀ d v F' H', R d → Gr t F0 H0 F' H' → TpOk t F' H' → Dq K F' d v → D.rt v H') :
    ∃ W : Nat → Nat → L2.St → Hp → Prop, (∃ m, W 0 m σ H) ∧ ∀ j m σ H, W j m σ H →
      ((Itr lo n).stop j H ∧ D.nx σ H) ∨ ((Itr lo n).go j H ∧ ∃ N : L2.St → Hp → Prop, (∀ σ' H', N σ' H' → ∃ m', m' < m ∧ W (j + 1) m' σ' H') ∧ ∀ x H', (Itr lo n).yld j H x H' → gName i x σ H' fun σ2 H2 => t1 { D with nx := N, ct := N, bk := D.nx } σ2 H2) := by
  refine DS_for (walk_range (lo := lo) (n := n)) I A h0 (fun _ _ _ _ => trivial) (fun ρ' F' H' σ' q A' e => kn ρ' F' H' σ' (hd ρ' q) A' e) ?_
  rintro k x σ' ρ' F2 H2 H3 Nx hk q A2 e2 ⟨rfl, rfl⟩ kN
  exact hs k ρ' hk q F0 H0 F2 _ _ _ (A2.set (i := i) (s := .sh _) ⟨_, rfl, .int _⟩ fun _ e => by cases e) (fun r F' H' s q A' e => kN r F' H' s q A' (e2.trans e)) kr
    (fun r F' H' s q A' e => kn r F' H' s q A' (e2.trans e)) fun r F' H' s q A' e => kN r F' H' s q A' (e2.trans e)
/-- for x in range(n) -/
theorem DS_forR1 {tr : TA} (h : DA K t tr ρ fun xs => ∃ j : Int, xs = [.int j] ∧ ∃ I : Nat → Rho → Prop, I 0 ρ ∧
      (∀ k ρ', k < j.toNat → I k ρ' → DS K t t1 (ρ'.set i (.sh (.int (0 + k)))) (I (k + 1)) R N (I (k + 1))) ∧ ∀ ρ', I j.toNat ρ' → N ρ') : DS K t (tFor (iRg1 tr) (gName i) t1) ρ N R B C := fun F0 H0 F H σ D A kn kr kb kc =>
  h F0 H0 F H σ A _ fun xs vs F1 H1 hq s1 z => by
    have A1 := A.step s1
    have e1 := s1.ff
    obtain ⟨j, rfl, I, h0, hs, hd⟩ := hq
    obtain ⟨v, rfl, z1⟩ := dqs1 z
    cases z1
    exact ⟨j, rfl, forR_core A1 h0 hs hd (fun r F' H' s q A' e => kn r F' H' s q A' (e1.trans e)) kr⟩
/-- while: an invariant by a measure -/
theorem DS_while {c : TT} (I : Nat → Rho → Prop) (m : Nat) (h0 : I m ρ) (hs : ∀ m ρ', I m ρ' → DT K t c ρ' fun b => if b = true then DS K t t1 ρ' (fun ρ2 => ∃ m', m' < m ∧ I m' ρ2) R N (fun ρ2 => ∃ m', m' < m ∧ I m' ρ2) else N ρ') :
    DS K t (tWhile c t1) ρ N R B C := fun F0 H0 F H σ D A kn kr kb kc => by
  refine ⟨fun m σ' H' => ∃ F' ρ', I m ρ' ∧ At K t F0 H0 F' H' σ' ρ' ∧ Ex F F', ⟨m, F, ρ, h0, A, Ex.refl F⟩, ?_⟩
  rintro m σ' H' ⟨F1, ρ', q, A1, e1⟩
  refine hs m ρ' q F0 H0 F1 H' σ' A1 _ fun b F2 H2 hb s2 => ?_
  have A2 := A1.step s2
  have e2 := s2.ff
  cases b with
  | false => exact kn ρ' F2 H2 σ' hb A2 (e1.trans e2)
  | true =>
    refine ⟨fun σ2 H3 => ∃ m' F3 ρ3, m' < m ∧ I m' ρ3 ∧ At K t F0 H0 F3 H3 σ2 ρ3 ∧ Ex F F3, fun σ2 H3 ⟨m', F3, ρ3, l, q3, A3, e3⟩ => ⟨m', l, F3, ρ3, q3, A3, e3⟩, ?_⟩
    exact hb F0 H0 F2 H2 σ' _ A2 (fun r F' H' s ⟨m', l, q⟩ A' e => ⟨m', F', r, l, q, A', (e1.trans e2).trans e⟩) kr (fun r F' H' s q A' e => kn r F' H' s q A' ((e1.trans e2).trans e)) fun r F' H' s ⟨m', l, q⟩ A' e => ⟨m', F', r, l, q, A', (e1.trans e2).trans e⟩

/-! ### comprehensions -/
theorem Stp.write {F H F' H' : Hp} {D : Addr} {o : HO} (e : Stp t F H F' H') (nt : t ≠ some D) (n : H D = none) (m : F' D = none) : Stp t F H F' (upd H' D o) where
  g := ⟨e.ff, fun a u w q => by
    rw [upd_ne (fun z => by rw [z, n] at q; cases q)]
    exact e.g.hh a u w q, fun a u q => by
    rw [upd_ne (fun z => by rw [z, m] at q; cases q)]
    exact e.g.fh a u q, e.g.nw⟩
  tp := fun a q => by
    obtain ⟨w1, x, y, z, w2, w3⟩ := e.tp a q
    refine ⟨w1, x, y, z, ?_, w3⟩
    rw [upd_ne (fun h => nt (by rw [q, h]))]
    exact w2
/-- one turn's slots: what the target stores -/
structure Tn (K : PySem.W.Frag) (t : Option Addr) (ρ : Rho) (σ : L2.St) (own : List Nat) (g : TG) (x : V) (F1 H1 F2 H2 : Hp) (ρ2 : Rho) : Prop where
  ex : ∃ σ2, (∀ Qn : L2.St → Hp → Prop, Qn σ2 H2 → g x (wipe σ own) H2 Qn) ∧ wipe σ2 own = wipe σ own ∧ ∀ F0 H0, At K t F0 H0 F1 H1 σ ρ → At K t F0 H0 F2 H2 σ2 ρ2
  st : Stp t F1 H1 F2 H2
theorem DL_lc {g : TG} {own : List Nat} {tt : TT} {J : It} {n : Nat} {G : Hp → Prop} {Y : Nat → Hp → V → Hp → Prop} {F0 H0 F H : Hp} {σ : L2.St} {QK : VK} {D : Addr} (w : Walk J n G Y) (I : Nat → List PyData → Prop) (A : At K t F0 H0 F H σ ρ) (nD : H D = none)
    (h0 : I 0 []) (hG : ∀ F' H', Ex F F' → Ex F' H' → G H')
    (hY : ∀ k x F1 H1 H2, k < n → At K t F0 H0 F1 H1 σ ρ → Ex F F1 → Y k H1 x H2 → ∃ F2 ρ2, Tn K t ρ σ own g x F1 H1 F2 H2 ρ2 ∧ ∀ acc, I k acc → acc.length < 100000 ∧ DT K t tt ρ2 fun b => if b = true then DE K t te ρ2 (fun y => I (k + 1) (acc ++ [y])) else I (k + 1) acc)
    (k : ∀ ds xs F' H', I n ds → Stp t F H F' H' → F' D = none → H' D = some (.lst xs) → Dqs K F' ds xs → QK (.ref D) H') :
    ∃ W : Nat → Nat → Hp → Prop, (∃ m, W 0 m (upd H D (.lst []))) ∧ ∀ j m H, W j m H →
      (J.stop j H ∧ QK (.ref D) H) ∨ (J.go j H ∧ ∃ Nx : Hp → Prop, (∀ H', Nx H' → ∃ m', m' < m ∧ W (j + 1) m' H') ∧ ∀ x H', J.yld j H x H' → g x (wipe σ own) H' fun σ2 H2 => wipe σ2 own = wipe σ own ∧ tt σ2 H2 fun b H3 =>
        if b = true then te σ2 H3 fun y H4 => ∃ acc, H4 D = some (.lst acc) ∧ acc.length < sizeLine ∧ Nx (upd H4 D (.lst (acc ++ [y]))) else Nx H3) := by
  refine lc_it w (fun k H' => ∃ F' ds xs, I k ds ∧ Stp t F H F' H' ∧ F' D = none ∧ H' D = some (.lst xs) ∧ Dqs K F' ds xs) ⟨F, [], [], h0, A.stp (Gr.free A.fh nD), ex_none A.fh nD, upd_same, .nil⟩
    (fun k H' _ ⟨F', ds, xs, _, e, _⟩ => hG F' H' e.ff e.g.fh) ?_ fun H' ⟨F', ds, xs, q, e, n1, n2, z⟩ => k ds xs F' H' q e n1 n2 z
  rintro k x H1 H2 hk ⟨F1, ds, xs, q, e1, n1, n2, z⟩ y
  have A1 := A.step e1
  obtain ⟨F2, ρ2, ⟨⟨σ2, hg, hw, hA⟩, e2⟩, hq⟩ := hY k x F1 H1 H2 hk A1 e1.ff y
  obtain ⟨hl, hq⟩ := hq ds q
  have A2 := hA F0 H0 A1
  have nt : t ≠ some D := (A.fs nD).tap
  have keep : ∀ {F3 H3 F4 H4 : Hp} {ys : List V}, Stp t F3 H3 F4 H4 → F3 D = none → H3 D = some (.lst ys) → F4 D = none ∧ H4 D = some (.lst ys) := fun {F3 H3 F4 H4 ys} e a b => by
    refine ⟨?_, e.g.hh D _ nt b⟩
    cases u : F4 D with
    | none => rfl
    | some o =>
      have := e.g.nw D o u a
      rw [b] at this
      cases this
  obtain ⟨l1, l2⟩ := keep e2 n1 n2
  refine hg _ ⟨hw, hq F0 H0 F2 H2 _ A2 _ fun b F3 H3 hb e3 => ?_⟩
  obtain ⟨m1, m2⟩ := keep e3 l1 l2
  cases b with
  | false => exact ⟨F3, ds, xs, hb, (e1.trans e2).trans e3, m1, m2, (z.up e2.ff).up e3.ff⟩
  | true =>
    refine hb F0 H0 F3 H3 _ (A2.step e3) _ fun y u F4 H4 hy e4 zy => ?_
    obtain ⟨r1, r2⟩ := keep e4 m1 m2
    exact ⟨xs, r2, Evl.sz_lt (by rw [z.len]; exact hl), F4, _, _, hy, (((e1.trans e2).trans e3).trans e4).write nt nD r1, r1, upd_same, (((z.up e2.ff).up e3.ff).up e4.ff).app (.cons zy .nil)⟩
theorem tn_name {σ : L2.St} {x : V} {d : PyData} {F1 H1 : Hp} (z : Dq K F1 d x) (e : Stp t F1 H1 F1 H1) : Tn K t ρ σ [i] (gName i) x F1 H1 F1 H1 (ρ.set i (.sh d)) := by
  refine ⟨⟨σ.set i (some x), fun Qn q => ?_, ?_, fun F0 H0 A => A.set (s := .sh d) ⟨x, rfl, z⟩ fun _ e => by cases e⟩, e⟩
  · show Qn ((σ.set i none).set i (some x)) H1
    rw [List.set_set]
    exact q
  · show (σ.set i (some x)).set i none = σ.set i none
    rw [List.set_set]
/-- [e for x in a list if c] -/
theorem DL_lcL {tl : TE} {tt : TT} {Q : List PyData → Prop} (h : DE K t tl ρ fun x => ∃ ds, x = .list ds ∧ ∃ I : Nat → List PyData → Prop, I 0 [] ∧
      (∀ k d acc, ds[k]? = some d → I k acc → acc.length < 100000 ∧ DT K t tt (ρ.set i (.sh d)) fun b => if b = true then DE K t te (ρ.set i (.sh d)) (fun y => I (k + 1) (acc ++ [y])) else I (k + 1) acc) ∧ ∀ acc, I ds.length acc → Q acc) :
    DL K t (tLc (iList K tl) (gName i) tt te [i]) ρ Q := fun F0 H0 F H σ A QK k =>
  h F0 H0 F H σ A _ fun x v F1 H1 hq e1 z => by
    have A1 := A.step e1
    obtain ⟨ds, rfl, I, h0, hs, hd⟩ := hq
    cases z with
    | @lst a xs _ s1 s2 =>
      refine ⟨a, rfl, ⟨xs, Evl.ex_l A1.fh s1⟩, fun D nD => ?_⟩
      refine DL_lc (own := [i]) (g := gName i) (walk_list (K := K) (xs := xs)) I A1 nD h0 (fun F' H' e e' => Evl.ex_l (e.trans e') s1) (fun m x F2 H2 H3 hm A2 e2 y => ?_) fun ds' ys F' H' q e n1 n2 z => k ds' D ys F' H' (hd ds' (by rwa [s2.len] at q)) (e1.trans e) (e1.back nD) n1 n2 z
      obtain ⟨rfl, hx⟩ := y
      obtain ⟨d, hd', zd⟩ := s2.get hx
      exact ⟨F2, _, tn_name (zd.up e2) A2.rfl, fun acc q => hs m d acc hd' q⟩
/-- [e for x in range(..) if c] -/
theorem DL_lcR {tt : TT} {Q : List PyData → Prop} {F0 H0 F H : Hp} {σ : L2.St} {QK : VK} {lo : Int} {n : Nat} (A : At K t F0 H0 F H σ ρ) (I : Nat → List PyData → Prop) (h0 : I 0 [])
    (hs : ∀ k acc, k < n → I k acc → acc.length < 100000 ∧ DT K t tt (ρ.set i (.sh (.int (lo + k)))) fun b => if b = true then DE K t te (ρ.set i (.sh (.int (lo + k)))) (fun y => I (k + 1) (acc ++ [y])) else I (k + 1) acc)
    (k : ∀ ds D xs F' H', I n ds → Stp t F H F' H' → H D = none → F' D = none → H' D = some (.lst xs) → Dqs K F' ds xs → QK (.ref D) H') (D : Addr) (nD : H D = none) :
    ∃ W : Nat → Nat → Hp → Prop, (∃ m, W 0 m (upd H D (.lst []))) ∧ ∀ j m H, W j m H →
      ((Itr lo n).stop j H ∧ QK (.ref D) H) ∨ ((Itr lo n).go j H ∧ ∃ Nx : Hp → Prop, (∀ H', Nx H' → ∃ m', m' < m ∧ W (j + 1) m' H') ∧ ∀ x H', (Itr lo n).yld j H x H' → gName i x (wipe σ [i]) H' fun σ2 H2 => wipe σ2 [i] = wipe σ [i] ∧ tt σ2 H2 fun b H3 =>
        if b = true then te σ2 H3 fun y H4 => ∃ acc, H4 D = some (.lst acc) ∧ acc.length < sizeLine ∧ Nx (upd H4 D (.lst (acc ++ [y]))) else Nx H3) := by
  refine DL_lc (own := [i]) (g := gName i) (walk_range (lo := lo) (n := n)) I A nD h0 (fun _ _ _ _ => trivial) (fun m x F2 H2 H3 hm A2 e2 y => ?_) fun ds' ys F' H' q e n1 n2 z => k ds' D ys F' H' q e nD n1 n2 z
  obtain ⟨rfl, rfl⟩ := y
  exact ⟨F2, _, tn_name (.int _) A2.rfl, fun acc q => hs m acc hm q⟩
theorem DL_lcR1 {tr : TA} {tt : TT} {Q : List PyData → Prop} (h : DA K t tr ρ fun xs => ∃ j : Int, xs = [.int j] ∧ ∃ I : Nat → List PyData → Prop, I 0 [] ∧
      (∀ k acc, k < j.toNat → I k acc → acc.length < 100000 ∧ DT K t tt (ρ.set i (.sh (.int (0 + k)))) fun b => if b = true then DE K t te (ρ.set i (.sh (.int (0 + k)))) (fun y => I (k + 1) (acc ++ [y])) else I (k + 1) acc) ∧ ∀ acc, I j.toNat acc → Q acc) :
    DL K t (tLc (iRg1 tr) (gName i) tt te [i]) ρ Q := fun F0 H0 F H σ A QK k =>
  h F0 H0 F H σ A _ fun xs vs F1 H1 hq e1 z => by
    obtain ⟨j, rfl, I, h0, hs, hd⟩ := hq
    obtain ⟨v, rfl, z1⟩ := dqs1 z
    cases z1
    exact ⟨j, rfl, fun D nD => DL_lcR (Q := Q) (A.step e1) I h0 hs (fun ds' D ys F' H' q e n n1 n2 z => k ds' D ys F' H' (hd ds' q) (e1.trans e) (e1.back n) n1 n2 z) D nD⟩
/-! ### calls -/
/-- the promise of a def over data that changes nothing -/
def spP (K : PySem.W.Frag) (W : List PyData → (PyData → Prop) → Prop) : Sp := fun vs H Q _ => ∃ F ds R, Ex F H ∧ Dqs K F ds vs ∧ W ds R ∧ ∀ d v F' H', R d → Gr none F H F' H' → Dq K F' d v → Q v H'
/-- the same, drawing from the list at its first argument -/
def spT (K : PySem.W.Frag) (W : List PyData → (PyData → Prop) → Prop) : Sp := fun vs H Q _ => ∃ a ws F ds R, vs = .ref a :: ws ∧ Ex F H ∧ TpOk (some a) F H ∧ Dqs K F ds ws ∧ W ds R ∧ ∀ d v F' H', R d → Gr (some a) F H F' H' → TpOk (some a) F' H' → Dq K F' d v → Q v H'
theorem DE_call {W : List PyData → (PyData → Prop) → Prop} {E : XK} {tr : TA} {Q : PyData → Prop} (h : DA K t tr ρ fun ds => W ds Q) : DE K t (tCall (spP K W) [] E tr) ρ Q := fun F0 H0 F H σ A QK k =>
  h F0 H0 F H σ A _ fun ds vs F1 H1 hq e1 z => ⟨F1, ds, Q, e1.g.fh, by rw [List.append_nil]; exact z, hq, fun d v F' H' q g zd => k d v F' H' q (e1.trans ((A.step e1).stp g)) zd⟩
theorem DE_callT {a : Addr} {W : List PyData → (PyData → Prop) → Prop} {E : XK} {tr : TA} {Q : PyData → Prop} (hi : ρ[i]? = some .tp) (h : DA K (some a) tr ρ fun ds => W ds Q) : DE K (some a) (tCall (spT K W) [] E (tCons (tVar i) tr)) ρ Q := fun F0 H0 F H σ A QK k => by
  obtain ⟨o, e, b, hb, rfl⟩ := A.slot hi
  cases hb
  exact ⟨.ref a, e, h F0 H0 F H σ A _ fun ds vs F1 H1 hq e1 z => ⟨a, vs, F1, ds, Q, by rw [List.append_nil], e1.g.fh, e1.tp, z, hq, fun d v F' H' q g tp zd => k d v F' H' q (e1.trans ⟨g, tp⟩) zd⟩⟩
/-- a fresh list of draws is handed -/
def DTp (K : PySem.W.Frag) (te : TE) (ρ : Rho) : Prop := DL K none te ρ fun ds => ∃ x y z, ds = [.int x, .int y, .int z] ∧ Tap x y z
theorem At.begin {N : List Str} {F H : Hp} {ds : List PyData} {vs : List V} (e : Ex F H) (z : Dqs K F ds vs) (hl : ds.length ≤ N.length) : At K none F H F H (L2.start N vs) (ds.map Sl.sh ++ List.replicate (N.length - ds.length) Sl.no) := by
  refine ⟨Gr.refl e, ?_, fun i o s h1 h2 => ?_, fun i j p es fs n h1 => ?_, fun a q => by cases q⟩
  · unfold L2.start
    simp [z.len]
  · unfold L2.start at h1
    by_cases hi : i < ds.length
    · rw [List.getElem?_append_left (by simpa [z.len] using hi), List.getElem?_map] at h1
      rw [List.getElem?_append_left (by simpa using hi), List.getElem?_map] at h2
      rw [List.getElem?_eq_getElem hi] at h2
      cases h2
      obtain ⟨v, hv, zd⟩ := z.at (i := i) (List.getElem?_eq_getElem hi)
      rw [hv] at h1
      cases h1
      exact ⟨v, Eq.refl _, zd⟩
    · rw [List.getElem?_append_right (by simpa using hi)] at h2
      have := List.mem_of_getElem? h2
      have := (List.mem_replicate.mp this).2
      subst this
      trivial
  · have := List.mem_of_getElem? h1
    rcases List.mem_append.mp this with m | m
    · obtain ⟨d, _, m⟩ := List.mem_map.mp m
      cases m
    · have := (List.mem_replicate.mp m).2
      cases this
/-- a body keeps the promise -/
theorem run_P {W : List PyData → (PyData → Prop) → Prop} {N : List Str} {vs : List V} {H : Hp} {Q : VK} {E : XK} {ts : TS} (h : spP K W vs H Q E)
    (b : ∀ ds R, W ds R → ds.length ≤ N.length ∧ DS K none ts (ds.map Sl.sh ++ List.replicate (N.length - ds.length) Sl.no) (fun _ => R .none) R NoR NoR) : ts { nx := fun _ H' => Q .non H', rt := Q } (L2.start N vs) H := by
  obtain ⟨F, ds, R, e, z, hW, k⟩ := h
  obtain ⟨hl, b⟩ := b ds R hW
  have A : At K none F H F H (L2.start N vs) (ds.map Sl.sh ++ List.replicate (N.length - ds.length) Sl.no) := by
    refine ⟨Gr.refl e, ?_, fun i o s h1 h2 => ?_, fun i j p es fs n h1 => ?_, fun a q => by cases q⟩
    · unfold L2.start
      simp [z.len]
    · unfold L2.start at h1
      by_cases hi : i < ds.length
      · rw [List.getElem?_append_left (by simpa [z.len] using hi), List.getElem?_map] at h1
        rw [List.getElem?_append_left (by simpa using hi), List.getElem?_map] at h2
        rw [List.getElem?_eq_getElem hi] at h2
        cases h2
        obtain ⟨v, hv, zd⟩ := z.at (i := i) (List.getElem?_eq_getElem hi)
        rw [hv] at h1
        cases h1
        exact ⟨v, rfl, zd⟩
      · rw [List.getElem?_append_right (by simpa using hi)] at h2
        have := List.mem_of_getElem? h2
        have := (List.mem_replicate.mp this).2
        subst this
        trivial
    · have := List.mem_of_getElem? h1
      rcases List.mem_append.mp this with m | m
      · obtain ⟨d, _, m⟩ := List.mem_map.mp m
        cases m
      · have := (List.mem_replicate.mp m).2
        cases this
  exact b F H F H _ _ A (fun ρ' F' H' σ' q A' _ => k _ _ F' H' q A'.gr .non) (fun d v F' H' q g _ zd => k d v F' H' q g zd) (fun _ _ _ _ q => q.elim) fun _ _ _ _ q => q.elim
end
end Cf
namespace Cf
open PySem PySem.Spec PyProof.Rows L2
open Evl (Ex)

/-! ### operators that serve several kinds -/
theorem opr_or {X : Cx} {f : Value → Value → Sem Value} {r r' : R2} (h : OpR X f r) (h' : OpR X f r') : OpR X f (fun x y H Q => r x y H Q ∨ r' x y H Q) := fun pins s σ H x y v u Q I rx ry q =>
  q.elim (fun q => h pins s σ H x y v u Q I rx ry q) fun q => h' pins s σ H x y v u Q I rx ry q
theorem callr_or {X : Cx} {f : Value} {r r' : List V → Hp → VK → Prop} (h : CallR X f r) (h' : CallR X f r') : CallR X f (fun x H Q => r x H Q ∨ r' x H Q) := fun pins s σ H x us Q I rx q =>
  q.elim (fun q => h pins s σ H x us Q I rx q) fun q => h' pins s σ H x us Q I rx q
theorem plain_is {h : Heap} {a : Addr} {its : Array Value} (p : PlainL h a its) : h.IsList a its := by
  obtain ⟨o, n, h1, h2, _, h3⟩ := p
  exact ⟨o, h1, h2, n, h3⟩
def rCatL (K : PySem.W.Frag) : R2 := fun x y H Q => ∃ l b xs zs, x = .ref l ∧ y = .ref b ∧ SqL K H l xs ∧ SqL K H b zs ∧ xs.length + zs.length ≤ sizeLine ∧ ∀ p, H p = none → Q (.ref p) (upd H p (.lst (xs ++ zs)))
theorem op_catL {X : Cx} : OpR X (binaryOp .Add) (rCatL X.K) := by
  intro pins s σ H x y v u Q I rx ry h
  obtain ⟨l, b, xs, zs, rfl, rfl, h1, h2, hz, q⟩ := h
  cases rx
  cases ry
  obtain ⟨its, r1, p1, _⟩ := I.list h1
  obtain ⟨its2, r2, p2, _⟩ := I.list h2
  obtain ⟨⟨c1, d1, a1, s1⟩, o1, k1, n1, e1⟩ := plain_is p1
  obtain ⟨⟨c2, d2, a2, s2⟩, o2, k2, n2, e2⟩ := plain_is p2
  simp only at k1 e1 k2 e2
  subst k1 e1 k2 e2
  have hs : its.toArray.size + its2.toArray.size ≤ sizeLine := by
    rw [List.size_toArray, List.size_toArray, ← r1.length, ← r2.length]
    exact hz
  refine concat_meets ⟨_, o1, rfl⟩ ⟨_, o2, rfl⟩ noFill_list_add seq_list_add PySem.F.slot_list_add PySem.F.entry_list_add (PySem.F.args_list_add_2 _ _)
    (list_addW l b its.toArray its2.toArray n1 n2 d1 d2 s1 s2 hs) ⟨o1, o2, ?_⟩
  have e : its.toArray ++ its2.toArray = (its ++ its2).toArray := by simp
  rw [e]
  exact ⟨.ref _, _, I.lnew (t' := s.toks) (r1.append r2) (by rw [List.length_append]; exact hz), rfl, q _ I.fresh⟩

theorem op_len_eq {X : Cx} (hu : X.A.units + 64 < cLine) : OpR X (compareOp .Eq) (rLen X.K false) := by
  intro pins s σ H x y v u Q I rx ry h
  obtain ⟨l, b, xs, zs, rfl, rfl, h1, h2, hz, q⟩ := h
  cases rx
  cases ry
  obtain ⟨its, r1, p1, _⟩ := I.list h1
  obtain ⟨its2, r2, p2, _⟩ := I.list h2
  refine SeqAt.eq_list_lengthsAt (plain_is p1) (plain_is p2) ?_ (by omega) ⟨.bl _, H, I, rfl, q⟩
  rw [List.size_toArray, List.size_toArray, ← r1.length, ← r2.length]
  simpa using hz
theorem op_len_ne {X : Cx} (hu : X.A.units + 64 < cLine) : OpR X (compareOp .NotEq) (rLen X.K true) := by
  intro pins s σ H x y v u Q I rx ry h
  obtain ⟨l, b, xs, zs, rfl, rfl, h1, h2, hz, q⟩ := h
  cases rx
  cases ry
  obtain ⟨its, r1, p1, _⟩ := I.list h1
  obtain ⟨its2, r2, p2, _⟩ := I.list h2
  refine SeqAt.RcNeAt.lists_lengths (plain_is p1) (plain_is p2) ?_ (by omega) X.prog X.w _ _ ⟨.bl _, H, I, rfl, q⟩
  rw [List.size_toArray, List.size_toArray, ← r1.length, ← r2.length]
  simpa using hz
theorem op_str_eq {X : Cx} : OpR X (compareOp .Eq) (rStr id) := by
  intro pins s σ H x y v u Q I rx ry h
  obtain ⟨i, j, rfl, rfl, q⟩ := h
  refine op_eq pins s σ H _ _ v u Q I rx ry ⟨rfl, ?_⟩
  have e : decide (V.str i = V.str j) = decide (i = j) := decide_eq_decide.mpr ⟨fun e => by cases e; rfl, fun e => by rw [e]⟩
  rw [e]
  exact q
theorem op_str_ne {X : Cx} : OpR X (compareOp .NotEq) (rStr not) := by
  intro pins s σ H x y v u Q I rx ry h
  obtain ⟨i, j, rfl, rfl, q⟩ := h
  refine op_ne pins s σ H _ _ v u Q I rx ry ⟨rfl, ?_⟩
  have e : decide (V.str i = V.str j) = decide (i = j) := decide_eq_decide.mpr ⟨fun e => by cases e; rfl, fun e => by rw [e]⟩
  rw [e]
  exact q
theorem op_eqU {X : Cx} (hu : X.A.units + 64 < cLine) : OpR X (compareOp .Eq) (rEqU X.K) := opr_or (op_eqD hu) (opr_or (op_len_eq hu) op_str_eq)
theorem op_neU {X : Cx} (hu : X.A.units + 64 < cLine) : OpR X (compareOp .NotEq) (rNeU X.K) := opr_or (op_neD hu) (opr_or (op_len_ne hu) op_str_ne)
/-- + of ints, lists, tuples, texts -/
def rPlus (K : PySem.W.Frag) : R2 := fun x y H Q => rI0 (fun i j => .int (i + j)) x y H Q ∨ rCatL K x y H Q ∨ rCatT K x y H Q ∨ (∃ i j, x = .str i ∧ y = .str j ∧ i.length + j.length ≤ sizeLine ∧ Q (.str (i ++ j)) H)
theorem op_plus {X : Cx} : OpR X (binaryOp .Add) (rPlus X.K) := opr_or op_add (opr_or op_catL (opr_or op_catT op_add_str))
/-- * of ints, a list and an int -/
def rTimes : R2 := fun x y H Q => rI CMul (fun i j => .int (i * j)) x y H Q ∨ rRep x y H Q ∨ rI CMulW (fun i j => .int (i * j)) x y H Q
theorem op_times {X : Cx} : OpR X (binaryOp .Mult) rTimes := opr_or op_mul (opr_or op_rep op_mulW)
def rModI : R2 := rI (fun _ j => 0 < j) fun i j => .int (i % j)
theorem op_modI {X : Cx} : OpR X (binaryOp .Mod) rModI := op_mod
def rDivI : R2 := rI CDivW fun i j => .int (i / j)
theorem op_divI {X : Cx} : OpR X (binaryOp .FloorDiv) rDivI := op_fdivW
def rPowI : R2 := rI CPow fun i j => .int (i ^ j.toNat)
theorem op_powI {X : Cx} : OpR X (binaryOp .Pow) rPowI := op_pow
def rMinus : R2 := rI0 fun i j => .int (i - j)
theorem op_minus {X : Cx} : OpR X (binaryOp .Sub) rMinus := op_sub
def rLtI : R2 := rI0 fun i j => .bl (decide (i < j))
def rLeI : R2 := rI0 fun i j => .bl (decide (i ≤ j))
def rGtI : R2 := rI0 fun i j => .bl (decide (j < i))
def rGeI : R2 := rI0 fun i j => .bl (decide (j ≤ i))
theorem op_ltI {X : Cx} : OpR X (compareOp .Lt) rLtI := op_lt
theorem op_leI {X : Cx} : OpR X (compareOp .LtE) rLeI := op_le
theorem op_gtI {X : Cx} : OpR X (compareOp .Gt) rGtI := op_gt
theorem op_geI {X : Cx} : OpR X (compareOp .GtE) rGeI := op_ge
def rIsNone : R2 := fun x y H Q => y = .non ∧ Q (.bl (decide (x = .non))) H
def rNotNone : R2 := fun x y H Q => y = .non ∧ Q (.bl (!decide (x = .non))) H
/-- type(x) is T -/
def rIsTyB : R2 := fun x y H Q => ∃ a b, x = .ty a ∧ y = .ty b ∧ Q (.bl (decide (a = b))) H
theorem op_isTy1 {X : Cx} : OpR X (compareOp .Is) rIsTyB := op_isTyB
theorem op_notTy1 {X : Cx} : OpR X (compareOp .IsNot) rNT := by
  intro pins s σ H x y v u Q I rx ry h
  exact op_isNotTy pins s σ H x y v u Q I rx ry h
def rNegI : V → Hp → VK → Prop := rU fun i => .int (-i)
theorem un_negI {X : Cx} : UnR X (unaryOp .USub) rNegI := un_neg
/-- len of a list, a tuple, a text -/
def rLenA (K : PySem.W.Frag) : List V → Hp → VK → Prop := fun xs H Q => (∃ p ys, xs = [.ref p] ∧ (SqL K H p ys ∨ SqT K H p ys) ∧ Q (.int ys.length) H) ∨ (∃ z, xs = [.str z] ∧ z.length ≤ sizeLine ∧ Q (.int z.length) H)
theorem call_lenA {X : Cx} : CallR X (.builtin "len") (rLenA X.K) := callr_or call_len_seq call_len_str
def rIntA : List V → Hp → VK → Prop := fun xs H Q => (∃ i, xs = [.int i] ∧ Q (.int i) H) ∨ ∃ k, xs = [.bl k] ∧ Q (.int (if k then 1 else 0)) H
theorem call_intA {X : Cx} : CallR X (.type "int") rIntA := call_int1
def rListA (K : PySem.W.Frag) : List V → Hp → VK → Prop := fun xs H Q => ∃ p ys, xs = [.ref p] ∧ (SqL K H p ys ∨ SqT K H p ys) ∧ ∀ l, H l = none → Q (.ref l) (upd H l (.lst ys))
theorem call_listA {X : Cx} : CallR X (.type "list") (rListA X.K) := call_list_of
def rAbsA : List V → Hp → VK → Prop := fun xs H Q => ∃ i, xs = [.int i] ∧ Q (.int (if i < 0 then -i else i)) H
theorem call_absA {X : Cx} : CallR X (.builtin "abs") rAbsA := call_abs
def rMax2A : List V → Hp → VK → Prop := fun xs H Q => ∃ i j, xs = [.int i, .int j] ∧ Q (.int (if j > i then j else i)) H
theorem call_max2A {X : Cx} (hc : X.calm = true) : CallR X (.builtin "max") rMax2A := call_max2 hc
def rMin2A : List V → Hp → VK → Prop := fun xs H Q => ∃ i j, xs = [.int i, .int j] ∧ Q (.int (if j < i then j else i)) H
theorem call_min2A {X : Cx} (hc : X.calm = true) : CallR X (.builtin "min") rMin2A := call_min2 hc

section
variable {K : PySem.W.Frag} {t : Option Addr} {ρ : Rho} {i : Nat} {d : PyData} {te ta tb tc : TE} {Q : PyData → Prop} {x y : PyData}
theorem DR_plusI (h : ∃ i j, x = .int i ∧ y = .int j ∧ Q (.int (i + j))) : DR K (rPlus K) x y Q := DR_l (DR_I0 (g' := fun i j => .int (i + j)) (fun _ _ _ => .int _) h)
theorem DR_minus (h : ∃ i j, x = .int i ∧ y = .int j ∧ Q (.int (i - j))) : DR K rMinus x y Q := DR_I0 (g' := fun i j => .int (i - j)) (fun _ _ _ => .int _) h
theorem DR_timesI (h : ∃ i j, x = .int i ∧ y = .int j ∧ CMul i j ∧ Q (.int (i * j))) : DR K rTimes x y Q := DR_l (DR_I (g' := fun i j => .int (i * j)) (fun _ _ _ => .int _) h)
theorem DR_mod (h : ∃ i j : Int, x = .int i ∧ y = .int j ∧ 0 < j ∧ Q (.int (i % j))) : DR K rModI x y Q := DR_I (g' := fun i j => .int (i % j)) (fun _ _ _ => .int _) h
theorem DR_div (h : ∃ i j : Int, x = .int i ∧ y = .int j ∧ CDivW i j ∧ Q (.int (i / j))) : DR K rDivI x y Q := DR_I (g' := fun i j => .int (i / j)) (fun _ _ _ => .int _) h
theorem DR_pow (h : ∃ i j : Int, x = .int i ∧ y = .int j ∧ CPow i j ∧ Q (.int (i ^ j.toNat))) : DR K rPowI x y Q := DR_I (g' := fun i j => .int (i ^ j.toNat)) (fun _ _ _ => .int _) h
theorem DR_lt (h : ∃ i j : Int, x = .int i ∧ y = .int j ∧ Q (.bool (decide (i < j)))) : DR K rLtI x y Q := DR_I0 (g' := fun i j => .bool (decide (i < j))) (fun _ _ _ => .bl _) h
theorem DR_le (h : ∃ i j : Int, x = .int i ∧ y = .int j ∧ Q (.bool (decide (i ≤ j)))) : DR K rLeI x y Q := DR_I0 (g' := fun i j => .bool (decide (i ≤ j))) (fun _ _ _ => .bl _) h
theorem DR_gt (h : ∃ i j : Int, x = .int i ∧ y = .int j ∧ Q (.bool (decide (j < i)))) : DR K rGtI x y Q := DR_I0 (g' := fun i j => .bool (decide (j < i))) (fun _ _ _ => .bl _) h
theorem DR_ge (h : ∃ i j : Int, x = .int i ∧ y = .int j ∧ Q (.bool (decide (j ≤ i)))) : DR K rGeI x y Q := DR_I0 (g' := fun i j => .bool (decide (j ≤ i))) (fun _ _ _ => .bl _) h
theorem DR_isN (h : y = .none ∧ Q (.bool (match x with | .none => true | _ => false))) : DR K rIsNone x y Q := fun v w F H e q1 q2 QK k => by
  obtain ⟨rfl, q⟩ := h
  cases q2
  refine ⟨rfl, k _ _ F H q (Gr.refl e) ?_⟩
  cases q1 <;> exact .bl _
theorem DR_notN (h : y = .none ∧ Q (.bool (match x with | .none => false | _ => true))) : DR K rNotNone x y Q := fun v w F H e q1 q2 QK k => by
  obtain ⟨rfl, q⟩ := h
  cases q2
  refine ⟨rfl, k _ _ F H q (Gr.refl e) ?_⟩
  cases q1 <;> exact .bl _
theorem DRL_cat {Q : List PyData → Prop} (h : ∃ ds es, x = .list ds ∧ y = .list es ∧ ds.length + es.length ≤ 100000 ∧ Q (ds ++ es)) : DRL K (rPlus K) x y Q := fun v w F H e q1 q2 QK k => by
  obtain ⟨ds, es, rfl, rfl, hl, q⟩ := h
  cases q1 with
  | @lst a xs _ s1 s2 =>
    cases q2 with
    | @lst b ys _ s3 s4 =>
      refine .inr (.inl ⟨a, b, xs, ys, rfl, rfl, Evl.ex_l e s1, Evl.ex_l e s3, Evl.sz_of (by rw [s2.len, s4.len]; exact hl), fun p n => ?_⟩)
      have g := Gr.free e (o := .lst (xs ++ ys)) n
      exact k _ p _ _ _ q g n (ex_none e n) upd_same (s2.app s4)
theorem DR_catS (h : ∃ a b, x = .str a ∧ y = .str b ∧ a.length + b.length ≤ 100000 ∧ Q (.str (a ++ b))) : DR K (rPlus K) x y Q := fun v w F H e q1 q2 QK k => by
  obtain ⟨a, b, rfl, rfl, hl, q⟩ := h
  cases q1
  cases q2
  exact .inr (.inr (.inr ⟨a, b, rfl, rfl, Evl.sz_of hl, k _ _ F H q (Gr.refl e) (.str _)⟩))
/-- a new list times an int -/
theorem rep_dqs {F : Hp} {ds : List PyData} {xs : List V} (h : Dqs K F ds xs) : ∀ n : Nat, Dqs K F (List.replicate n ds).flatten (List.replicate n xs).flatten
  | 0 => .nil
  | n + 1 => by
    rw [List.replicate_succ, List.replicate_succ, List.flatten_cons, List.flatten_cons]
    exact h.app (rep_dqs h n)
theorem DL_rep {Q : List PyData → Prop} (h : DL K t ta ρ fun ds => DE K t tb ρ fun y => ∃ z : Int, y = .int z ∧ -(2 ^ 62) ≤ z ∧ z < 2 ^ 62 ∧ ds.length * z.toNat ≤ 100000 ∧ Q (List.replicate z.toNat ds).flatten) : DL K t (tOp rTimes ta tb) ρ Q := fun F0 H0 F H σ A QK k =>
  h F0 H0 F H σ A _ fun ds p xs F1 H1 hb e1 n n1 n2 z => hb F0 H0 F1 H1 σ (A.step e1) _ fun y w F2 H2 hy e2 zy => by
    have A2 := (A.step e1).step e2
    obtain ⟨m, rfl, b1, b2, b3, q⟩ := hy
    cases zy
    have nt : t ≠ some p := (A.fs n).tap
    refine .inr (.inl ⟨p, m, xs, rfl, rfl, e2.g.hh p _ nt n2, by omega, by omega, Evl.sz_of (by rw [z.len]; exact b3), fun r hr => ?_⟩)
    have g := Gr.free A2.fh (o := .lst (List.replicate m.toNat xs).flatten) hr
    exact k _ r _ _ _ q ((e1.trans e2).trans (A2.stp g)) ((e1.trans e2).back hr) (ex_none A2.fh hr) upd_same (rep_dqs (z.up e2.ff) _)
theorem DU_neg (h : ∃ i : Int, x = .int i ∧ Q (.int (-i))) : DU K rNegI x Q := fun v F H e q1 QK k => by
  obtain ⟨i, rfl, q⟩ := h
  cases q1
  exact ⟨i, rfl, k _ _ F H q (Gr.refl e) (.int _)⟩
def lenD : PyData → Option Nat
  | .list ds => some ds.length
  | .tuple ds => some ds.length
  | .str z => if z.length ≤ 100000 then some z.length else none
  | _ => none
theorem DC_len {xs : List PyData} (h : ∃ x n, xs = [x] ∧ lenD x = some n ∧ Q (.int n)) : DC K (rLenA K) xs Q := fun vs F H e z QK k => by
  obtain ⟨x, n, rfl, hn, q⟩ := h
  obtain ⟨v, rfl, zx⟩ := dqs1 z
  cases zx with
  | @lst a xs ds s1 s2 =>
    cases hn
    exact .inl ⟨a, xs, rfl, .inl (Evl.ex_l e s1), by rw [s2.len]; exact k _ _ F H q (Gr.refl e) (.int _)⟩
  | @tup a xs ds s1 s2 =>
    cases hn
    exact .inl ⟨a, xs, rfl, .inr (Evl.ex_t e s1), by rw [s2.len]; exact k _ _ F H q (Gr.refl e) (.int _)⟩
  | str w =>
    have hn : (if w.length ≤ 100000 then some w.length else none) = some n := hn
    split at hn
    · rename_i hw
      cases hn
      exact .inr ⟨w, rfl, Evl.sz_of hw, k _ _ F H q (Gr.refl e) (.int _)⟩
    · cases hn
  | non => cases hn
  | bl => cases hn
  | int => cases hn
  | emp => cases hn
  | one => cases hn
theorem DE_lenOw {ds : List PyData} (h : ρ[i]? = some (.ow ds)) (q : Q (.int ds.length)) : DE K t (tCB (rLenA K) (tCons (tVar i) tNil)) ρ Q := fun F0 H0 F H σ A QK k => by
  obtain ⟨p, xs, e, h1, h2, h3, h4, h5⟩ := A.own h
  exact ⟨.ref p, e, .inl ⟨p, xs, rfl, .inl (.inl (.inl h1)), by rw [h5.len]; exact k _ _ F H q A.rfl (.int _)⟩⟩
theorem DC_int {xs : List PyData} (h : (∃ i, xs = [.int i] ∧ Q (.int i)) ∨ (∃ b : Bool, xs = [.bool b] ∧ Q (.int (if b then 1 else 0)))) : DC K rIntA xs Q := fun vs F H e z QK k => by
  rcases h with ⟨i, rfl, q⟩ | ⟨b, rfl, q⟩
  · obtain ⟨v, rfl, zx⟩ := dqs1 z
    cases zx
    exact .inl ⟨i, rfl, k _ _ F H q (Gr.refl e) (.int _)⟩
  · obtain ⟨v, rfl, zx⟩ := dqs1 z
    cases zx
    exact .inr ⟨b, rfl, k _ _ F H q (Gr.refl e) (.int _)⟩
theorem DCL_list {xs : List PyData} {Q : List PyData → Prop} (h : ∃ ds, (xs = [.list ds] ∨ xs = [.tuple ds]) ∧ Q ds) : DCL K (rListA K) xs Q := fun vs F H e z QK k => by
  obtain ⟨ds, h, q⟩ := h
  rcases h with rfl | rfl
  · obtain ⟨v, rfl, zx⟩ := dqs1 z
    cases zx with
    | @lst a xs ds s1 s2 => exact ⟨a, xs, rfl, .inl (Evl.ex_l e s1), fun p n => k _ p _ _ _ q (Gr.free e n) n (ex_none e n) upd_same s2⟩
  · obtain ⟨v, rfl, zx⟩ := dqs1 z
    cases zx with
    | @tup a xs ds s1 s2 => exact ⟨a, xs, rfl, .inr (Evl.ex_t e s1), fun p n => k _ p _ _ _ q (Gr.free e n) n (ex_none e n) upd_same s2⟩
theorem DC_abs {xs : List PyData} (h : ∃ i : Int, xs = [.int i] ∧ Q (.int (if i < 0 then -i else i))) : DC K rAbsA xs Q := fun vs F H e z QK k => by
  obtain ⟨i, rfl, q⟩ := h
  obtain ⟨v, rfl, zx⟩ := dqs1 z
  cases zx
  exact ⟨i, rfl, k _ _ F H q (Gr.refl e) (.int _)⟩
theorem DC_max2 {xs : List PyData} (h : ∃ i j : Int, xs = [.int i, .int j] ∧ Q (.int (max i j))) : DC K rMax2A xs Q := fun vs F H e z QK k => by
  obtain ⟨i, j, rfl, q⟩ := h
  obtain ⟨v, w, rfl, zx, zy⟩ := dqs2 z
  cases zx
  cases zy
  refine ⟨i, j, rfl, ?_⟩
  have em : (if j > i then j else i) = max i j := by
    split <;> omega
  rw [em]
  exact k _ _ F H q (Gr.refl e) (.int _)
theorem DC_min2 {xs : List PyData} (h : ∃ i j : Int, xs = [.int i, .int j] ∧ Q (.int (min i j))) : DC K rMin2A xs Q := fun vs F H e z QK k => by
  obtain ⟨i, j, rfl, q⟩ := h
  obtain ⟨v, w, rfl, zx, zy⟩ := dqs2 z
  cases zx
  cases zy
  refine ⟨i, j, rfl, ?_⟩
  have em : (if j < i then j else i) = min i j := by
    split <;> omega
  rw [em]
  exact k _ _ F H q (Gr.refl e) (.int _)
theorem DC_sum {xs : List PyData} (h : ∃ ns : List Int, xs = [.list (ns.map .int)] ∧ Q (.int ns.sum)) : DC K (rSum K) xs Q := fun vs F H e z QK k => by
  obtain ⟨ns, rfl, q⟩ := h
  obtain ⟨v, rfl, zx⟩ := dqs1 z
  cases zx with
  | @lst a xs ds s1 s2 =>
    have es := s2.ints
    subst es
    exact ⟨a, ns, rfl, Evl.ex_l e s1, k _ _ F H q (Gr.refl e) (.int _)⟩
theorem DC_all {xs : List PyData} (h : ∃ ns : List Bool, xs = [.list (ns.map .bool)] ∧ Q (.bool (ns.all id))) : DC K (rAll K) xs Q := fun vs F H e z QK k => by
  obtain ⟨ns, rfl, q⟩ := h
  obtain ⟨v, rfl, zx⟩ := dqs1 z
  cases zx with
  | @lst a xs ds s1 s2 =>
    have es := s2.bls
    subst es
    exact ⟨a, ns, rfl, Evl.ex_l e s1, k _ _ F H q (Gr.refl e) (.bl _)⟩
theorem DC_any {xs : List PyData} (h : ∃ ns : List Bool, xs = [.list (ns.map .bool)] ∧ Q (.bool (ns.any id))) : DC K (rAny K) xs Q := fun vs F H e z QK k => by
  obtain ⟨ns, rfl, q⟩ := h
  obtain ⟨v, rfl, zx⟩ := dqs1 z
  cases zx with
  | @lst a xs ds s1 s2 =>
    have es := s2.bls
    subst es
    exact ⟨a, ns, rfl, Evl.ex_l e s1, k _ _ F H q (Gr.refl e) (.bl _)⟩

/-! ### kinds -/
def tyD : PyData → String
  | .none => "NoneType"
  | .bool _ => "bool"
  | .int _ => "int"
  | .str _ => "str"
  | .list _ => "list"
  | .tuple _ => "tuple"
  | .dict _ => "dict"
theorem dq_ty {F H : Hp} (e : Ex F H) {v : V} (h : Dq K F x v) : TyX K H v (.type (tyD x)) := by
  cases h with
  | non => exact .base .non
  | bl b => exact .base (.bl b)
  | int i => exact .base (.int i)
  | str z => exact .base (.str z)
  | @lst a xs ds s1 s2 =>
    rcases s1 with (s1 | ⟨o, s1⟩) | ⟨o, its, n, s1, s3, _⟩
    · exact .base (.lst (e _ _ s1))
    · exact .base (.frz (e _ _ s1))
    · exact .kList s1 s3
  | @tup a xs ds s1 s2 =>
    rcases s1 with (s1 | ⟨o, s1⟩) | ⟨o, its, n, s1, s3, _⟩
    · exact .base (.tup (e _ _ s1))
    · exact .fTuple (e _ _ s1)
    · exact .kTuple s1 s3
  | emp s1 => exact .base (.dK (e _ _ s1))
  | one s1 => exact .base (.dK (e _ _ s1))
theorem dq_tyB {F H : Hp} (e : Ex F H) {v : V} (h : Dq K F x v) : TyB K H v (tyD x) := by
  cases h with
  | non => exact .non
  | bl b => exact .bl b
  | int i => exact .int i
  | str z => exact .str z
  | lst s1 s2 => exact .lst (Evl.ex_l e s1)
  | tup s1 s2 => exact .tup (Evl.ex_t e s1)
  | emp s1 => exact .dK (e _ _ s1)
  | one s1 => exact .dK (e _ _ s1)
/-- isinstance(x, T), T a built-in class: by its name -/
theorem DE_isi {n : String} (h : DE K t te ρ fun x => ∃ b, kitB (tyD x) n = some b ∧ Q (.bool b)) : DE K t (tCB (rIsi K) (tCons te (tCons (tC (.ty n)) tNil))) ρ Q := fun F0 H0 F H σ A QK k =>
  h F0 H0 F H σ A _ fun x v F1 H1 hq e1 z => by
    obtain ⟨b, hb, q⟩ := hq
    exact ⟨v, .ty n, _, _, b, rfl, .ty n, dq_ty e1.g.fh z, kit_ty hb, k _ _ F1 H1 q e1 (.bl b)⟩
/-- type(x) is T, type(x) is not T -/
theorem DE_tyIs {n : String} (h : DE K t te ρ fun x => Q (.bool (decide (tyD x = n)))) : DE K t (tOp rIsTyB (tCB (rTyp K) (tCons te tNil)) (tC (.ty n))) ρ Q := fun F0 H0 F H σ A QK k =>
  h F0 H0 F H σ A _ fun x v F1 H1 q e1 z => ⟨v, _, rfl, dq_tyB e1.g.fh z, _, n, rfl, rfl, k _ _ F1 H1 q e1 (.bl _)⟩
theorem DE_tyNot {n : String} (h : DE K t te ρ fun x => Q (.bool (!decide (tyD x = n)))) : DE K t (tOp rNT (tCB (rTyp K) (tCons te tNil)) (tC (.ty n))) ρ Q := fun F0 H0 F H σ A QK k =>
  h F0 H0 F H σ A _ fun x v F1 H1 q e1 z => ⟨v, _, rfl, dq_tyB e1.g.fh z, _, n, rfl, rfl, k _ _ F1 H1 q e1 (.bl _)⟩
/-- {} -/
theorem DE_emp (q : Q (.dict [])) : DE K t tDNewK ρ Q := fun F0 H0 F H σ A QK k p n => by
  have g := Gr.new A.fh (o := .dK []) n
  exact k _ _ _ _ q (A.stp g) (.emp upd_same)
end
end Cf
namespace Cf
open PySem PySem.Spec PyProof.Rows L2
open Evl (Ex)

/-! ### repr over data -/
section
variable {X : Cx} {pins : List (Addr × Obj)} {σ : L2.St} {H : Hp} {s : Shared}
theorem emp_dict (I : Inv X pins σ H s) {a : Addr} (h : H a = some (.dK [])) : (a == sysModules) = false ∧ ∃ o es n, s.heap.get? a = some o ∧ o.cls = .type "dict" ∧ o.data = .dict es n ∧ es.toList = [] := by
  obtain ⟨_, hs, vs, kv, o, es, ep, h1, h2, h3, _, h4, _⟩ := I.hok a _ h
  cases kv
  exact ⟨hs, o, es, ep, h1, h2.1, h3, List.length_eq_zero_iff.mp h4.length⟩
theorem one_dict (I : Inv X pins σ H s) {a : Addr} {k n : Int} (h : H a = some (.dK [(.inl k, .int n)])) : (a == sysModules) = false ∧ ∃ (o : Obj) (es : Array DictEntry) (m : Nat) (e : DictEntry) (tk tn : Tok), s.heap.get? a = some o ∧ o.cls = .type "dict" ∧ o.data = .dict es m ∧ es.toList = [e] ∧ e.key = .int k tk ∧ e.val = .int n tn := by
  obtain ⟨_, hs, vs, kv, o, es, ep, h1, h2, h3, _, h4, _⟩ := I.hok a _ h
  cases kv with
  | cons r t =>
    cases t
    obtain ⟨r1, r2⟩ := r
    obtain ⟨tn, r2⟩ := r2
    generalize he : es.toList = l at h4
    cases h4 with
    | cons e1 e2 t =>
      cases t
      rename_i e
      rw [← r1] at e1
      have e3 : keyIs (.inl k) e.key = true := e1
      rcases keyIs_shape e3 with ⟨i, tk, q1, q2⟩ | ⟨x, tk, q1, q2⟩
      · cases q1
        exact ⟨hs, o, es, ep, e, tk, tn, h1, h2.1, h3, he, q2, by rw [e2, r2]⟩
      · cases q1
mutual
theorem dq_reads (I : Inv X pins σ H s) : ∀ (d : PyData) (v : V) (u : Value), Dq X.K H d v → RelV v u → ∃ as, Reads s.heap u d as
  | .none, _, _, .non, r => by
    cases r
    exact ⟨_, Reads.none⟩
  | .bool _, _, _, .bl b, r => by
    cases r
    exact ⟨_, Reads.bool b⟩
  | .int _, _, _, .int i, r => by
    obtain ⟨t, rfl⟩ := r
    exact ⟨_, Reads.int i t⟩
  | .str _, _, _, .str x, r => by
    obtain ⟨t, rfl⟩ := r
    exact ⟨_, Reads.str x t⟩
  | .list ds, _, _, .lst h1 h2, r => by
    cases r
    obtain ⟨its, rv, ⟨o, n, ho, hc, _, hd⟩, _⟩ := I.list h1
    obtain ⟨as, hr⟩ := dqs_reads I ds _ its h2 rv
    exact ⟨_, Reads.list ho hc hd hr⟩
  | .tuple ds, _, _, .tup h1 h2, r => by
    cases r
    obtain ⟨its, rv, ⟨o, ho, hc, n, hd⟩, _⟩ := I.tuple h1
    obtain ⟨as, hr⟩ := dqs_reads I ds _ its h2 rv
    exact ⟨_, Reads.tuple ho hc hd hr⟩
  | .dict _, _, _, .emp h, r => by
    cases r
    obtain ⟨_, o, es, n, h1, h2, h3, h4⟩ := emp_dict I h
    refine ⟨_, Reads.dict (as := []) (bs := []) (kvs := []) h1 h2 h3 ?_ ?_⟩
    · rw [h4]
      exact .nil
    · rw [h4]
      exact .nil
  | .dict _, _, _, .one (k := k) (n := n) h, r => by
    cases r
    obtain ⟨_, o, es, m, e, tk, tn, h1, h2, h3, h4, h5, h6⟩ := one_dict I h
    refine ⟨_, Reads.dict (as := []) (bs := []) (kvs := [(.int k, .int n)]) h1 h2 h3 ?_ ?_⟩
    · rw [h4, List.map_cons, List.map_nil, h5]
      exact .cons (as := []) (bs := []) (Reads.int k tk) .nil
    · rw [h4, List.map_cons, List.map_nil, h6]
      exact .cons (as := []) (bs := []) (Reads.int n tn) .nil
theorem dqs_reads (I : Inv X pins σ H s) : ∀ (ds : List PyData) (vs : List V) (us : List Value), Dqs X.K H ds vs → Vals vs us → ∃ as, ReadsAll s.heap us ds as
  | [], _, _, .nil, r => by
    cases r
    exact ⟨_, ReadsAll.nil⟩
  | d :: ds, _, _, .cons h1 h2, r => by
    cases r with
    | cons r1 r2 =>
      obtain ⟨as, q1⟩ := dq_reads I d _ _ h1 r1
      obtain ⟨bs, q2⟩ := dqs_reads I ds _ _ h2 r2
      exact ⟨_, ReadsAll.cons q1 q2⟩
end
theorem rest_le {a b : Nat} {t : Nat} (h : a ≤ t) (h' : t ≤ b) : a ≤ b := Nat.le_trans h h'
mutual
theorem dq_repr {prog : Program} {w : World} (I : Inv X pins σ H s) : ∀ (d : PyData) (v : V) (u : Value), Dq X.K H d v → RelV v u → d.showable = true → d.shown.length ≤ sizeLine → ∃ bs, ReadAtMost s.heap d.depth bs ∧ ReprK prog w bs s.heap d.depth u d.shown
  | .none, _, _, .non, r, _, _ => by
    cases r
    exact ⟨[], (fun _ h => nomatch h), by simp only [PyData.shown]; exact .of_is ReprIs.none _ _ _⟩
  | .bool _, _, _, .bl b, r, _, _ => by
    cases r
    exact ⟨[], (fun _ h => nomatch h), by simp only [PyData.shown]; exact .of_is (ReprIs.bool b) _ _ _⟩
  | .int _, _, _, .int i, r, hs, _ => by
    obtain ⟨t, rfl⟩ := r
    exact ⟨[], (fun _ h => nomatch h), by simp only [PyData.shown]; exact .of_is (ReprIs.int t (by simpa [PyData.showable] using hs)) _ _ _⟩
  | .str _, _, _, .str x, r, _, hz => by
    obtain ⟨t, rfl⟩ := r
    exact ⟨[], (fun _ h => nomatch h), by simp only [PyData.shown]; exact .of_is (ReprIs.str x t (by simpa only [PyData.shown] using hz)) _ _ _⟩
  | .list ds, _, _, .lst (a := a) h1 h2, r, hs, hz => by
    have whole := dq_reads I (.list ds) _ _ (.lst h1 h2) r
    cases r
    obtain ⟨its, rv, ⟨o, n, ho, hc, _, hd⟩, _⟩ := I.list h1
    have hz2 : (listText (PyData.shownAll ds)).length ≤ sizeLine := by simpa only [PyData.shown] using hz
    obtain ⟨bs, hb, hk⟩ := dqs_repr (prog := prog) (w := w) I ds _ its h2 rv (by simpa [PyData.showable] using hs) (fun t ht => rest_le (listText_mem_le ht) hz2)
    obtain ⟨as, rd⟩ := whole
    have hna : a ∉ bs := not_mem_of_deeper rd (by simp only [PyData.depth]; omega) hb
    refine ⟨a :: bs, ReadAtMost.cons rd (by simp only [PyData.depth]; omega) hb, ?_⟩
    simp only [PyData.depth, PyData.shown]
    cases its with
    | nil =>
      have e0 : PyData.shownAll ds = [] := List.length_eq_zero_iff.mp (by simpa using hk.length_eq)
      rw [e0, listText_nil]
      exact ReprK.listEmpty ho hc hd
    | cons x l => exact ReprK.list ho hc hd hna (by simpa using hk.length_eq) fun i y e => hk.item i y (by simpa using e)
  | .tuple ds, _, _, .tup (a := a) h1 h2, r, hs, hz => by
    have whole := dq_reads I (.tuple ds) _ _ (.tup h1 h2) r
    cases r
    obtain ⟨its, rv, ⟨o, ho, hc, n, hd⟩, _⟩ := I.tuple h1
    have hz2 : (tupleText (PyData.shownAll ds)).length ≤ sizeLine := by simpa only [PyData.shown] using hz
    obtain ⟨bs, hb, hk⟩ := dqs_repr (prog := prog) (w := w) I ds _ its h2 rv (by simpa [PyData.showable] using hs) (fun t ht => rest_le (tupleText_mem_le ht) hz2)
    obtain ⟨as, rd⟩ := whole
    have hna : a ∉ bs := not_mem_of_deeper rd (by simp only [PyData.depth]; omega) hb
    refine ⟨a :: bs, ReadAtMost.cons rd (by simp only [PyData.depth]; omega) hb, ?_⟩
    simp only [PyData.depth, PyData.shown]
    exact ReprK.tuple ho hc hd hna hk
  | .dict _, _, _, .emp (a := a) h, r, hs, hz => by
    have whole := dq_reads I (.dict []) _ _ (.emp h) r
    cases r
    obtain ⟨ns, o, es, n, h1, h2, h3, h4⟩ := emp_dict I h
    obtain ⟨as, rd⟩ := whole
    have hna : a ∉ ([] : List Addr) := fun z => nomatch z
    refine ⟨[a], ReadAtMost.cons rd (n := 0) (by omega) (fun _ z => nomatch z), ?_⟩
    simp only [PyData.depth, PyData.shown]
    refine (ReprK.dict (d := 0) (as := []) (ps := []) h1 h2 h3 ns hna ?_).level_le (by omega)
    rw [h4]
    exact .nil
  | .dict _, _, _, .one (a := a) (k := k) (n := n) h, r, hs, hz => by
    have whole := dq_reads I (.dict [(.int k, .int n)]) _ _ (.one h) r
    cases r
    obtain ⟨ns, o, es, m, e, tk, tn, h1, h2, h3, h4, h5, h6⟩ := one_dict I h
    obtain ⟨as, rd⟩ := whole
    have hna : a ∉ ([] : List Addr) := fun z => nomatch z
    refine ⟨[a], ReadAtMost.cons rd (n := PyData.depth (.dict [(.int k, .int n)])) (by omega) (fun _ z => nomatch z), ?_⟩
    have hsk : PyData.showable (.int k) = true ∧ PyData.showable (.int n) = true := by simpa [PyData.showable, PyData.showableKv] using hs
    simp only [PyData.depth, PyData.depthKv, PyData.shown, PyData.shownKv]
    refine (ReprK.dict (d := 0) (as := []) h1 h2 h3 ns hna ?_).level_le (by omega)
    rw [h4]
    refine .cons ?_ ?_ .nil
    · rw [h5]
      exact .of_is (ReprIs.int tk (by simpa [PyData.showable] using hsk.1)) _ _ _
    · rw [h6]
      exact .of_is (ReprIs.int tn (by simpa [PyData.showable] using hsk.2)) _ _ _
theorem dqs_repr {prog : Program} {w : World} (I : Inv X pins σ H s) : ∀ (ds : List PyData) (vs : List V) (us : List Value), Dqs X.K H ds vs → Vals vs us → PyData.showableAll ds = true → (∀ t ∈ PyData.shownAll ds, t.length ≤ sizeLine) → ∃ bs, ReadAtMost s.heap (PyData.depthAll ds) bs ∧ ReprAllK prog w bs s.heap (PyData.depthAll ds) us (PyData.shownAll ds)
  | [], _, _, .nil, r, _, _ => by
    cases r
    exact ⟨[], (fun _ h => nomatch h), by simp only [PyData.shownAll]; exact .nil⟩
  | d :: ds, _, _, .cons h1 h2, r, hs, hz => by
    cases r with
    | cons r1 r2 =>
      have hs2 : d.showable = true ∧ PyData.showableAll ds = true := by simpa [PyData.showableAll] using hs
      obtain ⟨b1, m1, k1⟩ := dq_repr (prog := prog) (w := w) I d _ _ h1 r1 hs2.1 (hz _ (by simp only [PyData.shownAll]; exact List.mem_cons_self))
      obtain ⟨b2, m2, k2⟩ := dqs_repr (prog := prog) (w := w) I ds _ _ h2 r2 hs2.2 (fun t ht => hz t (by simp only [PyData.shownAll]; exact List.mem_cons_of_mem _ ht))
      refine ⟨b1 ++ b2, fun b hm => ?_, ?_⟩
      · simp only [PyData.depthAll]
        rcases List.mem_append.mp hm with hm | hm
        · obtain ⟨d2, as, r', l⟩ := m1 b hm
          exact ⟨d2, as, r', rest_le l (Nat.le_max_left _ _)⟩
        · obtain ⟨d2, as, r', l⟩ := m2 b hm
          exact ⟨d2, as, r', rest_le l (Nat.le_max_right _ _)⟩
      · simp only [PyData.depthAll, PyData.shownAll]
        exact .cons ((k1.more fun b hb => List.mem_append_left _ hb).level_le (Nat.le_max_left _ _)) (k2.more_le (fun b hb => List.mem_append_right _ hb) (Nat.le_max_right _ _))
end
end
def rReprD (K : PySem.W.Frag) : List V → Hp → VK → Prop := fun xs H Q => ∃ v d, xs = [v] ∧ Dq K H d v ∧ d.showable = true ∧ d.shown.length ≤ sizeLine ∧ d.depth ≤ 60 ∧ Q (.str d.shown) H
theorem call_reprD {X : Cx} (hg : X.A.guards = some []) (hu : X.A.units + 64 < cLine) : CallR X (.builtin "repr") (rReprD X.K) := by
  intro pins s σ H xs us Q I r h
  obtain ⟨v, d, rfl, hd, hs, hz, hdep, q⟩ := h
  obtain ⟨u, rfl, rv⟩ := vals1 r
  have fin : ∀ {x : Str} {t : Tok} {h' : Heap} {tk : Tok}, (∀ b o, s.heap.get? b = some o → h'.get? b = some o) → x = d.shown → EP X pins σ Q (.str x t) { s with heap := h', toks := tk } := fun {x t h' tk} k e => by
    subst e
    exact ⟨.str d.shown, H, I.kept (t' := tk) k, ⟨_, rfl⟩, q⟩
  cases hd with
  | non =>
    cases rv
    exact PySem.P.repr_of_none (fin (fun _ _ e => e) (by simp only [PyData.shown]))
  | bl b =>
    cases rv
    exact PySem.P.repr_of_bool (fin (fun _ _ e => e) (by simp only [PyData.shown]))
  | int i =>
    obtain ⟨t, rfl⟩ := rv
    exact PySem.P.repr_of_int (by simpa [PyData.showable] using hs) (fin (fun _ _ e => e) (by simp only [PyData.shown]))
  | str z =>
    obtain ⟨t, rfl⟩ := rv
    exact PySem.P.repr_of_str (fin (fun _ _ e => e) (by simp only [PyData.shown])) (by simpa only [PyData.shown] using hz)
  | @lst a xs ds h1 h2 =>
    cases rv
    obtain ⟨its, rv, ⟨o, n, ho, hc, _, hd⟩, _⟩ := I.list h1
    have hz2 : (listText (PyData.shownAll ds)).length ≤ sizeLine := by simpa only [PyData.shown] using hz
    obtain ⟨bs, hb, hk⟩ := dqs_repr (prog := X.prog) (w := X.w) I ds _ its h2 rv (by simpa [PyData.showable] using hs) (fun t ht => rest_le (listText_mem_le ht) hz2)
    obtain ⟨as, rd⟩ := dq_reads I (.list ds) _ _ (.lst h1 h2) rfl
    have hna : a ∉ bs := not_mem_of_deeper rd (by simp only [PyData.depth]; omega) hb
    have hd2 : PyData.depthAll ds + 1 ≤ 60 := by
      simp only [PyData.depth] at hdep
      omega
    refine call_repr_slot (by omega) ⟨o, ho, hc⟩ F.slot_list_repr.toG ?_
    cases its with
    | nil =>
      have e0 : PyData.shownAll ds = [] := List.length_eq_zero_iff.mp (by simpa using hk.length_eq)
      refine call_list_repr_empty ⟨o, ho, hc⟩ ho hd ⟨_, _, rfl, fin (fun _ _ e => e) ?_⟩
      simp only [PyData.shown]
      rw [e0, listText_nil]
    | cons x l =>
      refine call_list_reprK ho hc hd hna (by simpa using hk.length_eq) (fun i y e => hk.item i y (by simpa using e)) (A := X.A.in1) hg (fun b _ => Clear.nil b) (by show X.A.units + 1 + _ < _; omega) (fun _ _ e => e) (fun h' u tk hk => ⟨_, _, rfl, fin hk (by simp only [PyData.shown])⟩) hz2
  | @tup a xs ds h1 h2 =>
    cases rv
    obtain ⟨its, rv, ⟨o, ho, hc, n, hd⟩, _⟩ := I.tuple h1
    have hz2 : (tupleText (PyData.shownAll ds)).length ≤ sizeLine := by simpa only [PyData.shown] using hz
    obtain ⟨bs, hb, hk⟩ := dqs_repr (prog := X.prog) (w := X.w) I ds _ its h2 rv (by simpa [PyData.showable] using hs) (fun t ht => rest_le (tupleText_mem_le ht) hz2)
    obtain ⟨as, rd⟩ := dq_reads I (.tuple ds) _ _ (.tup h1 h2) rfl
    have hna : a ∉ bs := not_mem_of_deeper rd (by simp only [PyData.depth]; omega) hb
    have hd2 : PyData.depthAll ds + 1 ≤ 60 := by
      simp only [PyData.depth] at hdep
      omega
    refine call_repr_slot (by omega) ⟨o, ho, hc⟩ F.slot_tuple_repr ?_
    exact call_tuple_reprK ho hc hd hna hk (A := X.A.in1) hg (fun b _ => Clear.nil b) (by show X.A.units + 1 + _ < _; omega) (fun _ _ e => e) (fun h' u tk hk => ⟨_, _, rfl, fin hk (by simp only [PyData.shown])⟩) hz2
  | @emp a h1 =>
    cases rv
    obtain ⟨ns, o, es, n, g1, g2, g3, g4⟩ := emp_dict I h1
    refine call_repr_slot (by omega) ⟨o, g1, g2⟩ F.slot_dict_repr ?_
    exact call_dict_reprK (d := 0) (as := []) (ps := []) g1 g2 g3 ns (fun z => nomatch z) (by rw [g4]; exact .nil) (A := X.A.in1) hg (fun b _ => Clear.nil b) (by show X.A.units + 1 + _ < _; omega) (fun _ _ e => e) (fun h2 u tk hk => ⟨_, _, rfl, fin hk (by simp only [PyData.shown]; rfl)⟩) (by simpa only [PyData.shown, PyData.shownKv] using hz)
  | @one a k n h1 =>
    cases rv
    obtain ⟨ns, o, es, m, e, tk, tn, g1, g2, g3, g4, g5, g6⟩ := one_dict I h1
    refine call_repr_slot (by omega) ⟨o, g1, g2⟩ F.slot_dict_repr ?_
    have hsk : PyData.showable (.int k) = true ∧ PyData.showable (.int n) = true := by simpa [PyData.showable, PyData.showableKv] using hs
    exact call_dict_reprK (d := 0) (as := []) g1 g2 g3 ns (fun z => nomatch z) (by
      rw [g4]
      refine .cons (by rw [g5]; exact .of_is (ReprIs.int tk (by simpa [PyData.showable] using hsk.1)) _ _ _) (by rw [g6]; exact .of_is (ReprIs.int tn (by simpa [PyData.showable] using hsk.2)) _ _ _) .nil) (A := X.A.in1) hg (fun b _ => Clear.nil b) (by show X.A.units + 1 + _ < _; omega) (fun _ _ e => e) (fun h2 u tk hk => ⟨_, _, rfl, fin hk (by simp only [PyData.shown, PyData.shownKv])⟩) (by simpa only [PyData.shown, PyData.shownKv] using hz)
section
variable {K : PySem.W.Frag} {Q : PyData → Prop}
theorem DC_repr {xs : List PyData} (h : ∃ d, xs = [d] ∧ d.showable = true ∧ d.shown.length ≤ sizeLine ∧ d.depth ≤ 60 ∧ Q (.str d.shown)) : DC K (rReprD K) xs Q := fun vs F H e z QK k => by
  obtain ⟨d, rfl, h1, h2, h3, q⟩ := h
  obtain ⟨v, rfl, zx⟩ := dqs1 z
  exact ⟨v, d, rfl, zx.up e, h1, h2, h3, k _ _ F H q (Gr.refl e) (.str _)⟩
end
end Cf
namespace Cf
open PySem PySem.Spec PyProof.Rows L2
open Evl (Ex)

/-! ### a def's promise where no repr is under way -/
structure FnG (P : Program) (w : World) (K : PySem.W.Frag) (mg : Str → Option Value) (base : Heap) (CX : CXT) (k : Nat) (f : Addr) (fd : FuncData) (ps : List Str) (sp : Sp) : Prop where
  arity : ∀ vs H Q E, sp vs H Q E → vs.length = ps.length
  go : ∀ (A : Around) (outer : List Env) (s : Shared) (H : Hp) (args : Args) (us : List Value) (vs : List V) (Q : VK) (E : XK), A.guards = some [] → Room k A → Env0 P w K mg base A outer s H → BindsTo s fd args (ps.zip us) → Vals vs us →
    sp vs H Q E → codeAny (model P w) A (.call (.ref f) args) (CR CX outer P w H s Q E) s
section
variable {P : Program} {w : World} {K : PySem.W.Frag} {mg : Str → Option Value} {base : Heap} {CX : CXT} {k : Nat} {f : Addr} {fd : FuncData} {ps : List Str} {sp : Sp}
theorem FnG.more {j : Nat} (F : FnG P w K mg base CX j f fd ps sp) (h : j ≤ k) : FnG P w K mg base CX k f fd ps sp := ⟨F.arity, fun A outer s H args us vs Q E hg hr => F.go A outer s H args us vs Q E hg (hr.mono h)⟩
end
section
variable {X : Cx} {CX : CXT} {k : Nat} {f : Addr} {fd : FuncData} {ps : List Str} {sp : Sp} {E : XK} {x : Str} {p pos : Pos} {e : Expr} {es : List Expr} {t : TA}
theorem go_fn {pins : List (Addr × Obj)} {σ : L2.St} {H : Hp} {s : Shared} {Q : VK} {us : List Value} {vs : List V} (F : FnG X.prog X.w X.K X.mg X.base CX k f fd ps sp) (hgu : X.A.guards = some []) (hr : Room k X.A) (hb : Binds X.K fd ps [])
    (hx : Passes CX X E) (I : Inv X pins σ H s) (r : Vals vs us) (h : sp (vs ++ []) H Q E) : wpAny (model X.prog X.w) X.A (call (.ref f) us) (EP X pins σ Q) X.xe s := by
  rw [List.append_nil] at h
  have hl : (us ++ ([] : List Value)).length = ps.length := by
    rw [List.append_nil, ← r.length]
    exact F.arity _ _ _ _ h
  have bt := hb s us I.kIn hl
  rw [List.append_nil] at bt
  refine wpAny_call (codeAny_mono (F.go X.A X.stack s H ⟨us, []⟩ us vs Q E hgu hr I.env0 bt r h) fun z s2 hq => ?_)
  cases z with
  | error er => exact hx pins σ H s er s2 I hq
  | ok fl =>
    cases fl with
    | ret u => exact I.after hq
    | next => exact hq.elim
    | brk => exact hq.elim
    | cont => exact hq.elim
theorem pe_callG (F : FnG X.prog X.w X.K X.mg X.base CX k f fd ps sp) (hgu : X.A.guards = some []) (hr : Room k X.A) (hg : Gl X x) (hm : X.mg x = some (.ref f)) (hk : PySem.W.keepIn X.K (.ref f) = true) (hb : Binds X.K fd ps []) (hx : Passes CX X E) (ha : PA X (e :: es) t)
    (hdb : (x == ("__debug__" : Str)) = false := by decide) (he : starEach (e :: es) X.env = (false, eval e X.env) :: starEach es X.env := by rfl) (hpl : (backTo pos (starEach es X.env)).any (·.1) = false := by rfl) :
    PE X (.Call (.Name x p) (e :: es) [] pos) (tCall sp [] E t) := by
  constructor
  intro pins s σ H Q I h
  refine wpAny_Call_Name_kw (ld_glob I hg hm ?_ hdb)
  exact PySem.W.callWith_K (h₀ := X.base) I.ok.mod.kin hk (thn (ha.run pos pins s σ H _ I h) fun us s1 ⟨vs, H1, I1, r, q⟩ => ⟨I1.kIn, go_fn F hgu hr hb hx I1 r q⟩) he hpl
end
section
variable {P : Program} {w : World} {K : PySem.W.Frag} {mg : Str → Option Value} {base : Heap}
/-- a def of the text by its body -/
theorem fun_okG {CX : CXT} {x qual : Str} {st : Stmt} {f : Addr} {fd : FuncData} {N ps : List Str} {k : Nat} {sp : Sp} (F : Fun K x qual st f fd) (S : FnScope N ps (defScope st)) (len : ∀ vs H Q E, sp vs H Q E → vs.length = ps.length)
    (hbody : ∀ (cdv : Value) (A : Around) (outer : List Env) (s : Shared) (H : Hp) (vs : List V) (Q : VK) (E : XK), (A.deeper (envOfC qual (defScope st) s.heap.objs.size f cdv)).guards = some [] → Room k (A.deeper (envOfC qual (defScope st) s.heap.objs.size f cdv)) → sp vs H Q E →
      ∃ t, PSs (cxOf CX P w K mg base N qual (defScope st) f cdv A outer s H E).nox (defBody st) t ∧ t { nx := fun _ H' => Q .non H', rt := Q } (L2.start N vs) H) : FnG P w K mg base CX (k + 1) f fd ps sp := by
  obtain ⟨oc, od, kV, doc, pm, an, cdv, ct, osl, rfl, lk, hcd⟩ := F.ex
  refine ⟨len, fun A outer s H args us vs Q E hgu hr e0 hb r hsp => ?_⟩
  have hl := len _ _ _ _ hsp
  have KX : K.In s.heap := e0.mod.kin.keeps fun b o e => (e0.bs b o e).1
  have lim : s.heap.NoLimit := e0.mod.nolimit.keeps fun b o e => (e0.bs b o e).1
  have kinds : ∀ y ∈ ps.zip us, (defScope st).names.lookup y.1 = some .local ∨ ((defScope st).names.lookup y.1 = some .cell ∧ ((cellsFrom (s.heap.objs.size + 1) (defScope st).names []).lookup y.1).isSome = true) := by
    rintro ⟨n, v⟩ hy
    rcases S.par n (List.of_mem_zip hy).1 with q | q
    · exact .inl q
    · exact .inr ⟨q, PySem.W.cellsFrom_some _ _ _ (.inl q)⟩
  refine codeAny_call_function hr.depth (KX _ _ lk) rfl S.co S.gen rfl (PySem.W.codeRec_of KX hcd) (hb _ _ _ _ ?_)
  refine wpAny_newFunctionEnv_cells S.kind kinds fun env hEnv s1 inC => ?_
  subst hEnv
  refine ⟨lim.keeps inC.toInCall.keep, codeAny_func ?_⟩
  obtain ⟨t, ht, hq⟩ := hbody _ A outer s H vs Q E hgu (hr.deeper _) hsp
  have I : Inv (cxOf CX P w K mg base N qual (defScope st) f cdv A outer s H E) [] (L2.start N vs) H s1 := inv_start S hr.hd e0 hl r inC
  refine wpAny_mono (ht.nox.run [] s1 (L2.start N vs) H _ I hq) (fun fl s2 hs => ?_) fun _ _ hs => hs
  have done : ∀ {σ2 : L2.St} {H2 : Hp} {v : V} {u : Value}, Inv (cxOf CX P w K mg base N qual (defScope st) f cdv A outer s H E) [] σ2 H2 s2 → RelV v u → Q v H2 → CE outer P w H s Q u s2 :=
    fun {σ2 H2 v u} J rv q => ⟨v, H2, J.os, J.bare, J.base, J.hok, rv, q⟩
  cases fl with
  | ret u =>
    obtain ⟨v, σ2, H2, J, rv, q⟩ := hs
    exact done J rv q
  | next =>
    obtain ⟨σ2, H2, J, q⟩ := hs
    exact done (v := V.non) (u := Value.none) J rfl q
  | brk =>
    obtain ⟨_, _, _, q⟩ := hs
    exact q.elim
  | cont =>
    obtain ⟨_, _, _, q⟩ := hs
    exact q.elim
end
/-! ### the end of a law -/
/-- the law's promise: True, whatever the script -/
def spLaw (K : PySem.W.Frag) : Sp := fun vs H Q _ => ∃ (a : Addr) (ns : List Int), vs = [.ref a] ∧ SqL K H a (ns.map V.int) ∧ ns.length ≤ 63 ∧ (∀ b, H b = none ∨ ∃ o xs, H b = some (.frz o (.lst xs))) ∧ ∀ H', Q (.bl true) H'
theorem law_goes {P : Program} {w : World} {K : PySem.W.Frag} {mg mb : Str → Option Value} {CX : CXT} {k : Nat} {fa a : Addr} {fd : FuncData} {x : Str} {sp : Sp} {s₁ : Shared} {vs : List Value} {ns : List Int}
    (KX : K.In s₁.heap) (hns : s₁.heap.Ns mainGlobals mg) (hb : s₁.heap.Ns builtinsNs mb) (hbb : ∀ x : Str, x ≠ "__name__" → mb x = bootBuiltins x) (hlim : s₁.heap.NoLimit) (hg : s₁.gens = #[])
    (ha : s₁.heap.get? a = some { cls := .type "list", data := .seq vs.toArray }) (hi : IntsAre vs ns) (hl : ns.length ≤ sizeLine) (hr : Room k callerA)
    (F : ∀ base : Heap, K.In base → base.Ns mainGlobals mg → FnG P w K mg base CX k fa fd [x] sp) (hbind : ∀ (s : Shared) (u : Value), BindsTo s fd ⟨[u], []⟩ [(x, u)])
    (hsp : ∀ H : Hp, Only H → SqL K H a (ns.map V.int) → sp [.ref a] H (fun v _ => v = .bl true) fun _ _ _ => False)
    (hCX : ∀ H e s2, CX [] H s₁ (fun _ _ _ => False) e s2 → False) :
    codeAny (model P w) callerA (.call (.ref fa) ⟨[.ref a], []⟩) (fun r s2 => r = .ok (.ret (.bool true)) ∧ OldK s₁.heap s2.heap ∧ s2.os = s₁.os ∧ AllBare s2.gens) s₁ := by
  have rv := vals_ints hi
  have lenV := hi.length
  -- over any abstract heap that tracks the script at most
  have core : ∀ H : Hp, Only H → SqL K H a (ns.map V.int) → HOk P w H s₁.heap → (∀ b, H b ≠ none → b = a) → (H a ≠ none → K.lookup a = none) →
      codeAny (model P w) callerA (.call (.ref fa) ⟨[.ref a], []⟩) (fun r s2 => r = .ok (.ret (.bool true)) ∧ OldK s₁.heap s2.heap ∧ s2.os = s₁.os ∧ AllBare s2.gens) s₁ := by
    intro H only isL hok at1 kNo
    have free : ∀ b : Addr, b ≠ a → H b = none := fun b hb => by
      cases q : H b with
      | none => rfl
      | some u => exact absurd (at1 b (by rw [q]; simp)) hb
    have down : ∀ {b : Addr} {o : Obj}, s₁.heap.get? b = some o → H b = none → (hidT s₁.heap H).get? b = some o := fun e n => hidT_get e n
    have notD : ∀ {b : Addr} {o : Obj} {es : Array DictEntry} {ep : Nat}, s₁.heap.get? b = some o → o.data = .dict es ep → H b = none := fun {b o es ep} e d => free b fun z => by
      subst z
      rw [ha] at e
      cases e
      cases (show Data.seq vs.toArray _ = Data.dict es ep from d)
    have nsD : ∀ {b : Addr} {m : Str → Option Value}, s₁.heap.Ns b m → (hidT s₁.heap H).Ns b m := fun {b m} ⟨o, es, ep, e, d, r⟩ => ⟨o, es, ep, down e (notD e d), d, r⟩
    have kD : K.In (hidT s₁.heap H) := fun b o e => down (KX b o e) (by
      cases q : H b with
      | none => rfl
      | some u =>
        have z := at1 b (by rw [q]; simp)
        subst z
        rw [kNo (by rw [q]; simp)] at e
        cases e)
    have md : Mod K mg (hidT s₁.heap H) := ⟨kD, nsD hns, ⟨mb, nsD hb, hbb⟩, let ⟨mc, h1, h2⟩ := hlim; ⟨mc, nsD h1, h2⟩⟩
    have e0 : Env0 P w K mg (hidT s₁.heap H) callerA [] s₁ H :=
      ⟨rfl, md, fun b o e => of_hidT e, Nat.le_of_eq (hidT_size _ _), trivial, fun b z => absurd (show b ∈ ([] : List Addr) from z) (by simp), hok, .of_eq hg⟩
    refine codeAny_mono ((F _ kD (nsD hns)).go callerA [] s₁ H ⟨[.ref a], []⟩ [.ref a] [.ref a] _ _ rfl hr e0 (hbind s₁ (.ref a)) (.cons rfl .nil) (hsp H only isL)) fun r s2 h => ?_
    cases r with
    | error e => exact (hCX H e s2 h).elim
    | ok fl =>
      cases fl with
      | next => exact h.elim
      | brk => exact h.elim
      | cont => exact h.elim
      | ret u =>
        obtain ⟨v, H2, os, bare, un, hok2, r2, q⟩ := h
        obtain rfl : v = .bl true := q
        obtain rfl : u = Value.bool true := r2
        refine ⟨rfl, OldK.of_keep fun b o e => ?_, os, bare⟩
        cases q : H b with
        | none => exact un.keep b o e q (fun z => absurd (show b ∈ ([] : List Addr) from z) (by simp)) (by simp)
        | some u =>
          rcases only b with z | ⟨ob, xs, z⟩
          · rw [q] at z
            cases z
          · obtain ⟨e1, _⟩ := hok b _ z
            obtain ⟨e2, _⟩ := hok2 b _ (un.frzs b ob _ z)
            rw [e] at e1
            cases e1
            exact e2
  cases hk : K.lookup a with
  | some o =>
    have e := KX a o hk
    rw [ha] at e
    cases e
    refine core (fun _ => none) (fun _ => .inl rfl) (.inr ⟨_, vs.toArray, _, hk, rfl, rfl, rfl, by rw [List.size_toArray, lenV]; exact hl, by simpa using rv⟩) (fun b u z => ?_) (fun b z => absurd rfl z) fun z => absurd rfl z
    cases (show (none : Option HO) = some u from z)
  | none =>
    refine core (fun b => if b = a then some (.frz { cls := .type "list", data := .seq vs.toArray } (.lst (ns.map V.int))) else none) (fun b => ?_) (.inl (.inr ⟨{ cls := .type "list", data := .seq vs.toArray }, if_pos rfl⟩)) (fun b u z => ?_) (fun b z => ?_) fun _ => hk
    · by_cases hb : b = a
      · exact .inr ⟨_, _, if_pos hb⟩
      · exact .inl (if_neg hb)
    · by_cases hb : b = a
      · have z2 := (if_pos hb).symm.trans z
        cases z2
        subst hb
        exact ⟨ha, by rw [List.length_map]; exact hl, vs, _, rv, ha⟩
      · have z2 := (if_neg hb).symm.trans z
        cases z2
    · by_cases hb : b = a
      · exact hb
      · exact absurd (if_neg hb) z
/-- the goal behind k_head, by the law's promise -/
theorem walk_G {l : PySem.W.OpenLaw} {k : Nat} {q : Program} {loose : List Str} {XP : (Str → Option Value) → Heap → Prop} {YP : World → Heap → Prop} {d : DefRec} {K : Params → PySem.W.Frag} {x : Str}
    (hn : l.most = some 63) (hdf : d.params.defaults = []) (hr : Room k callerA) (hY : ∀ (w : World) (h : Heap), YP w h → (K w.params).In h)
    (F : ∀ (w : World) (mg : Str → Option Value) (fa : Addr) (h : Heap), (K w.params).In h → h.Ns mainGlobals mg → mg d.name = some (.ref fa) →
      ∃ fd : FuncData, (∀ (s : Shared) (u : Value), BindsTo s fd ⟨[u], []⟩ [(x, u)]) ∧
        ∀ base : Heap, (K w.params).In base → base.Ns mainGlobals mg → FnG l.prog w (K w.params) mg base CX0 k fa fd [x] (spLaw (K w.params))) :
    PySem.W.WalkO q loose XP YP l.row.toRowW d [] (fun f vs => PySem.call f vs) := by
  refine Att.attach_call hn hdf fun w s₀ s₁ mg mb fa o pm cd doc a vs ns G Y ho hd hcd hmg hobj hints hlen hg => ?_
  have KX := hY w _ Y
  obtain ⟨fd, hb, hF⟩ := F w mg fa _ KX G.T.g hmg
  exact law_goes KX G.T.g G.T.b G.T.builtins G.T.nolimit hg hobj hints (Nat.le_trans hlen (by decide)) hr hF hb (fun H hO hS => ⟨a, ns, rfl, hS, hlen, hO, fun _ => rfl⟩) fun _ _ _ h => h
end Cf
namespace Cf
open PySem PySem.Spec PyProof.Rows L2
open Evl (Ex)
/-! ### ranges of any size -/
theorem turn_long {P : Program} {w : World} {K : PySem.W.Frag} {tg : Expr} (it : Addr) (lo : Int) (n : Nat) : Turn P w K tg (Itr lo n) [it] it (fun i h => IsLongIter h it (lo + (i : Nat) * 1) ((n : Int) - (i : Nat)) 1) where
  mem := by simp
  obj := fun i h st b hb => by
    obtain rfl : b = it := by simpa using hb
    exact ⟨_, st, fun v z => by cases (show Data.fields _ = Data.cell v from z)⟩
  keep := fun i h h2 st k => k it (by simp) _ st
  item := by
    intro X hP hw hK hc i pins s σ H E I hf st hg
    subst hP hw hK
    obtain ⟨f0, f1, f2, f3, f4, f5⟩ := hf it (by simp)
    refine (Walks.longrange (prog := X.prog) (w := X.w) (I.ok.hd hc) it lo 1 n).item i s _ _ hg st fun v h2 tk hv st2 kk => ?_
    obtain ⟨t, rfl⟩ := hv
    have I1 : Inv X pins σ H { s with heap := h2, toks := tk } := I.turned (fun b o hb e => kk b o (by simpa using hb) e) f0 f1 f3 f4 f5
    refine ⟨_, rfl, go_of (s := { s with heap := h2, toks := tk }) (n := "longrange_iterator") st2 rfl rfl (by decide) ⟨.int (lo + i), H, I1, ⟨t, ?_⟩, ⟨rfl, rfl⟩, st2, fun b hb => (hf b hb).1⟩⟩
    rw [Int.mul_one]
  done := by
    intro X hP hw hK hc i pins s σ H E I hf st hg
    subst hP hw hK
    obtain ⟨f0, f1, f2, f3, f4, f5⟩ := hf it (by simp)
    exact wpAny_pyNext_long_end (I.ok.hd hc) st (by have : n ≤ i := hg; omega) fun h2 eb => ⟨rfl, I.turned (t' := s.toks) (fun b o hb e => eb b o hb e) f0 f1 f3 f4 f5⟩
  self := fun _ _ _ _ _ st h => wpAny_pyIter_longiter st h
section
variable {X : Cx} {tg : Expr}
theorem rg_it {pins : List (Addr × Obj)} {σ : L2.St} {H : Hp} {s : Shared} {R : It → Hp → Prop} {E : Value → Shared → Prop} {lo hi : Int} {t u v : Tok} {tk : Nat} (I : Inv X pins σ H s)
    (q : R (Itr lo (hi - lo).toNat) H) : wpAny (model X.prog X.w) X.A (pyIter (.ref s.heap.objs.size)) (PIE X pins σ tg R) E { s with heap := s.heap.push { cls := .type "range", data := .fields #[.int lo t, .int hi u, .int 1 v] }, toks := tk } := by
  have hR : IsRange (s.heap.push { cls := .type "range", data := .fields #[.int lo t, .int hi u, .int 1 v] }) s.heap.objs.size lo hi 1 t u v := IsRange.new ..
  have I1 : Inv X pins σ H { s with heap := s.heap.push { cls := .type "range", data := .fields #[.int lo t, .int hi u, .int 1 v] }, toks := tk } := I.kept fun b o e => Heap.get?_push_of_some _ e
  have e1 : lo + ((0 : Nat) : Int) * 1 = lo := by simp
  have e2 : (((hi - lo).toNat : Nat) : Int) - ((0 : Nat) : Int) = Builtin.Range.rangeSize lo hi 1 := by
    rw [rangeSize_one]
    split <;> omega
  cases hs : Builtin.Range.small lo hi 1 with
  | true =>
    refine wpAny_pyIter_range hR hs ?_
    refine ⟨(s.heap.push { cls := .type "range", data := .fields #[.int lo t, .int hi u, .int 1 v] }).objs.size, [(s.heap.push { cls := .type "range", data := .fields #[.int lo t, .int hi u, .int 1 v] }).objs.size], _, _, H, rfl,
      I1.kept (t' := tk) fun b o e => Heap.get?_push_of_some _ e, turn_range _ lo (hi - lo).toNat, ?_, fun b hb => ?_, q⟩
    · show IsRangeIter _ _ (lo + ((0 : Nat) : Int) * 1) ((((hi - lo).toNat : Nat) : Int) - ((0 : Nat) : Int)) 1
      rw [e1, e2]
      exact Heap.get?_push_size _ rfl
    · obtain rfl : b = (s.heap.push { cls := .type "range", data := .fields #[.int lo t, .int hi u, .int 1 v] }).objs.size := by simpa using hb
      exact I1.fpOk (Nat.le_refl _) (I1.hok.fresh (Nat.le_refl _))
  | false =>
    refine wpAny_pyIter_longrange hR hs ?_
    refine ⟨(s.heap.push { cls := .type "range", data := .fields #[.int lo t, .int hi u, .int 1 v] }).objs.size, [(s.heap.push { cls := .type "range", data := .fields #[.int lo t, .int hi u, .int 1 v] }).objs.size], _, _, H, rfl,
      I1.kept (t' := tk) fun b o e => Heap.get?_push_of_some _ e, turn_long _ lo (hi - lo).toNat, ?_, fun b hb => ?_, q⟩
    · show IsLongIter _ _ (lo + ((0 : Nat) : Int) * 1) ((((hi - lo).toNat : Nat) : Int) - ((0 : Nat) : Int)) 1
      rw [e1, e2]
      exact Heap.get?_push_size _ rfl
    · obtain rfl : b = (s.heap.push { cls := .type "range", data := .fields #[.int lo t, .int hi u, .int 1 v] }).objs.size := by simpa using hb
      exact I1.fpOk (Nat.le_refl _) (I1.hok.fresh (Nat.le_refl _))
theorem pi_rg1 {a : Expr} {ta : TA} {p pos : Pos} (hg : Gl X "range") (hm : X.mg "range" = none) (ha : PA X [a] ta) (hs : starEach [a] X.env = [(false, eval a X.env)] := by rfl) : PI X tg (.Call (.Name "range" p) [a] [] pos) (iRg1 ta) := by
  constructor
  intro pins s σ H R I h
  refine Call_ (ld_blt I hg hm boot_range (PyProof.Rows.callWith_type1 (thn (ha.run pos pins s σ H _ I h) fun us s1 ⟨vs, H1, I1, r1, q1⟩ => ?_) hs rfl))
  obtain ⟨j, rfl, q⟩ := q1
  obtain ⟨u, rfl, t, rfl⟩ := vals1 r1
  exact call_range_1 (rg_it I1 (by rw [Int.sub_zero]; exact q))
end
end Cf
namespace Cf
open PySem PySem.Spec PyProof.Rows L2
open Evl (Ex)
/-! ### what is known of data -/
def isInt : PyData → Bool | .int _ => true | _ => false
def isSign : PyData → Bool | .int i => decide (2 ≤ i ∧ i ≤ 4) | _ => false
def isIntL : PyData → Bool | .list ds => ds.all isInt | _ => false
def inSigns (s : Int) : PyData → Bool | .int i => decide (0 ≤ i ∧ i < s) | _ => false
def isWord (s : Int) : PyData → Bool | .list ds => ds.all (inSigns s) | _ => false
def shortD : PyData → Bool | .list ds => decide (ds.length < 100000) | .tuple ds => decide (ds.length < 100000) | .str z => decide (z.length < 100000) | _ => true
theorem kb_int (x : PyData) : kitB (tyD x) "int" = some (match x with | .int _ => true | .bool _ => true | _ => false) := by
  cases x with
  | none => exact (by decide +kernel : kitB "NoneType" "int" = some false)
  | bool b => exact (by decide +kernel : kitB "bool" "int" = some true)
  | int b => exact (by decide +kernel : kitB "int" "int" = some true)
  | str b => exact (by decide +kernel : kitB "str" "int" = some false)
  | list b => exact (by decide +kernel : kitB "list" "int" = some false)
  | tuple b => exact (by decide +kernel : kitB "tuple" "int" = some false)
  | dict b => exact (by decide +kernel : kitB "dict" "int" = some false)
theorem kb_bool (x : PyData) : kitB (tyD x) "bool" = some (match x with | .bool _ => true | _ => false) := by
  cases x with
  | none => exact (by decide +kernel : kitB "NoneType" "bool" = some false)
  | bool b => exact (by decide +kernel : kitB "bool" "bool" = some true)
  | int b => exact (by decide +kernel : kitB "int" "bool" = some false)
  | str b => exact (by decide +kernel : kitB "str" "bool" = some false)
  | list b => exact (by decide +kernel : kitB "list" "bool" = some false)
  | tuple b => exact (by decide +kernel : kitB "tuple" "bool" = some false)
  | dict b => exact (by decide +kernel : kitB "dict" "bool" = some false)
theorem kb_list (x : PyData) : kitB (tyD x) "list" = some (match x with | .list _ => true | _ => false) := by
  cases x with
  | none => exact (by decide +kernel : kitB "NoneType" "list" = some false)
  | bool b => exact (by decide +kernel : kitB "bool" "list" = some false)
  | int b => exact (by decide +kernel : kitB "int" "list" = some false)
  | str b => exact (by decide +kernel : kitB "str" "list" = some false)
  | list b => exact (by decide +kernel : kitB "list" "list" = some true)
  | tuple b => exact (by decide +kernel : kitB "tuple" "list" = some false)
  | dict b => exact (by decide +kernel : kitB "dict" "list" = some false)
theorem kb_tuple (x : PyData) : kitB (tyD x) "tuple" = some (match x with | .tuple _ => true | _ => false) := by
  cases x with
  | none => exact (by decide +kernel : kitB "NoneType" "tuple" = some false)
  | bool b => exact (by decide +kernel : kitB "bool" "tuple" = some false)
  | int b => exact (by decide +kernel : kitB "int" "tuple" = some false)
  | str b => exact (by decide +kernel : kitB "str" "tuple" = some false)
  | list b => exact (by decide +kernel : kitB "list" "tuple" = some false)
  | tuple b => exact (by decide +kernel : kitB "tuple" "tuple" = some true)
  | dict b => exact (by decide +kernel : kitB "dict" "tuple" = some false)

/-! ### the word that goes on by the shape of what is read -/
end Cf
/-! comprehensions whose items are told one by one -/
namespace Cf
open PySem PySem.Spec PyProof.Rows L2
open Evl (Ex)
section
variable {K : PySem.W.Frag} {t : Option Addr} {ρ : Rho} {i : Nat} {te tl : TE} {tr : TA} {Q : List PyData → Prop}
theorem take_snoc {α : Type} {l : List α} {k : Nat} {x : α} (h : l[k]? = some x) : l.take (k + 1) = l.take k ++ [x] := by
  rw [List.take_add_one, h]
  rfl
theorem DL_mapL {f : PyData → PyData} (h : DE K t tl ρ fun x => ∃ ds, x = .list ds ∧ ds.length < 100000 ∧ (∀ d ∈ ds, DE K t te (ρ.set i (.sh d)) fun y => y = f d) ∧ Q (ds.map f)) : DL K t (tLc (iList K tl) (gName i) tYes te [i]) ρ Q := by
  refine DL_lcL (h.mono fun x hx => ?_)
  obtain ⟨ds, rfl, hl, hs, q⟩ := hx
  refine ⟨ds, rfl, fun k acc => acc = (ds.take k).map f, rfl, fun k d acc hd e => ?_, fun acc e => ?_⟩
  · subst e
    have hk : k < ds.length := (List.getElem?_eq_some_iff.mp hd).1
    refine ⟨by rw [List.length_map, List.length_take]; omega, DT_yes (iteT ?_)⟩
    refine (hs d (List.mem_of_getElem? hd)).mono fun y e => ?_
    subst e
    try dsimp only
    rw [take_snoc hd, List.map_append]
    rfl
  · subst e
    rw [List.take_length]
    exact q
theorem DL_mapR1 {f : Nat → PyData} (h : DA K t tr ρ fun xs => ∃ n : Nat, xs = [.int n] ∧ n < 100000 ∧ (∀ k, k < n → DE K t te (ρ.set i (.sh (.int (k : Int)))) fun y => y = f k) ∧ Q ((List.range n).map f)) : DL K t (tLc (iRg1 tr) (gName i) tYes te [i]) ρ Q := by
  refine DL_lcR1 fun F0 H0 F H σ A QK k => h F0 H0 F H σ A QK fun xs vs F' H' hx e z => k xs vs F' H' ?_ e z
  obtain ⟨n, rfl, hn, hs, q⟩ := hx
  refine ⟨n, rfl, fun k acc => acc = (List.range k).map f, rfl, fun k acc hk e => ?_, fun acc e => ?_⟩
  · subst e
    have hk : k < n := by simpa using hk
    refine ⟨by rw [List.length_map, List.length_range]; omega, DT_yes (iteT ?_)⟩
    rw [Int.zero_add]
    refine (hs k hk).mono fun y e => ?_
    subst e
    try dsimp only
    rw [List.range_succ, List.map_append]
    rfl
  · have e : acc = (List.range n).map f := by simpa using e
    rw [e]
    exact q
/-- items that are drawn: ints of which P holds -/
theorem DL_intsR1 {P : Int → Prop} (h : DA K t tr ρ fun xs => ∃ n : Nat, xs = [.int n] ∧ n < 100000 ∧ (∀ k, k < n → DE K t te (ρ.set i (.sh (.int (k : Int)))) fun y => ∃ m, y = .int m ∧ P m) ∧ ∀ ns : List Int, ns.length = n → (∀ m ∈ ns, P m) → Q (ns.map .int)) :
    DL K t (tLc (iRg1 tr) (gName i) tYes te [i]) ρ Q := by
  refine DL_lcR1 fun F0 H0 F H σ A QK k => h F0 H0 F H σ A QK fun xs vs F' H' hx e z => k xs vs F' H' ?_ e z
  obtain ⟨n, rfl, hn, hs, q⟩ := hx
  refine ⟨n, rfl, fun k acc => ∃ ns : List Int, acc = ns.map .int ∧ ns.length = k ∧ ∀ m ∈ ns, P m, ⟨[], rfl, rfl, fun _ h => nomatch h⟩, fun k acc hk e => ?_, fun acc e => ?_⟩
  · obtain ⟨ns, rfl, hl, hp⟩ := e
    have hk : k < n := by simpa using hk
    refine ⟨by rw [List.length_map]; omega, DT_yes (iteT ?_)⟩
    rw [Int.zero_add]
    refine (hs k hk).mono fun y e => ?_
    obtain ⟨m, rfl, pm⟩ := e
    refine ⟨ns ++ [m], by rw [List.map_append]; rfl, by rw [List.length_append, hl]; rfl, fun x hx => ?_⟩
    rcases List.mem_append.mp hx with hx | hx
    · exact hp x hx
    · rw [List.mem_singleton.mp hx]
      exact pm
  · obtain ⟨ns, rfl, hl, hp⟩ := e
    exact q ns (by simpa using hl) hp
end
end Cf
/-! the program's words: what each def makes of data -/
namespace Cf
open PySem PySem.Spec PyProof.Rows L2
open Evl (Ex)
local macro_rules | `(tactic| walk_at "d") => `(tactic| first
  | (with_reducible refine DS_seq ?_)
  | (with_reducible refine DS_if ?_)
  | (with_reducible refine DS_ret ?_)
  | (with_reducible refine DS_next ?_)
  | (with_reducible refine DS_retN ?_)
  | (with_reducible refine DS_set ?_)
  | (with_reducible refine DS_drop ?_)
  | (with_reducible refine DS_unpack ?_)
  | (with_reducible refine DS_par ?_)
  | (with_reducible refine DE_int ?_)
  | (with_reducible refine DE_bl ?_)
  | (with_reducible refine DE_non ?_)
  | (with_reducible refine DE_str ?_)
  | (with_reducible refine DE_isi ?_)
  | (with_reducible refine DE_and ?_)
  | (with_reducible refine DE_or ?_)
  | (with_reducible refine DE_not ?_)
  | (with_reducible refine DE_if ?_)
  | (with_reducible refine DE_chain ?_)
  | (with_reducible refine DE_tyIs ?_)
  | (with_reducible refine DE_tyNot ?_)
  | (with_reducible refine DE_call ?_)
  | (with_reducible refine DE_cb ?_)
  | (with_reducible refine DE_op ?_)
  | (with_reducible refine DE_un ?_)
  | (with_reducible refine DE_tup ?_)
  | (with_reducible refine DT_test ?_)
  | (with_reducible refine DT_B ?_)
  | (with_reducible refine DT_and ?_)
  | (with_reducible refine DT_or ?_)
  | (with_reducible refine DT_not ?_)
  | (with_reducible refine DT_yes ?_)
  | (with_reducible refine DA_nil ?_)
  | (with_reducible refine DA_cons ?_)
  | (with_reducible refine DO_no ?_)
  | (with_reducible refine DO_at ?_)
  | (with_reducible refine DR_minus ?_)
  | (with_reducible refine DR_mod ?_)
  | (with_reducible refine DR_div ?_)
  | (with_reducible refine DR_pow ?_)
  | (with_reducible refine DR_lt ?_)
  | (with_reducible refine DR_le ?_)
  | (with_reducible refine DR_gt ?_)
  | (with_reducible refine DR_ge ?_)
  | (with_reducible refine DR_eq ?_)
  | (with_reducible refine DR_ne ?_)
  | (with_reducible refine DR_isN ?_)
  | (with_reducible refine DR_notN ?_)
  | (with_reducible refine DU_neg ?_)
  | (with_reducible refine DC_len ?_)
  | (with_reducible refine DC_int ?_)
  | (with_reducible refine DC_abs ?_)
  | (with_reducible refine DC_max2 ?_)
  | (with_reducible refine DC_min2 ?_)
  | (with_reducible refine DC_sum ?_)
  | (with_reducible refine DC_all ?_)
  | (with_reducible refine DC_any ?_)
  | (with_reducible refine DC_repr ?_)
  | (with_reducible refine ⟨_, kb_int _, ?_⟩)
  | (with_reducible refine ⟨_, kb_bool _, ?_⟩)
  | (with_reducible refine ⟨_, kb_list _, ?_⟩)
  | (with_reducible refine ⟨_, kb_tuple _, ?_⟩)
  | (with_reducible refine ⟨_, rfl, ?_⟩)
  | (with_reducible refine ⟨_, _, rfl, rfl, ?_⟩)
  | ((with_reducible refine' DE_var ?k1 ?_); (case k1 => exact rfl)))

abbrev LI (ns : List Int) : PyData := .list (ns.map .int)
/-- a def's body keeps W -/
abbrev Keeps (W : List PyData → (PyData → Prop) → Prop) (n : Nat) (tb : PySem.W.Frag → TS) : Prop :=
  ∀ (K : PySem.W.Frag) (ds : List PyData) (R : PyData → Prop), W ds R → ds.length ≤ n ∧ DS K none (tb K) (ds.map Sl.sh ++ List.replicate (n - ds.length) Sl.no) (fun _ => R .none) R NoR NoR

def W_is_integer (ds : List PyData) (R : PyData → Prop) : Prop := ∃ x, ds = [x] ∧ R (.bool (isInt x))
def t_is_integer (K : PySem.W.Frag) : TS :=
  (tRet (tAndV (tCB (rIsi K) (tCons (tVar 0) (tCons (tC (.ty "int")) tNil))) (tNotV (tCB (rIsi K) (tCons (tVar 0) (tCons (tC (.ty "bool")) tNil))))))
theorem ds_is_integer : Keeps W_is_integer 1 t_is_integer := by
  intro K ds R h
  obtain ⟨x, rfl, q⟩ := h
  refine ⟨by simp, ?_⟩
  show DS K _ (t_is_integer K) [.sh x] _ _ _ _
  unfold t_is_integer
  repeat walk_at "d"
  cases x with
  | int i =>
    refine iteT ?_
    repeat walk_at "d"
    exact q
  | bool i =>
    refine iteT ?_
    repeat walk_at "d"
    exact q
  | _ => exact iteF q

def W_is_sign_count (ds : List PyData) (R : PyData → Prop) : Prop := ∃ x, ds = [x] ∧ R (.bool (isSign x))
def t_is_sign_count (K : PySem.W.Frag) : TS :=
  (tRet (tAndV (tCall (spP K W_is_integer) [] E0 (tCons (tVar 0) tNil)) (tChain rLeI rLeI (tC (.int 2)) (tVar 0) (tC (.int 4)))))
theorem ds_is_sign_count : Keeps W_is_sign_count 1 t_is_sign_count := by
  intro K ds R h
  obtain ⟨x, rfl, q⟩ := h
  refine ⟨by simp, ?_⟩
  show DS K _ (t_is_sign_count K) [.sh x] _ _ _ _
  unfold t_is_sign_count
  repeat walk_at "d"
  refine ⟨x, rfl, _, rfl, ?_⟩
  cases x with
  | int i =>
    refine iteT ?_
    repeat walk_at "d"
    refine ite2 (fun h => ?_) fun h => ?_
    · repeat walk_at "d"
      have e : decide (i ≤ 4) = isSign (.int i) := by
        have h := of_decide_eq_true h
        show _ = decide _
        simp [h]
      rw [e]
      exact q
    · have e : isSign (.int i) = false := by
        show decide _ = false
        have h : ¬ 2 ≤ i := fun z => h (decide_eq_true z)
        exact decide_eq_false fun z => h z.1
      rw [e] at q
      exact q
  | _ => exact iteF q

def W_is_integer_list (ds : List PyData) (R : PyData → Prop) : Prop := ∃ x, ds = [x] ∧ shortD x = true ∧ R (.bool (isIntL x))
def t_is_integer_list (K : PySem.W.Frag) : TS :=
  (tRet (tAndV (tOp rIsTyB (tCB (rTyp K) (tCons (tVar 0) tNil)) (tC (.ty "list"))) (tCB (rAll K) (tCons (tLc (iList K (tVar 0)) (gName 1) tYes (tCall (spP K W_is_integer) [] E0 (tCons (tVar 1) tNil)) [1]) tNil))))
theorem ds_is_integer_list : Keeps W_is_integer_list 2 t_is_integer_list := by
  intro K ds R h
  obtain ⟨x, rfl, hs, q⟩ := h
  refine ⟨by simp, ?_⟩
  show DS K _ (t_is_integer_list K) [.sh x, .no] _ _ _ _
  unfold t_is_integer_list
  repeat walk_at "d"
  cases x with
  | list ds =>
    refine iteT ?_
    repeat walk_at "d"
    refine DE_new (DL_mapL (f := fun d => .bool (isInt d)) ?_)
    repeat walk_at "d"
    refine ⟨of_decide_eq_true hs, fun d _ => ?_, ?_⟩
    · repeat walk_at "d"
      exact ⟨d, rfl, rfl⟩
    · repeat walk_at "d"
      refine ⟨ds.map isInt, by simp, ?_⟩
      rw [List.all_map]
      exact q
  | _ => exact iteF q

def W_is_word (ds : List PyData) (R : PyData → Prop) : Prop := ∃ (s : Int) (x : PyData), ds = [.int s, x] ∧ shortD x = true ∧ R (.bool (isWord s x))
def t_is_word (K : PySem.W.Frag) : TS :=
  (tRet (tAndV (tCall (spP K W_is_integer_list) [] E0 (tCons (tVar 1) tNil)) (tCB (rAll K) (tCons (tLc (iList K (tVar 1)) (gName 2) tYes (tChain rLeI rLtI (tC (.int 0)) (tVar 2) (tVar 0)) [2]) tNil))))
theorem ds_is_word : Keeps W_is_word 3 t_is_word := by
  intro K ds R h
  obtain ⟨s, x, rfl, hs, q⟩ := h
  refine ⟨by simp, ?_⟩
  show DS K _ (t_is_word K) [.sh (.int s), .sh x, .no] _ _ _ _
  unfold t_is_word
  repeat walk_at "d"
  refine ⟨x, rfl, hs, _, rfl, ?_⟩
  cases x with
  | list ds =>
    refine ite2 (fun h => ?_) fun h => ?_
    · repeat walk_at "d"
      refine DE_new (DL_mapL (f := fun d => .bool (inSigns s d)) ?_)
      repeat walk_at "d"
      refine ⟨of_decide_eq_true hs, fun d hd => ?_, ?_⟩
      · have hi : isInt d = true := List.all_eq_true.mp h d hd
        cases d with
        | int i =>
          repeat walk_at "d"
          refine ite2 (fun h => ?_) fun h => ?_
          · repeat walk_at "d"
            have h := of_decide_eq_true h
            show _ = PyData.bool (decide _)
            simp [h]
          · have h : ¬ 0 ≤ i := fun z => h (decide_eq_true z)
            show _ = PyData.bool (decide _)
            rw [decide_eq_false (fun z => h z.1)]
        | _ => cases hi
      · repeat walk_at "d"
        refine ⟨ds.map (inSigns s), by simp, ?_⟩
        rw [List.all_map]
        exact q
    · have e : isWord s (.list ds) = false := by
        cases e : isWord s (.list ds) with
        | false => rfl
        | true =>
          refine absurd (List.all_eq_true.mpr fun d hd => ?_) h
          have := List.all_eq_true.mp e d hd
          cases d <;> first | rfl | cases this
      rw [e] at q
      exact q
  | _ => exact iteF q

def W_check_signs (ds : List PyData) (R : PyData → Prop) : Prop := ∃ x, ds = [x] ∧ isSign x = true ∧ R .none
def t_check_signs (K : PySem.W.Frag) : TS :=
  (tIfS (tNot (tB (tCall (spP K W_is_sign_count) [] E0 (tCons (tVar 0) tNil))))
    tNever
    tNext)
theorem ds_check_signs : Keeps W_check_signs 1 t_check_signs := by
  intro K ds R h
  obtain ⟨x, rfl, hs, q⟩ := h
  refine ⟨by simp, ?_⟩
  show DS K _ (t_check_signs K) [.sh x] _ _ _ _
  unfold t_check_signs
  repeat walk_at "d"
  refine ⟨x, rfl, _, rfl, ?_⟩
  rw [hs]
  refine iteF ?_
  repeat walk_at "d"
  exact q
end Cf
/-! words of signs, their numbers; rings -/
namespace Cf
/-- the number of a word -/
def num (s : Int) (w : List Int) : Int := w.foldl (fun a d => a * s + d) 0
theorem num_snoc (s : Int) (w : List Int) (d : Int) : num s (w ++ [d]) = num s w * s + d := by
  unfold num
  rw [List.foldl_append]
  rfl
theorem foldl_num (s : Int) : ∀ (w : List Int) (a : Int), w.foldl (fun a d => a * s + d) a = a * s ^ w.length + num s w
  | [], a => by simp [num]
  | d :: w, a => by
    show w.foldl _ (a * s + d) = _
    rw [foldl_num s w (a * s + d)]
    show _ = a * s ^ (w.length + 1) + w.foldl (fun a d => a * s + d) (0 * s + d)
    rw [foldl_num s w (0 * s + d), Int.zero_mul, Int.zero_add, Int.add_mul, Int.pow_succ, Int.mul_assoc a s, Int.mul_comm s (s ^ w.length), Int.add_assoc]
theorem num_cons (s d : Int) (w : List Int) : num s (d :: w) = d * s ^ w.length + num s w := by
  show w.foldl _ (0 * s + d) = _
  rw [foldl_num, Int.zero_mul, Int.zero_add]
theorem pow_pos' {s : Int} (h : 0 < s) : ∀ n : Nat, 0 < s ^ n
  | 0 => by simp
  | n + 1 => by
    rw [Int.pow_succ]
    exact Int.mul_pos (pow_pos' h n) h
theorem num_bound {s : Int} (hs : 0 < s) : ∀ w : List Int, (∀ d ∈ w, 0 ≤ d ∧ d < s) → 0 ≤ num s w ∧ num s w < s ^ w.length
  | [], _ => by simp [num]
  | d :: w, h => by
    have ih := num_bound hs w fun x hx => h x (List.mem_cons_of_mem _ hx)
    obtain ⟨h1, h2⟩ := h d List.mem_cons_self
    have hp := pow_pos' hs w.length
    rw [num_cons, List.length_cons, Int.pow_succ]
    have e1 : 0 ≤ d * s ^ w.length := Int.mul_nonneg h1 (Int.le_of_lt hp)
    have e2 : (d + 1) * s ^ w.length ≤ s * s ^ w.length := Int.mul_le_mul_of_nonneg_right (by omega) (Int.le_of_lt hp)
    rw [Int.add_mul, Int.one_mul] at e2
    rw [Int.mul_comm (s ^ w.length) s]
    omega
/-- the sign at a place of a ring, round it -/
def at_ (r : List Int) (z : Int) : Int := r.getD (z % r.length).toNat 0
/-- the word of l cells from a place on -/
def win (r : List Int) (z : Int) (l : Nat) : List Int := (List.range l).map fun (k : Nat) => at_ r (z + k)
theorem mod_lt {z : Int} {n : Nat} (h : 0 < n) : (z % (n : Int)).toNat < n ∧ (((z % (n : Int)).toNat : Nat) : Int) = z % n := by
  have h1 := Int.emod_nonneg z (show (n : Int) ≠ 0 by omega)
  have h2 := Int.emod_lt_of_pos z (show (0 : Int) < n by omega)
  omega
theorem at_get {r : List Int} (h : r ≠ []) (z : Int) : r[(z % r.length).toNat]? = some (at_ r z) := by
  have hp := (mod_lt (z := z) (List.length_pos_iff.mpr h)).1
  unfold at_
  rw [List.getD_eq_getElem?_getD, List.getElem?_eq_getElem hp]
  rfl
theorem at_mem {r : List Int} (h : r ≠ []) (z : Int) : at_ r z ∈ r := List.mem_of_getElem? (at_get h z)
def Signs (s : Int) (r : List Int) : Prop := ∀ d ∈ r, 0 ≤ d ∧ d < s
/-- the numbers of the words of l cells, for each cell -/
def nums (s : Int) (l : Nat) (r : List Int) (st : Int) : List Int := (List.range r.length).map fun (c : Nat) => num s (win r (st + c) l)
/-- how many words, if they are not too many -/
def cw (s l m : Int) : Option Int := if s ^ l.toNat ≤ m then some (s ^ l.toNat) else none
theorem pow_mono {s : Int} (h : 1 ≤ s) {a b : Nat} (hab : a ≤ b) : s ^ a ≤ s ^ b := by
  obtain ⟨c, rfl⟩ := Nat.exists_eq_add_of_le hab
  clear hab
  induction c with
  | zero => simp
  | succ c ih =>
    rw [← Nat.add_assoc, Int.pow_succ]
    have hp : 0 < s ^ (a + c) := pow_pos' (by omega) _
    have e : s ^ (a + c) * 1 ≤ s ^ (a + c) * s := Int.mul_le_mul_of_nonneg_left h (Int.le_of_lt hp)
    rw [Int.mul_one] at e
    omega
/-- the sum of a ring -/
def ringSum (s : Int) (l : Nat) (vs : List Int) (r : List Int) : Int := ((nums s l r 0).map fun n => vs.getD n.toNat 0).sum
end Cf
namespace Cf
open PySem PySem.Spec PyProof.Rows L2
open Evl (Ex)
local macro_rules | `(tactic| walk_at "d") => `(tactic| first
  | (with_reducible refine DS_seq ?_)
  | (with_reducible refine DS_if ?_)
  | (with_reducible refine DS_ret ?_)
  | (with_reducible refine DS_next ?_)
  | (with_reducible refine DS_retN ?_)
  | (with_reducible refine DS_set ?_)
  | (with_reducible refine DS_drop ?_)
  | (with_reducible refine DS_unpack ?_)
  | (with_reducible refine DS_par ?_)
  | (with_reducible refine DE_int ?_)
  | (with_reducible refine DE_bl ?_)
  | (with_reducible refine DE_non ?_)
  | (with_reducible refine DE_str ?_)
  | (with_reducible refine DE_isi ?_)
  | (with_reducible refine DE_and ?_)
  | (with_reducible refine DE_or ?_)
  | (with_reducible refine DE_not ?_)
  | (with_reducible refine DE_if ?_)
  | (with_reducible refine DE_chain ?_)
  | (with_reducible refine DE_tyIs ?_)
  | (with_reducible refine DE_tyNot ?_)
  | (with_reducible refine DE_call ?_)
  | (with_reducible refine DE_cb ?_)
  | (with_reducible refine DE_op ?_)
  | (with_reducible refine DE_un ?_)
  | (with_reducible refine DE_tup ?_)
  | (with_reducible refine DT_test ?_)
  | (with_reducible refine DT_B ?_)
  | (with_reducible refine DT_and ?_)
  | (with_reducible refine DT_or ?_)
  | (with_reducible refine DT_not ?_)
  | (with_reducible refine DT_yes ?_)
  | (with_reducible refine DA_nil ?_)
  | (with_reducible refine DA_cons ?_)
  | (with_reducible refine DO_no ?_)
  | (with_reducible refine DO_at ?_)
  | (with_reducible refine DR_minus ?_)
  | (with_reducible refine DR_mod ?_)
  | (with_reducible refine DR_div ?_)
  | (with_reducible refine DR_pow ?_)
  | (with_reducible refine DR_lt ?_)
  | (with_reducible refine DR_le ?_)
  | (with_reducible refine DR_gt ?_)
  | (with_reducible refine DR_ge ?_)
  | (with_reducible refine DR_eq ?_)
  | (with_reducible refine DR_ne ?_)
  | (with_reducible refine DR_isN ?_)
  | (with_reducible refine DR_notN ?_)
  | (with_reducible refine DU_neg ?_)
  | (with_reducible refine DC_len ?_)
  | (with_reducible refine DC_int ?_)
  | (with_reducible refine DC_abs ?_)
  | (with_reducible refine DC_max2 ?_)
  | (with_reducible refine DC_min2 ?_)
  | (with_reducible refine DC_sum ?_)
  | (with_reducible refine DC_all ?_)
  | (with_reducible refine DC_any ?_)
  | (with_reducible refine DC_repr ?_)
  | (with_reducible refine ⟨_, kb_int _, ?_⟩)
  | (with_reducible refine ⟨_, kb_bool _, ?_⟩)
  | (with_reducible refine ⟨_, kb_list _, ?_⟩)
  | (with_reducible refine ⟨_, kb_tuple _, ?_⟩)
  | (with_reducible refine ⟨_, rfl, ?_⟩)
  | (with_reducible refine ⟨_, _, rfl, rfl, ?_⟩)
  | ((with_reducible refine' DE_var ?k1 ?_); (case k1 => exact rfl)))

theorem shp_int (i : Int) : SeqAt.shaped (.int i) = true := rfl
def optD : Option Int → PyData | none => .none | some v => .int v
def W_count_words (ds : List PyData) (R : PyData → Prop) : Prop := ∃ s l m : Int, ds = [.int s, .int l, .int m] ∧ 2 ≤ s ∧ s ≤ 4 ∧ 1 ≤ m ∧ R (optD (cw s l m))
def t_count_words (K : PySem.W.Frag) : TS :=
  (tSeq (tAsg (tC (.int 1)) (gName 3))
    (tSeq (tFor (iRg1 (tCons (tVar 1) tNil)) (gName 4)
    (tSeq (tAsg (tOp rTimes (tVar 3) (tVar 0)) (gName 3))
    (tIfS (tTest (tOp rGtI (tVar 3) (tVar 2)))
    (tRet (tC .non))
    tNext)))
    (tRet (tVar 3))))
theorem ds_count_words : Keeps W_count_words 5 t_count_words := by
  intro K ds R h
  obtain ⟨s, l, m, rfl, s2, s4, m1, q⟩ := h
  refine ⟨by simp, ?_⟩
  show DS K _ (t_count_words K) [.sh (.int s), .sh (.int l), .sh (.int m), .no, .no] _ _ _ _
  unfold t_count_words
  repeat walk_at "d"
  refine DS_forR1 ?_
  repeat walk_at "d"
  refine ⟨fun k ρ => s ^ k ≤ m ∧ ∃ z, ρ = [.sh (.int s), .sh (.int l), .sh (.int m), .sh (.int (s ^ k)), z], ⟨by simpa using m1, .no, by simp⟩, fun k ρ hk hI => ?_, fun ρ hI => ?_⟩
  · obtain ⟨hm, z, rfl⟩ := hI
    repeat walk_at "d"
    refine DR_timesI ⟨_, _, rfl, rfl, .inr ⟨by omega, by omega⟩, ?_⟩
    repeat walk_at "d"
    refine ite2 (fun h => ?_) fun h => ?_
    · repeat walk_at "d"
      have h : m < s ^ k * s := of_decide_eq_true h
      have e : cw s l m = none := by
        unfold cw
        rw [if_neg]
        intro z
        have := pow_mono (s := s) (by omega) (show k + 1 ≤ l.toNat by omega)
        rw [Int.pow_succ] at this
        omega
      rw [e] at q
      exact q
    · repeat walk_at "d"
      have h : ¬ m < s ^ k * s := fun z => h (decide_eq_true z)
      refine ⟨by rw [Int.pow_succ]; omega, .sh (.int (0 + (k : Int))), ?_⟩
      rw [Int.pow_succ]
      rfl
  · obtain ⟨hm, z, rfl⟩ := hI
    repeat walk_at "d"
    have e : cw s l m = some (s ^ l.toNat) := if_pos hm
    rw [e] at q
    exact q

def W_number_of (ds : List PyData) (R : PyData → Prop) : Prop := ∃ (s : Int) (ns : List Int), ds = [.int s, LI ns] ∧ 2 ≤ s ∧ s ≤ 4 ∧ R (.int (num s ns))
def t_number_of (K : PySem.W.Frag) : TS :=
  (tSeq (tAsg (tC (.int 0)) (gName 2))
    (tSeq (tFor (iList K (tVar 1)) (gName 3)
    (tAsg (tOp (rPlus K) (tOp rTimes (tVar 2) (tVar 0)) (tVar 3)) (gName 2)))
    (tRet (tVar 2))))
def W_numbers_round1 (ds : List PyData) (R : PyData → Prop) : Prop := ∃ (s : Int) (l : Nat) (r : List Int) (st : Int), ds = [.int s, .int l, LI r, .int st] ∧ 2 ≤ s ∧ s ≤ 4 ∧ 1 ≤ l ∧ s ^ l ≤ 1024 ∧ l ≤ 1000 ∧ r ≠ [] ∧ r.length ≤ 5000 ∧ Signs s r ∧ R (LI (nums s l r st))
def t_numbers_round (K : PySem.W.Frag) : TS :=
  (tSeq (tAsg (tCB (rLenA K) (tCons (tVar 2) tNil)) (gName 4))
    (tSeq (tAsg (tCall (spP K W_count_words) [] E0 (tCons (tVar 0) (tCons (tVar 1) (tCons (tC (.int 1024)) tNil)))) (gName 5))
    (tSeq (tAsg (tOp rMinus (tOp (rPlus K) (tVar 3) (tVar 1)) (tC (.int 1))) (gName 6))
    (tSeq (tAsg (tCall (spP K W_number_of) [] E0 (tCons (tVar 0) (tCons (tLc (iRg2 (tCons (tVar 3) (tCons (tVar 6) tNil))) (gName 8) tYes (tOp (rIx K) (tVar 2) (tOp rModI (tVar 8) (tVar 4))) [8]) tNil))) (gName 7))
    (tSeq (tAsg (tLst tNil) (gName 9))
    (tSeq (tFor (iRg1 (tCons (tVar 4) tNil)) (gName 10)
    (tSeq (tAsg (tOp rModI (tOp (rPlus K) (tOp rTimes (tVar 7) (tVar 0)) (tOp (rIx K) (tVar 2) (tOp rModI (tOp (rPlus K) (tVar 6) (tVar 10)) (tVar 4)))) (tVar 5)) (gName 7))
    (tDrop (tBM K "list" rAppend (tVar 9) (tCons (tVar 7) tNil)))))
    (tRet (tVar 9))))))))
theorem atI_LI {r : List Int} (h : r ≠ []) (z : Int) : atI (r.map PyData.int) (z % r.length) = some (.int (at_ r z)) := by
  obtain ⟨h1, h2⟩ := mod_lt (z := z) (List.length_pos_iff.mpr h)
  rw [← h2]
  refine atI_nat ?_
  rw [List.getElem?_map, at_get h]
  rfl
def W_numbers_round (ds : List PyData) (R : PyData → Prop) : Prop := ∃ (s : Int) (l : Nat) (r : List Int) (st : Int), ds = [.int s, .int l, LI r, .int st] ∧ 2 ≤ s ∧ s ≤ 4 ∧ s ^ l ≤ 1024 ∧ l ≤ 1000 ∧ r ≠ [] ∧ r.length ≤ 5000 ∧ Signs s r ∧ R (LI (nums s l r st))
end Cf
namespace Cf
open PySem PySem.Spec PyProof.Rows L2
open Evl (Ex)
local macro_rules | `(tactic| walk_at "d") => `(tactic| first
  | (with_reducible refine DS_seq ?_)
  | (with_reducible refine DS_if ?_)
  | (with_reducible refine DS_ret ?_)
  | (with_reducible refine DS_next ?_)
  | (with_reducible refine DS_retN ?_)
  | (with_reducible refine DS_set ?_)
  | (with_reducible refine DS_drop ?_)
  | (with_reducible refine DS_unpack ?_)
  | (with_reducible refine DS_par ?_)
  | (with_reducible refine DE_int ?_)
  | (with_reducible refine DE_bl ?_)
  | (with_reducible refine DE_non ?_)
  | (with_reducible refine DE_str ?_)
  | (with_reducible refine DE_isi ?_)
  | (with_reducible refine DE_and ?_)
  | (with_reducible refine DE_or ?_)
  | (with_reducible refine DE_not ?_)
  | (with_reducible refine DE_if ?_)
  | (with_reducible refine DE_chain ?_)
  | (with_reducible refine DE_tyIs ?_)
  | (with_reducible refine DE_tyNot ?_)
  | (with_reducible refine DE_call ?_)
  | (with_reducible refine DE_cb ?_)
  | (with_reducible refine DE_op ?_)
  | (with_reducible refine DE_un ?_)
  | (with_reducible refine DE_tup ?_)
  | (with_reducible refine DT_test ?_)
  | (with_reducible refine DT_B ?_)
  | (with_reducible refine DT_and ?_)
  | (with_reducible refine DT_or ?_)
  | (with_reducible refine DT_not ?_)
  | (with_reducible refine DT_yes ?_)
  | (with_reducible refine DA_nil ?_)
  | (with_reducible refine DA_cons ?_)
  | (with_reducible refine DO_no ?_)
  | (with_reducible refine DO_at ?_)
  | (with_reducible refine DR_minus ?_)
  | (with_reducible refine DR_mod ?_)
  | (with_reducible refine DR_div ?_)
  | (with_reducible refine DR_pow ?_)
  | (with_reducible refine DR_lt ?_)
  | (with_reducible refine DR_le ?_)
  | (with_reducible refine DR_gt ?_)
  | (with_reducible refine DR_ge ?_)
  | (with_reducible refine DR_eq ?_)
  | (with_reducible refine DR_ne ?_)
  | (with_reducible refine DR_isN ?_)
  | (with_reducible refine DR_notN ?_)
  | (with_reducible refine DU_neg ?_)
  | (with_reducible refine DC_len ?_)
  | (with_reducible refine DC_int ?_)
  | (with_reducible refine DC_abs ?_)
  | (with_reducible refine DC_max2 ?_)
  | (with_reducible refine DC_min2 ?_)
  | (with_reducible refine DC_sum ?_)
  | (with_reducible refine DC_all ?_)
  | (with_reducible refine DC_any ?_)
  | (with_reducible refine DC_repr ?_)
  | (with_reducible refine ⟨_, kb_int _, ?_⟩)
  | (with_reducible refine ⟨_, kb_bool _, ?_⟩)
  | (with_reducible refine ⟨_, kb_list _, ?_⟩)
  | (with_reducible refine ⟨_, kb_tuple _, ?_⟩)
  | (with_reducible refine ⟨_, rfl, ?_⟩)
  | (with_reducible refine ⟨_, _, rfl, rfl, ?_⟩)
  | ((with_reducible refine' DE_var ?k1 ?_); (case k1 => exact rfl)))

def isRing (s : Int) : PyData → Bool | .list ds => isWord s (.list ds) && decide (1 ≤ ds.length ∧ ds.length ≤ 512) | _ => false
def W_is_ring (ds : List PyData) (R : PyData → Prop) : Prop := ∃ (s : Int) (x : PyData), ds = [.int s, x] ∧ 2 ≤ s ∧ s ≤ 4 ∧ shortD x = true ∧ R (.bool (isRing s x))
def t_is_ring (K : PySem.W.Frag) : TS :=
  (tSeq (tDrop (tCall (spP K W_check_signs) [] E0 (tCons (tVar 0) tNil)))
    (tRet (tAndV (tCall (spP K W_is_word) [] E0 (tCons (tVar 0) (tCons (tVar 1) tNil))) (tChain rLeI rLeI (tC (.int 1)) (tCB (rLenA K) (tCons (tVar 1) tNil)) (tC (.int 512))))))
theorem ds_is_ring : Keeps W_is_ring 2 t_is_ring := by
  intro K ds R h
  obtain ⟨s, x, rfl, s2, s4, hs, q⟩ := h
  refine ⟨by simp, ?_⟩
  show DS K _ (t_is_ring K) [.sh (.int s), .sh x] _ _ _ _
  unfold t_is_ring
  repeat walk_at "d"
  refine ⟨_, rfl, decide_eq_true ⟨s2, s4⟩, ?_⟩
  repeat walk_at "d"
  refine ⟨s, x, rfl, hs, _, rfl, ?_⟩
  cases x with
  | list ds =>
    refine ite2 (fun h => ?_) fun h => ?_
    · have e : isRing s (.list ds) = decide (1 ≤ ds.length ∧ ds.length ≤ 512) := by
        show (isWord s (.list ds) && _) = _
        rw [h, Bool.true_and]
      rw [e] at q
      repeat walk_at "d"
      refine ite2 (fun h2 => ?_) fun h2 => ?_
      · repeat walk_at "d"
        have h2 := of_decide_eq_true h2
        have e2 : decide ((ds.length : Int) ≤ 512) = decide (1 ≤ ds.length ∧ ds.length ≤ 512) := by
          apply decide_eq_decide.mpr
          omega
        rw [e2]
        exact q
      · have h2 : ¬ (1 : Int) ≤ ds.length := fun z => h2 (decide_eq_true z)
        have e2 : decide (1 ≤ ds.length ∧ ds.length ≤ 512) = false := decide_eq_false (by omega)
        rw [e2] at q
        exact q
    · have e : isRing s (.list ds) = false := by
        show (isWord s (.list ds) && _) = _
        cases e : isWord s (.list ds) with
        | false => rfl
        | true => exact absurd e h
      rw [e] at q
      exact q
  | _ => exact iteF q

def W_check_ring (ds : List PyData) (R : PyData → Prop) : Prop := ∃ (s : Int) (x : PyData), ds = [.int s, x] ∧ 2 ≤ s ∧ s ≤ 4 ∧ shortD x = true ∧ isRing s x = true ∧ R .none
def t_check_ring (K : PySem.W.Frag) : TS :=
  (tIfS (tNot (tB (tCall (spP K W_is_ring) [] E0 (tCons (tVar 0) (tCons (tVar 1) tNil)))))
    tNever
    tNext)
theorem ds_check_ring : Keeps W_check_ring 2 t_check_ring := by
  intro K ds R h
  obtain ⟨s, x, rfl, s2, s4, hs, hr, q⟩ := h
  refine ⟨by simp, ?_⟩
  show DS K _ (t_check_ring K) [.sh (.int s), .sh x] _ _ _ _
  unfold t_check_ring
  repeat walk_at "d"
  refine ⟨s, x, rfl, s2, s4, hs, _, rfl, ?_⟩
  rw [hr]
  refine iteF ?_
  repeat walk_at "d"
  exact q

def isWeight : PyData → Bool
  | .tuple [.int s, .int l, .list vs] => decide (2 ≤ s ∧ s ≤ 4) && decide (1 ≤ l) && vs.all isInt && decide (cw s l 1024 = some (vs.length : Int))
  | _ => false
/-- short, and the third item too -/
def shortW : PyData → Bool
  | .tuple [a, b, c] => shortD c
  | .list ds => decide (ds.length < 100000)
  | .tuple ds => decide (ds.length < 100000)
  | .str z => decide (z.length < 100000)
  | _ => true
def W_is_weight (ds : List PyData) (R : PyData → Prop) : Prop := ∃ (x : PyData), ds = [x] ∧ shortW x = true ∧ R (.bool (isWeight x))
def t_is_weight (K : PySem.W.Frag) : TS :=
  (tSeq (tIfS (tOr (tTest (tOp rNT (tCB (rTyp K) (tCons (tVar 0) tNil)) (tC (.ty "tuple")))) (tTest (tOp (rNeU K) (tCB (rLenA K) (tCons (tVar 0) tNil)) (tC (.int 3)))))
    (tRet (tC (.bl false)))
    tNext)
    (tSeq (tAsg (tVar 0) (gTup K 3 (gNames [1, 2, 3])))
    (tSeq (tIfS (tOr (tNot (tB (tCall (spP K W_is_sign_count) [] E0 (tCons (tVar 1) tNil)))) (tOr (tNot (tB (tCall (spP K W_is_integer) [] E0 (tCons (tVar 2) tNil)))) (tOr (tTest (tOp rLtI (tVar 2) (tC (.int 1)))) (tNot (tB (tCall (spP K W_is_integer_list) [] E0 (tCons (tVar 3) tNil)))))))
    (tRet (tC (.bl false)))
    tNext)
    (tRet (tOp (rEqU K) (tCB (rLenA K) (tCons (tVar 3) tNil)) (tCall (spP K W_count_words) [] E0 (tCons (tVar 1) (tCons (tVar 2) (tCons (tC (.int 1024)) tNil)))))))))
theorem eqv_opt (n : Int) (o : Option Int) : PyData.eqv (.int n) (optD o) = decide (o = some n) := by
  cases o with
  | none => rfl
  | some v =>
    show (n == v) = _
    rw [Bool.eq_iff_iff]
    simp
    exact ⟨fun h => h.symm, fun h => h.symm⟩
theorem shp_opt (o : Option Int) : SeqAt.shaped (optD o) = true := by
  cases o <;> rfl
def W_check_weight (ds : List PyData) (R : PyData → Prop) : Prop := ∃ (x : PyData), ds = [x] ∧ shortW x = true ∧ isWeight x = true ∧ R .none
def t_check_weight (K : PySem.W.Frag) : TS :=
  (tIfS (tNot (tB (tCall (spP K W_is_weight) [] E0 (tCons (tVar 0) tNil))))
    tNever
    tNext)
/-- a weight: signs, span, values -/
structure Wt (s : Int) (l : Nat) (vs : List Int) : Prop where
  s2 : 2 ≤ s
  s4 : s ≤ 4
  l1 : 1 ≤ l
  le : s ^ l ≤ 1024
  ln : s ^ l = (vs.length : Int)
abbrev wtD (s : Int) (l : Nat) (vs : List Int) : PyData := .tuple [.int s, .int l, LI vs]
theorem two_pow_le {s : Int} (h : 2 ≤ s) : ∀ l : Nat, (l : Int) + 1 ≤ s ^ l
  | 0 => by simp
  | l + 1 => by
    have ih := two_pow_le h l
    rw [Int.pow_succ]
    have : s ^ l * 2 ≤ s ^ l * s := Int.mul_le_mul_of_nonneg_left h (by omega)
    push_cast
    omega
theorem Wt.small {s : Int} {l : Nat} {vs : List Int} (h : Wt s l vs) : l ≤ 10 := by
  by_cases z : l ≤ 10
  · exact z
  · have h1 : s ^ 11 ≤ s ^ l := pow_mono (by have := h.s2; omega) (by omega)
    have h2 : (2 : Int) ^ 11 ≤ s ^ 11 := by
      have : ∀ n : Nat, (2 : Int) ^ n ≤ s ^ n := fun n => by
        induction n with
        | zero => simp
        | succ n ih =>
          rw [Int.pow_succ, Int.pow_succ]
          have a : (2 : Int) ^ n * 2 ≤ s ^ n * 2 := Int.mul_le_mul_of_nonneg_right ih (by decide)
          have b : s ^ n * 2 ≤ s ^ n * s := Int.mul_le_mul_of_nonneg_left h.s2 (Int.le_of_lt (pow_pos' (by have := h.s2; omega) n))
          omega
      exact this 11
    have := h.le
    have e : (2 : Int) ^ 11 = 2048 := by decide
    omega
theorem Wt.len {s : Int} {l : Nat} {vs : List Int} (h : Wt s l vs) : vs.length ≤ 1024 := by
  have := h.ln
  have := h.le
  omega
/-- a ring with s signs -/
structure Rg (s : Int) (r : List Int) : Prop where
  ne : r ≠ []
  le : r.length ≤ 512
  ok : Signs s r
theorem rg_is {s : Int} {r : List Int} (h : Rg s r) : isRing s (LI r) = true := by
  show ((r.map PyData.int).all (inSigns s) && decide (1 ≤ (r.map PyData.int).length ∧ (r.map PyData.int).length ≤ 512)) = true
  have h1 : (r.map PyData.int).all (inSigns s) = true := by
    rw [List.all_map]
    exact List.all_eq_true.mpr fun d hd => decide_eq_true (h.ok d hd)
  rw [h1, List.length_map]
  have := List.length_pos_iff.mpr h.ne
  have := h.le
  simp
  omega
def W_ring_sum (ds : List PyData) (R : PyData → Prop) : Prop := ∃ (s : Int) (l : Nat) (vs r : List Int), ds = [wtD s l vs, LI r] ∧ Wt s l vs ∧ r ≠ [] ∧ r.length ≤ 5000 ∧ Signs s r ∧ R (.int (ringSum s l vs r))
def t_ring_sum (K : PySem.W.Frag) : TS :=
  (tSeq (tAsg (tVar 0) (gTup K 3 (gNames [2, 3, 4])))
    (tRet (tCB (rSum K) (tCons (tLc (iList K (tCall (spP K W_numbers_round) [] E0 (tCons (tVar 2) (tCons (tVar 3) (tCons (tVar 1) (tCons (tC (.int 0)) tNil)))))) (gName 5) tYes (tOp (rIx K) (tVar 4) (tVar 5)) [5]) tNil))))
theorem atI_ok {vs : List Int} {z : Int} (h0 : 0 ≤ z) (h1 : z < vs.length) : atI (vs.map PyData.int) z = some (.int (vs.getD z.toNat 0)) := by
  obtain ⟨n, rfl⟩ := Int.eq_ofNat_of_zero_le h0
  refine atI_nat ?_
  have hn : n < vs.length := by omega
  rw [List.getElem?_map, List.getElem?_eq_getElem hn]
  simp [List.getD_eq_getElem?_getD, List.getElem?_eq_getElem hn]
def W_sum_of (ds : List PyData) (R : PyData → Prop) : Prop := ∃ (s : Int) (l : Nat) (vs r : List Int), ds = [wtD s l vs, LI r] ∧ Wt s l vs ∧ Rg s r ∧ R (.int (ringSum s l vs r))
def t_sum_of (K : PySem.W.Frag) : TS :=
  (tSeq (tDrop (tCall (spP K W_check_weight) [] E0 (tCons (tVar 0) tNil)))
    (tSeq (tDrop (tCall (spP K W_check_ring) [] E0 (tCons (tOp (rIx K) (tVar 0) (tC (.int 0))) (tCons (tVar 1) tNil))))
    (tRet (tCall (spP K W_ring_sum) [] E0 (tCons (tVar 0) (tCons (tVar 1) tNil))))))
end Cf
namespace Cf
open PySem PySem.Spec PyProof.Rows L2
open Evl (Ex)
abbrev KeepsT (W : List PyData → (PyData → Prop) → Prop) (n : Nat) (tb : PySem.W.Frag → TS) : Prop :=
  ∀ (K : PySem.W.Frag) (a : Addr) (ds : List PyData) (R : PyData → Prop), W ds R → ds.length + 1 ≤ n ∧ DS K (some a) (tb K) (Sl.tp :: ds.map Sl.sh ++ List.replicate (n - (ds.length + 1)) Sl.no) (fun _ => R .none) R NoR NoR
/-- a number below the bound -/
def W__law_draw (ds : List PyData) (R : PyData → Prop) : Prop := ∃ b : Int, ds = [.int b] ∧ 0 < b ∧ b < 2 ^ 8000 ∧ ∀ r : Int, 0 ≤ r → r < b → R (.int r)
def t__law_draw (K : PySem.W.Frag) : TS :=
  (tSeq (tIfS (tTest (tOp rGeI (tOp (rIx K) (tVar 0) (tC (.int 0))) (tOp rPowI (tC (.int 10)) (tC (.int 18)))))
    (tSeq (tAsg (tOp rModI (tCB rIntA (tCons (tOp (rIx K) (tVar 0) (tC (.int 0))) tNil)) (tVar 1)) (gName 2))
    (tSeq (tAsg (tOp rDivI (tOp (rIx K) (tVar 0) (tC (.int 0))) (tVar 1)) (gSub (tVar 0) (tC (.int 0)) rSetL))
    (tRet (tVar 2))))
    tNext)
    (tSeq (tAsg (tOp rModI (tCB rIntA (tCons (tOp (rPlus K) (tOp rTimes (tOp (rIx K) (tVar 0) (tC (.int 1))) (tC (.int 69069))) (tC (.int 40503))) tNil)) (tC (.int 4294967291))) (gSub (tVar 0) (tC (.int 1)) rSetL))
    (tSeq (tAsg (tOp rModI (tCB rIntA (tCons (tOp (rPlus K) (tOp rTimes (tOp (rIx K) (tVar 0) (tC (.int 2))) (tOp (rIx K) (tVar 0) (tC (.int 2)))) (tOp (rIx K) (tVar 0) (tC (.int 1)))) tNil)) (tC (.int 2147483587))) (gSub (tVar 0) (tC (.int 2)) rSetL))
    (tRet (tOp rModI (tCB rIntA (tCons (tOp (rPlus K) (tOp rDivI (tOp (rIx K) (tVar 0) (tC (.int 1))) (tC (.int 32))) (tOp rDivI (tOp (rIx K) (tVar 0) (tC (.int 2))) (tC (.int 16)))) tNil)) (tVar 1))))))
theorem div_nn {x b : Int} (hx : 0 ≤ x) (hb : 0 < b) : 0 ≤ x / b := Int.ediv_nonneg hx (by omega)
theorem wide_any {i j : Int} (h : 0 < j) (hb : j < 2 ^ 8000) : CDivW i j := wide_div h (b := 8000) (by
  have e : ((j.natAbs : Nat) : Int) = j := Int.natAbs_of_nonneg (by omega)
  have e2 : ((2 ^ 8000 : Nat) : Int) = (2 : Int) ^ 8000 := by rw [Int.natCast_pow]; rfl
  have : ((j.natAbs : Nat) : Int) < ((2 ^ 8000 : Nat) : Int) := by rw [e, e2]; exact hb
  exact Int.ofNat_lt.mp this) (by decide) (by decide)
end Cf
namespace Cf
open PySem PySem.Spec PyProof.Rows L2
open Evl (Ex)
section
variable {K : PySem.W.Frag} {t : Option Addr} {ρ : Rho} {i : Nat} {te : TE}
/-- the promise of a def that makes a new list of its own -/
def spF (K : PySem.W.Frag) (W : List PyData → (List PyData → Prop) → Prop) : Sp := fun vs H Q _ => ∃ F ds R, Ex F H ∧ Dqs K F ds vs ∧ W ds R ∧
  ∀ es p xs F' H', R es → Gr none F H F' H' → H p = none → F' p = none → H' p = some (.lst xs) → Dqs K F' es xs → Q (.ref p) H'
theorem DL_callF {W : List PyData → (List PyData → Prop) → Prop} {E : XK} {tr : TA} {Q : List PyData → Prop} (h : DA K t tr ρ fun ds => W ds Q) : DL K t (tCall (spF K W) [] E tr) ρ Q := fun F0 H0 F H σ A QK k =>
  h F0 H0 F H σ A _ fun ds vs F1 H1 hq e1 z => ⟨F1, ds, Q, e1.g.fh, by rw [List.append_nil]; exact z, hq, fun es p xs F' H' q g n1 n2 n3 zd => k es p xs F' H' q (e1.trans ((A.step e1).stp g)) (e1.back n1) n2 n3 zd⟩
def DSF (K : PySem.W.Frag) (ts : TS) (ρ : Rho) (R : List PyData → Prop) : Prop := ∀ (F0 H0 F H : Hp) (σ : L2.St) (D : Ends), At K none F0 H0 F H σ ρ →
  (∀ es p xs F' H', R es → Gr none F H F' H' → H p = none → F' p = none → H' p = some (.lst xs) → Dqs K F' es xs → D.rt (.ref p) H') → ts D σ H
theorem DSF_ret {R : List PyData → Prop} (h : DL K none te ρ R) : DSF K (tRet te) ρ R := fun F0 H0 F H σ D A k => h F0 H0 F H σ A _ fun es p xs F' H' q e n n1 n2 z => k es p xs F' H' q e.g n n1 n2 z
theorem DSF_set {t2 : TS} {R : List PyData → Prop} (h : DE K none te ρ fun d => DSF K t2 (ρ.set i (.sh d)) R) : DSF K (tSeq (tAsg te (gName i)) t2) ρ R := fun F0 H0 F H σ D A k =>
  h F0 H0 F H σ A _ fun d v F1 H1 q e z => q F0 H0 F1 H1 _ D ((A.step e).set (s := .sh d) ⟨v, rfl, z⟩ fun _ e => by cases e) fun es p xs F' H' q g n n1 n2 z =>
    k es p xs F' H' q (e.g.trans g fun a z => by cases z) (e.back n) n1 n2 z
theorem run_F {W : List PyData → (List PyData → Prop) → Prop} {N : List Str} {vs : List V} {H : Hp} {Q : VK} {E : XK} {ts : TS} (h : spF K W vs H Q E)
    (b : ∀ ds R, W ds R → ds.length ≤ N.length ∧ DSF K ts (ds.map Sl.sh ++ List.replicate (N.length - ds.length) Sl.no) R) : ts { nx := fun _ H' => Q .non H', rt := Q } (L2.start N vs) H := by
  obtain ⟨F, ds, R, e, z, hW, k⟩ := h
  obtain ⟨hl, b⟩ := b ds R hW
  have A : At K none F H F H (L2.start N vs) (ds.map Sl.sh ++ List.replicate (N.length - ds.length) Sl.no) := by
    refine ⟨Gr.refl e, ?_, fun i o s h1 h2 => ?_, fun i j p es fs n h1 => ?_, fun a q => by cases q⟩
    · unfold L2.start
      simp [z.len]
    · unfold L2.start at h1
      by_cases hi : i < ds.length
      · rw [List.getElem?_append_left (by simpa [z.len] using hi), List.getElem?_map] at h1
        rw [List.getElem?_append_left (by simpa using hi), List.getElem?_map] at h2
        rw [List.getElem?_eq_getElem hi] at h2
        cases h2
        obtain ⟨v, hv, zd⟩ := z.at (i := i) (List.getElem?_eq_getElem hi)
        rw [hv] at h1
        cases h1
        exact ⟨v, rfl, zd⟩
      · rw [List.getElem?_append_right (by simpa using hi)] at h2
        have := List.mem_of_getElem? h2
        have := (List.mem_replicate.mp this).2
        subst this
        trivial
    · have := List.mem_of_getElem? h1
      rcases List.mem_append.mp this with m | m
      · obtain ⟨d, _, m⟩ := List.mem_map.mp m
        cases m
      · have := (List.mem_replicate.mp m).2
        cases this
  exact b F H F H _ _ A fun es p xs F' H' q g n n1 n2 z => k es p xs F' H' q g n n1 n2 z
theorem DC_list {xs : List PyData} {Q : PyData → Prop} (h : ∃ ds, (xs = [.list ds] ∨ xs = [.tuple ds]) ∧ Q (.list ds)) : DC K (rListA K) xs Q := fun vs F H e z QK k => by
  obtain ⟨ds, h, q⟩ := h
  refine DCL_list (Q := fun ds => Q (.list ds)) ⟨ds, h, q⟩ vs F H e z QK fun es p ys F' H' q g n n1 n2 z => ?_
  have e1 : Ex F' (upd F' p (.lst ys)) := Ex.new n1
  refine k _ _ (upd F' p (.lst ys)) H' q ⟨g.ff.trans e1, g.hh, fun a o w => ?_, fun a o w u => ?_⟩ (.lst (.inl (.inl upd_same)) (z.up e1))
  · by_cases y : a = p
    · subst y
      rw [upd_same] at w
      cases w
      exact n2
    · rw [upd_ne y] at w
      exact g.fh a o w
  · by_cases y : a = p
    · rw [y]
      exact n
    · rw [upd_ne y] at w
      exact g.nw a o w u
theorem DR_catL {x y : PyData} {Q : PyData → Prop} (h : ∃ ds es, x = .list ds ∧ y = .list es ∧ ds.length + es.length ≤ 100000 ∧ Q (.list (ds ++ es))) : DR K (rPlus K) x y Q := fun v w F H e q1 q2 QK k => by
  refine DRL_cat (Q := fun ds => Q (.list ds)) h v w F H e q1 q2 QK fun es p ys F' H' q g n n1 n2 z => ?_
  have e1 : Ex F' (upd F' p (.lst ys)) := Ex.new n1
  refine k _ _ (upd F' p (.lst ys)) H' q ⟨g.ff.trans e1, g.hh, fun a o w => ?_, fun a o w u => ?_⟩ (.lst (.inl (.inl upd_same)) (z.up e1))
  · by_cases y : a = p
    · subst y
      rw [upd_same] at w
      cases w
      exact n2
    · rw [upd_ne y] at w
      exact g.fh a o w
  · by_cases y : a = p
    · rw [y]
      exact n
    · rw [upd_ne y] at w
      exact g.nw a o w u
end
end Cf
/-! a result whose last item is a list of its own, changed later; what was there before stays -/
namespace Cf
open PySem PySem.Spec PyProof.Rows L2
open Evl (Ex)
section
variable {K : PySem.W.Frag} {t : Option Addr} {ρ : Rho} {i : Nat} {d : PyData} {te : TE} {tr : TA} {t1 t2 : TS} {N B C : Rho → Prop} {R Q : PyData → Prop}
theorem DR_notB {x y : PyData} (h : ∃ a b, x = .bool a ∧ y = .bool b ∧ Q (.bool (!decide (a = b)))) : DR K rNotB x y Q := fun v w F H e q1 q2 QK k => by
  obtain ⟨a, b, rfl, rfl, q⟩ := h
  cases q1
  cases q2
  exact ⟨a, b, rfl, rfl, k _ _ F H q (Gr.refl e) (.bl _)⟩
theorem DE_varO (h : ρ[i]? = some (.od d)) (q : Q d) : DE K t (tVar i) ρ Q := fun F0 H0 F H σ A QK k => by
  obtain ⟨o, e, v, rfl, z⟩ := A.slot h
  exact ⟨v, e, k d v F H q A.rfl (z.up A.gr.ff)⟩
theorem DE_varN (h : ρ[i]? = some (.nw d)) (q : Q d) : DE K t (tVar i) ρ Q := fun F0 H0 F H σ A QK k => by
  obtain ⟨o, e, v, rfl, z, _⟩ := A.slot h
  exact ⟨v, e, k d v F H q A.rfl z⟩
def Sl.old : Sl → Sl
  | .sh d => .od d
  | .nw d => .od d
  | .ow _ => .no
  | .dk _ _ => .no
  | .dt _ _ => .no
  | s => s
def Sl.keep : Sl → Sl
  | .od d => .od d
  | .tp => .tp
  | .vl v => .vl v
  | _ => .no
theorem map_slot {f : Sl → Sl} {s : Sl} (h : (ρ.map f)[i]? = some s) : ∃ s', ρ[i]? = some s' ∧ s = f s' := by
  rw [List.getElem?_map] at h
  cases e : ρ[i]? with
  | none => rw [e] at h; cases h
  | some s' =>
    rw [e] at h
    exact ⟨s', rfl, (Option.some.inj h).symm⟩
theorem At.rebase {F0 H0 F H : Hp} {σ : L2.St} (A : At K t F0 H0 F H σ ρ) : At K t F H F H σ (ρ.map Sl.old) where
  gr := Gr.refl A.fh
  len := by rw [List.length_map, A.len]
  sl := fun j o s h1 h2 => by
    obtain ⟨s', h3, rfl⟩ := map_slot h2
    have q := A.sl j o s' h1 h3
    cases s' with
    | no => trivial
    | sh d => exact q
    | ow ds => trivial
    | tp => exact q
    | vl v => exact q
    | od d =>
      obtain ⟨v, e, z⟩ := q
      exact ⟨v, e, z.up A.gr.ff⟩
    | nw d =>
      obtain ⟨v, e, z, _⟩ := q
      exact ⟨v, e, z⟩
    | dk p kvs => trivial
    | dt p kvs => trivial
  ap := fun a b p ds es n h1 h2 => by
    obtain ⟨s', h3, e⟩ := map_slot h1
    cases s' <;> cases e
  tp := A.tp
theorem base_none {F0 H0 F H : Hp} {σ : L2.St} (A : At K t F0 H0 F H σ ρ) {p : Addr} (n : F p = none) : F0 p = none := none_back (fun o q => A.gr.ff p o q) n
/-- the promise of a def that makes data with a list of its own -/
def spN (K : PySem.W.Frag) (W : List PyData → (PyData → Prop) → Prop) : Sp := fun vs H Q _ => ∃ F ds R, Ex F H ∧ Dqs K F ds vs ∧ W ds R ∧ ∀ d v F' H', R d → Gr none F H F' H' → Dq K F' d v → Nw F H F' d v → Q v H'
theorem DE_callN {W : List PyData → (PyData → Prop) → Prop} {E : XK} (h : DA K t tr ρ fun ds => W ds Q) : DE K t (tCall (spN K W) [] E tr) ρ Q := fun F0 H0 F H σ A QK k =>
  h F0 H0 F H σ A _ fun ds vs F1 H1 hq e1 z => ⟨F1, ds, Q, e1.g.fh, by rw [List.append_nil]; exact z, hq, fun d v F' H' q g zd _ => k d v F' H' q (e1.trans ((A.step e1).stp g)) zd⟩
theorem DS_callNw {W : List PyData → (PyData → Prop) → Prop} {E : XK} (h : DA K t tr ρ fun ds => W ds fun d => N (ρ.set i (.nw d))) : DS K t (tAsg (tCall (spN K W) [] E tr) (gName i)) ρ N R B C := fun F0 H0 F H σ D A kn kr kb kc =>
  h F0 H0 F H σ A _ fun ds vs F1 H1 hq e1 z => by
    have A1 := A.step e1
    refine ⟨F1, ds, _, e1.g.fh, by rw [List.append_nil]; exact z, hq, fun d v F' H' q g zd nw => ?_⟩
    obtain ⟨p, xs, h1, h2, h3, h4⟩ := nw
    exact kn _ F' H' _ q ((A1.call g).set (s := .nw d) ⟨v, rfl, zd, p, xs, h1, (A1.fs h2).old, base_none A1 h3, h4⟩ fun _ e => by cases e) (e1.ff.trans g.ff)
/-! ### a def that makes such a result -/
def DSN (K : PySem.W.Frag) (ts : TS) (ρ : Rho) (R : PyData → Prop) : Prop := ∀ (F0 H0 F H : Hp) (σ : L2.St) (D : Ends), At K none F0 H0 F H σ ρ →
  (∀ d v F' H', R d → Gr none F0 H0 F' H' → Dq K F' d v → Nw F0 H0 F' d v → D.rt v H') → ts D σ H
theorem DSN_seq (h : DS K none t1 ρ (fun ρ1 => DSN K t2 ρ1 R) (fun _ => False) NoR NoR) : DSN K (tSeq t1 t2) ρ R := fun F0 H0 F H σ D A k =>
  h F0 H0 F H σ { D with nx := t2 D } A (fun r F' H' s q A' _ => q F0 H0 F' H' s D A' k) (fun _ _ _ _ q => q.elim) (fun _ _ _ _ q => q.elim) fun _ _ _ _ q => q.elim
def DAN (K : PySem.W.Frag) (t : Option Addr) (ta : TA) (ρ : Rho) (Q : List PyData → Prop) : Prop :=
  ∀ (F0 H0 F H : Hp) (σ : L2.St), At K t F0 H0 F H σ ρ → ∀ QK : List V → Hp → Prop,
    (∀ ds vs p xs F' H', Q ds → Stp t F H F' H' → Dqs K F' ds (vs ++ [.ref p]) → F' p = some (.lst xs) → H0 p = none → F0 p = none → xs.length < 100000 → QK (vs ++ [.ref p]) H') → ta σ H QK
theorem DAN_cons {Q : List PyData → Prop} (h : DE K t te ρ fun x => DAN K t tr ρ fun xs => Q (x :: xs)) : DAN K t (tCons te tr) ρ Q := fun F0 H0 F H σ A QK k =>
  h F0 H0 F H σ A _ fun x v F1 H1 hr e1 q1 => have A1 := A.step e1; hr F0 H0 F1 H1 σ A1 _ fun xs vs p ys F2 H2 q e2 q2 h1 h2 h3 h4 => k _ (v :: vs) p ys F2 H2 q (e1.trans e2) (.cons (q1.up e2.ff) q2) h1 h2 h3 h4
theorem DAN_last {ds : List PyData} {Q : List PyData → Prop} (h : ρ[i]? = some (.nw (.list ds))) (q : Q [.list ds]) : DAN K t (tCons (tVar i) tNil) ρ Q := fun F0 H0 F H σ A QK k => by
  obtain ⟨o, e, v, rfl, z, p, xs, hp, hh, hf, hl, hv, _⟩ := A.slot h
  obtain rfl := hv ds rfl
  exact ⟨.ref p, e, k _ [] p xs F H q A.rfl (.cons z .nil) hp hh hf hl⟩
theorem run_N {W : List PyData → (PyData → Prop) → Prop} {NN : List Str} {vs : List V} {H : Hp} {Q : VK} {E : XK} {ts : TS} (h : spN K W vs H Q E)
    (b : ∀ ds R, W ds R → ds.length ≤ NN.length ∧ DSN K ts (ds.map Sl.sh ++ List.replicate (NN.length - ds.length) Sl.no) R) : ts { nx := fun _ H' => Q .non H', rt := Q } (L2.start NN vs) H := by
  obtain ⟨F, ds, R, e, z, hW, k⟩ := h
  obtain ⟨hl, b⟩ := b ds R hW
  exact b F H F H _ _ (At.begin e z hl) fun d v F' H' q g zd n => k d v F' H' q g zd n
end
end Cf
/-! the same layer for lists of draws that count: a budget β of draws, shared out from above -/
namespace Cg
open PySem PySem.Spec PyProof.Rows L2 Cf
open Evl (Ex)
/-- how far a list of draws may count -/
def Lim : Int := 2 ^ 4000
/-- the list of draws: where it is, whether it counts -/
structure Al where
  a : Addr
  b : Bool
/-- a list of draws from which β more can be drawn -/
inductive TapOk (β : Nat) : Bool → List V → Prop
  | three (x y z : Int) (x0 : 0 ≤ x) (y0 : 0 ≤ y) (y1 : y < 2 ^ 200) (z0 : 0 ≤ z) (z1 : z + β ≤ Lim) : TapOk β true [.int x, .int y, .int z]
  | two (x y : Int) (x0 : 0 ≤ x) (y0 : 0 ≤ y) (y1 : y < 2 ^ 64) : TapOk β false [.int x, .int y]
theorem TapOk.mono {β γ : Nat} {b : Bool} {xs : List V} (h : TapOk β b xs) (l : γ ≤ β) : TapOk γ b xs := by
  cases h with
  | three x y z x0 y0 y1 z0 z1 => exact .three x y z x0 y0 y1 z0 (by omega)
  | two x y x0 y0 y1 => exact .two x y x0 y0 y1
def Bud (α : Al) (β : Nat) (H : Hp) : Prop := ∃ xs, H α.a = some (.lst xs) ∧ TapOk β α.b xs
theorem Bud.mono {α : Al} {β γ : Nat} {H : Hp} (h : Bud α β H) (l : γ ≤ β) : Bud α γ H := by
  obtain ⟨xs, a, b⟩ := h
  exact ⟨xs, a, b.mono l⟩
/-- at most β are drawn from H to H' -/
def To (α : Al) (β : Nat) (H H' : Hp) : Prop := ∀ u, Bud α (β + u) H → Bud α u H'
theorem To.mono {α : Al} {β γ : Nat} {H H' : Hp} (h : To α β H H') (l : β ≤ γ) : To α γ H H' := fun u b => h u (b.mono (by omega))
theorem To.trans {α : Al} {β γ δ : Nat} {H H' H2 : Hp} (h : To α β H H') (h' : To α γ H' H2) (l : β + γ ≤ δ) : To α δ H H2 := fun u b => h' u (h (γ + u) (b.mono (by omega)))
theorem To.rfl {α : Al} {β : Nat} {H : Hp} : To α β H H := fun u b => b.mono (by omega)
def TpOk (α : Al) (β : Nat) (F H : Hp) : Prop := F α.a = none ∧ Bud α β H
structure At (K : PySem.W.Frag) (α : Al) (β : Nat) (F0 H0 F H : Hp) (σ : L2.St) (ρ : Rho) : Prop where
  gr : Gr (some α.a) F0 H0 F H
  len : σ.length = ρ.length
  sl : ∀ (i : Nat) (o : Option V) (s : Sl), σ[i]? = some o → ρ[i]? = some s → SlOk K (some α.a) F0 H0 F H o s
  ap : ∀ (i j : Nat) (p : Addr) (ds es : List PyData), i ≠ j → ρ[i]? = some (.ow ds) → ρ[j]? = some (.ow es) → σ[i]? = some (some (.ref p)) → σ[j]? ≠ some (some (.ref p))
  tp : TpOk α β F H

section
variable {K : PySem.W.Frag} {α : Al} {β γ : Nat} {F0 H0 F H F' H' : Hp} {σ : L2.St} {ρ : Rho} {i : Nat} {d : PyData} {v : V}
theorem At.slot (A : At K α β F0 H0 F H σ ρ) {s : Sl} (h : ρ[i]? = some s) : ∃ o, σ[i]? = some o ∧ SlOk K (some α.a) F0 H0 F H o s := by
  have hi : i < σ.length := by
    rw [A.len]
    exact (List.getElem?_eq_some_iff.mp h).1
  exact ⟨σ[i], List.getElem?_eq_getElem hi, A.sl i _ s (List.getElem?_eq_getElem hi) h⟩
theorem At.var (A : At K α β F0 H0 F H σ ρ) (h : ρ[i]? = some (.sh d)) : ∃ v, σ[i]? = some (some v) ∧ Dq K F d v := by
  obtain ⟨o, e, v, rfl, q⟩ := A.slot h
  exact ⟨v, e, q⟩
theorem At.own (A : At K α β F0 H0 F H σ ρ) {ds : List PyData} (h : ρ[i]? = some (.ow ds)) :
    ∃ p xs, σ[i]? = some (some (.ref p)) ∧ H p = some (.lst xs) ∧ F p = none ∧ H0 p = none ∧ some α.a ≠ some p ∧ Dqs K F ds xs := by
  obtain ⟨o, e, p, xs, rfl, q⟩ := A.slot h
  exact ⟨p, xs, e, q⟩
/-- the heaps grow, the slots stay -/
theorem At.grow (A : At K α β F0 H0 F H σ ρ) (g : Gr (some α.a) F H F' H') (ht : TpOk α γ F' H') : At K α γ F0 H0 F' H' σ ρ where
  gr := A.gr.trans g fun a e => by cases e; exact ht.1
  len := A.len
  sl := fun i o s h1 h2 => by
    have q := A.sl i o s h1 h2
    cases s with
    | no => trivial
    | sh d =>
      obtain ⟨v, e, h⟩ := q
      exact ⟨v, e, h.up g.ff⟩
    | ow ds =>
      obtain ⟨p, xs, e, h1, h2, h3, h4, h5⟩ := q
      refine ⟨p, xs, e, g.hh p _ h4 h1, ?_, h3, h4, h5.up g.ff⟩
      cases e' : F' p with
      | none => rfl
      | some o =>
        have z := g.nw p o e' h2
        rw [h1] at z
        cases z
    | tp => exact q
    | vl v => exact q
    | od d => exact q
    | nw d =>
      obtain ⟨v, e, h, n⟩ := q
      exact ⟨v, e, h.up g.ff, n.up g.ff⟩
    | dk p kvs =>
      obtain ⟨e, ⟨xs, h1, hq⟩, h2, h3, h4⟩ := q
      refine ⟨e, ⟨xs, g.hh p _ h4 h1, hq.up g.ff⟩, ?_, h3, h4⟩
      cases e' : F' p with
      | none => rfl
      | some o =>
        have z := g.nw p o e' h2
        rw [h1] at z
        cases z
    | dt p kvs =>
      obtain ⟨e, ⟨xs, h1, hq⟩, h2, h3, h4⟩ := q
      refine ⟨e, ⟨xs, g.hh p _ h4 h1, hq.up g.ff⟩, ?_, h3, h4⟩
      cases e' : F' p with
      | none => rfl
      | some o =>
        have z := g.nw p o e' h2
        rw [h1] at z
        cases z
  ap := A.ap
  tp := ht
/-- what a pure callee leaves -/
theorem TpOk.call (h : TpOk α β F H) (g : Gr none F H F' H') : TpOk α β F' H' := by
  obtain ⟨h1, xs, h2, h3⟩ := h
  refine ⟨?_, xs, g.hh α.a _ (by simp) h2, h3⟩
  cases e' : F' α.a with
  | none => rfl
  | some o =>
    have q := g.nw α.a o e' h1
    rw [h2] at q
    cases q
theorem At.call (A : At K α β F0 H0 F H σ ρ) (g : Gr none F H F' H') : At K α β F0 H0 F' H' σ ρ := A.grow g.any (A.tp.call g)
theorem At.fh (A : At K α β F0 H0 F H σ ρ) : Ex F H := A.gr.fh
/-- a slot is given another value -/
theorem At.set (A : At K α β F0 H0 F H σ ρ) {s : Sl} {o : Option V} (h : SlOk K (some α.a) F0 H0 F H o s) (hn : ∀ ds, s ≠ .ow ds) : At K α β F0 H0 F H (σ.set i o) (ρ.set i s) where
  gr := A.gr
  len := by rw [List.length_set, List.length_set, A.len]
  sl := fun j o' s' h1 h2 => by
    by_cases e : i = j
    · subst e
      have hi : i < σ.length := by
        have := (List.getElem?_eq_some_iff.mp h1).1
        rwa [List.length_set] at this
      rw [List.getElem?_set_self hi] at h1
      rw [List.getElem?_set_self (by rw [← A.len]; exact hi)] at h2
      cases h1
      cases h2
      exact h
    · rw [List.getElem?_set_ne e] at h1 h2
      exact A.sl j o' s' h1 h2
  ap := fun a b p ds es n h1 h2 h3 => by
    have ha : i ≠ a := fun e => by
      subst e
      have hi := (List.getElem?_eq_some_iff.mp h1).1
      rw [List.length_set] at hi
      rw [List.getElem?_set_self hi] at h1
      cases h1
      exact hn ds rfl
    have hb : i ≠ b := fun e => by
      subst e
      have hi := (List.getElem?_eq_some_iff.mp h2).1
      rw [List.length_set] at hi
      rw [List.getElem?_set_self hi] at h2
      cases h2
      exact hn es rfl
    rw [List.getElem?_set_ne ha] at h1 h3
    rw [List.getElem?_set_ne hb] at h2 ⊢
    exact A.ap a b p ds es n h1 h2 h3
  tp := A.tp
/-- a slot is given a list of its own -/
theorem At.setOw (A : At K α β F0 H0 F H σ ρ) {p : Addr} {ds : List PyData} (h : SlOk K (some α.a) F0 H0 F H (some (.ref p)) (.ow ds)) (hn : ∀ (j : Nat) (es : List PyData), i ≠ j → ρ[j]? = some (.ow es) → σ[j]? ≠ some (some (.ref p))) :
    At K α β F0 H0 F H (σ.set i (some (.ref p))) (ρ.set i (.ow ds)) where
  gr := A.gr
  len := by rw [List.length_set, List.length_set, A.len]
  sl := fun j o' s' h1 h2 => by
    by_cases e : i = j
    · subst e
      have hi : i < σ.length := by
        have := (List.getElem?_eq_some_iff.mp h1).1
        rwa [List.length_set] at this
      rw [List.getElem?_set_self hi] at h1
      rw [List.getElem?_set_self (by rw [← A.len]; exact hi)] at h2
      cases h1
      cases h2
      exact h
    · rw [List.getElem?_set_ne e] at h1 h2
      exact A.sl j o' s' h1 h2
  ap := fun a b q ds' es n h1 h2 h3 => by
    by_cases ha : i = a
    · subst ha
      have hi : i < σ.length := by
        have := (List.getElem?_eq_some_iff.mp h3).1
        rwa [List.length_set] at this
      rw [List.getElem?_set_self hi] at h3
      cases h3
      rw [List.getElem?_set_ne n] at h2 ⊢
      exact hn b es n h2
    · rw [List.getElem?_set_ne ha] at h1 h3
      by_cases hb : i = b
      · subst hb
        intro h4
        have hi : i < σ.length := by
          have := (List.getElem?_eq_some_iff.mp h4).1
          rwa [List.length_set] at this
        rw [List.getElem?_set_self hi] at h4
        cases h4
        exact hn a ds' (fun e => ha e) h1 h3
      · rw [List.getElem?_set_ne hb] at h2 ⊢
        exact A.ap a b q ds' es n h1 h2 h3
  tp := A.tp
/-- an owned list is changed -/
theorem At.put (A : At K α β F0 H0 F H σ ρ) {p : Addr} {ds es : List PyData} {ys : List V} (h : ρ[i]? = some (.ow ds)) (hp : σ[i]? = some (some (.ref p))) (hy : Dqs K F es ys) :
    At K α β F0 H0 F (upd H p (.lst ys)) σ (ρ.set i (.ow es)) := by
  obtain ⟨p', xs, e, h1, h2, h3, h4, h5⟩ := A.own h
  rw [hp] at e
  cases e
  refine ⟨⟨A.gr.ff, fun a o n q => ?_, fun a o q => ?_, A.gr.nw⟩, ?_, fun j o s q1 q2 => ?_, fun a b q ds' es' n q1 q2 q3 => ?_, ?_⟩
  · rw [upd_ne (fun z => by rw [z, h3] at q; cases q)]
    exact A.gr.hh a o n q
  · rw [upd_ne (fun z => by rw [z, h2] at q; cases q)]
    exact A.fh a o q
  · rw [List.length_set]
    exact A.len
  · by_cases z : i = j
    · subst z
      have hi : i < ρ.length := (List.getElem?_eq_some_iff.mp h).1
      rw [List.getElem?_set_self hi] at q2
      cases q2
      rw [hp] at q1
      cases q1
      exact ⟨p, ys, rfl, upd_same, h2, h3, h4, hy⟩
    · rw [List.getElem?_set_ne z] at q2
      have w := A.sl j o s q1 q2
      cases s with
      | no => trivial
      | sh d => exact w
      | ow fs =>
        obtain ⟨r, zs, e, w1, w2⟩ := w
        subst e
        refine ⟨r, zs, rfl, ?_, w2⟩
        rw [upd_ne (fun y => A.ap i j p ds fs z h q2 hp (by rw [q1, y]))]
        exact w1
      | tp => exact w
      | vl v => exact w
      | od d => exact w
      | nw d => exact w
      | dk r kvs =>
        obtain ⟨e, ⟨zs, w1, wq⟩, w2⟩ := w
        exact ⟨e, ⟨zs, by rw [upd_ne (fun y => by rw [y, h1] at w1; cases w1)]; exact w1, wq⟩, w2⟩
      | dt r kvs =>
        obtain ⟨e, ⟨zs, w1, wq⟩, w2⟩ := w
        exact ⟨e, ⟨zs, by rw [upd_ne (fun y => by rw [y, h1] at w1; cases w1)]; exact w1, wq⟩, w2⟩
  · have ow : ∀ (c : Nat) (fs : List PyData), (ρ.set i (Sl.ow es))[c]? = some (Sl.ow fs) → ∃ gs, ρ[c]? = some (Sl.ow gs) := fun c fs z => by
      by_cases y : i = c
      · subst y
        exact ⟨ds, h⟩
      · rw [List.getElem?_set_ne y] at z
        exact ⟨fs, z⟩
    obtain ⟨g1, r1⟩ := ow a ds' q1
    obtain ⟨g2, r2⟩ := ow b es' q2
    exact A.ap a b q g1 g2 n r1 r2 q3
  · obtain ⟨w1, xs, w2, w3⟩ := A.tp
    refine ⟨w1, xs, ?_, w3⟩
    rw [upd_ne (fun e => h4 (by rw [e]))]
    exact w2
/-- an owned list is frozen -/
theorem At.freeze (A : At K α β F0 H0 F H σ ρ) {ds : List PyData} (h : ρ[i]? = some (.ow ds)) : ∃ F', At K α β F0 H0 F' H σ (ρ.set i (.sh (.list ds))) ∧ Ex F F' := by
  obtain ⟨p, xs, e, h1, h2, h3, h4, h5⟩ := A.own h
  have ef : Ex F (upd F p (.lst xs)) := Ex.new h2
  refine ⟨upd F p (.lst xs), ⟨⟨A.gr.ff.trans ef, A.gr.hh, fun a o q => ?_, fun a o q f => ?_⟩, ?_, fun j o s q1 q2 => ?_, fun a b q ds' es' n q1 q2 q3 => ?_, ?_⟩, ef⟩
  · by_cases z : a = p
    · subst z
      rw [upd_same] at q
      cases q
      exact h1
    · rw [upd_ne z] at q
      exact A.fh a o q
  · by_cases z : a = p
    · subst z
      exact h3
    · rw [upd_ne z] at q
      exact A.gr.nw a o q f
  · rw [List.length_set]
    exact A.len
  · by_cases z : i = j
    · subst z
      have hi : i < ρ.length := (List.getElem?_eq_some_iff.mp h).1
      rw [List.getElem?_set_self hi] at q2
      cases q2
      rw [e] at q1
      cases q1
      exact ⟨.ref p, rfl, .lst (.inl (.inl upd_same)) (h5.up ef)⟩
    · rw [List.getElem?_set_ne z] at q2
      have w := A.sl j o s q1 q2
      cases s with
      | no => trivial
      | sh d =>
        obtain ⟨v, e', w'⟩ := w
        exact ⟨v, e', w'.up ef⟩
      | ow fs =>
        obtain ⟨r, zs, e', w1, w2, w3, w4, w5⟩ := w
        subst e'
        refine ⟨r, zs, rfl, w1, ?_, w3, w4, w5.up ef⟩
        rw [upd_ne (fun y => A.ap i j p ds fs z h q2 e (by rw [q1, y]))]
        exact w2
      | tp => exact w
      | vl v => exact w
      | od d => exact w
      | nw d =>
        obtain ⟨v, e', w', n'⟩ := w
        exact ⟨v, e', w'.up ef, n'.up ef⟩
      | dk r kvs =>
        obtain ⟨e', ⟨zs, w1, wq⟩, w2, w3⟩ := w
        exact ⟨e', ⟨zs, w1, wq.up ef⟩, by rw [upd_ne (fun y => by rw [y, h1] at w1; cases w1)]; exact w2, w3⟩
      | dt r kvs =>
        obtain ⟨e', ⟨zs, w1, wq⟩, w2, w3⟩ := w
        exact ⟨e', ⟨zs, w1, wq.up ef⟩, by rw [upd_ne (fun y => by rw [y, h1] at w1; cases w1)]; exact w2, w3⟩
  · have ow : ∀ (c : Nat) (fs : List PyData), (ρ.set i (Sl.sh (.list ds)))[c]? = some (Sl.ow fs) → ρ[c]? = some (Sl.ow fs) := fun c fs z => by
      by_cases y : i = c
      · subst y
        have hi : i < ρ.length := (List.getElem?_eq_some_iff.mp h).1
        rw [List.getElem?_set_self hi] at z
        cases z
      · rw [List.getElem?_set_ne y] at z
        exact z
    exact A.ap a b q ds' es' n (ow a ds' q1) (ow b es' q2) q3
  · obtain ⟨w1, xs, w2, w3⟩ := A.tp
    refine ⟨?_, xs, w2, w3⟩
    rw [upd_ne (fun e => h4 (by rw [e]))]
    exact w1
end

theorem At.mono {K : PySem.W.Frag} {α : Al} {β γ : Nat} {F0 H0 F H : Hp} {σ : L2.St} {ρ : Rho} (A : At K α β F0 H0 F H σ ρ) (l : γ ≤ β) : At K α γ F0 H0 F H σ ρ := ⟨A.gr, A.len, A.sl, A.ap, A.tp.1, A.tp.2.mono l⟩
theorem At.bud {K : PySem.W.Frag} {α : Al} {β γ : Nat} {F0 H0 F H : Hp} {σ : L2.St} {ρ : Rho} (A : At K α β F0 H0 F H σ ρ) (l : Bud α γ H) : At K α γ F0 H0 F H σ ρ := ⟨A.gr, A.len, A.sl, A.ap, A.tp.1, l⟩
end Cg
namespace Cg
open PySem PySem.Spec PyProof.Rows L2 Cf
open Evl (Ex)

/-- a step of evaluation: nothing that was there changes, but the draws, at most β of them -/
structure Stp (α : Al) (β : Nat) (F H F' H' : Hp) : Prop where
  g : Gr (some α.a) F H F' H'
  n : F' α.a = none
  to : To α β H H'
section
variable {K : PySem.W.Frag} {α : Al} {β γ : Nat} {F0 H0 F H F' H' F2 H2 : Hp} {σ : L2.St} {ρ : Rho}
theorem At.h (A : At K α β F0 H0 F H σ ρ) : At K α (β / 2) F0 H0 F H σ ρ := A.mono (Nat.div_le_self _ _)
theorem At.z (A : At K α β F0 H0 F H σ ρ) : At K α 0 F0 H0 F H σ ρ := A.mono (Nat.zero_le _)
theorem At.step (A : At K α β F0 H0 F H σ ρ) {u : Nat} (e : Stp α γ F H F' H') (l : γ + u ≤ β) : At K α u F0 H0 F' H' σ ρ := A.grow e.g ⟨e.n, e.to u (A.tp.2.mono l)⟩
theorem half_two (β : Nat) : β / 2 + β / 2 ≤ β := by omega
theorem At.nx (A : At K α β F0 H0 F H σ ρ) (e : Stp α (β / 2) F H F' H') : At K α (β / 2) F0 H0 F' H' σ ρ := A.step e (half_two β)
theorem At.st (A : At K α β F0 H0 F H σ ρ) (e : Stp α β F H F' H') : At K α 0 F0 H0 F' H' σ ρ := A.step e (Nat.le_refl _)
theorem Stp.ff (e : Stp α β F H F' H') : Ex F F' := e.g.ff
theorem Stp.mono (e : Stp α β F H F' H') (l : β ≤ γ) : Stp α γ F H F' H' := ⟨e.g, e.n, e.to.mono l⟩
theorem Stp.up (e : Stp α (β / 2) F H F' H') : Stp α β F H F' H' := e.mono (Nat.div_le_self _ _)
theorem Stp.tr {δ : Nat} (e : Stp α β F H F' H') (e' : Stp α γ F' H' F2 H2) (l : β + γ ≤ δ) : Stp α δ F H F2 H2 := ⟨e.g.trans e'.g fun a z => by cases z; exact e'.n, e'.n, e.to.trans e'.to l⟩
theorem Stp.two (e : Stp α (β / 2) F H F' H') (e' : Stp α (β / 2) F' H' F2 H2) : Stp α β F H F2 H2 := e.tr e' (half_two β)
theorem to_call (g : Gr none F H F' H') : To α 0 H H' := fun u ⟨xs, h1, h2⟩ => ⟨xs, g.hh α.a _ (by simp) h1, h2.mono (by omega)⟩
theorem At.stp (A : At K α β F0 H0 F H σ ρ) (g : Gr none F H F' H') : Stp α 0 F H F' H' := ⟨g.any, (A.call g).tp.1, to_call g⟩
theorem Stp.pure (e : Stp α β F H F' H') (g : Gr none F' H' F2 H2) (b : Bud α γ H') : Stp α β F H F2 H2 :=
  e.tr (γ := 0) ⟨g.any, (TpOk.call (β := γ) ⟨e.n, b⟩ g).1, to_call g⟩ (by omega)
theorem Stp.back (e : Stp α β F H F' H') (b : Bud α γ H') {p : Addr} (n : H' p = none) : H p = none := by
  have nt : some α.a ≠ some p := fun z => by
    cases z
    obtain ⟨xs, h, _⟩ := b
    rw [n] at h
    cases h
  exact none_back (fun o q => e.g.hh p o nt q) n
/-- what is new is frozen -/
theorem Stp.ice (A : At K α γ F0 H0 F H σ ρ) (e : Stp α β F H F' H') {p : Addr} {xs : List V} {ds : List PyData} (f : H p = none) (n : F' p = none) (h : H' p = some (.lst xs)) (q : Dqs K F' ds xs) :
    Stp α β F H (upd F' p (.lst xs)) H' ∧ Dq K (upd F' p (.lst xs)) (.list ds) (.ref p) := by
  have e1 : Ex F' (upd F' p (.lst xs)) := Ex.new n
  refine ⟨⟨⟨e.ff.trans e1, e.g.hh, fun a o z => ?_, fun a o z w => ?_⟩, ?_, e.to⟩, .lst (.inl (.inl upd_same)) (q.up e1)⟩
  · by_cases y : a = p
    · subst y
      rw [upd_same] at z
      cases z
      exact h
    · rw [upd_ne y] at z
      exact e.g.fh a o z
  · by_cases y : a = p
    · rw [y]
      exact f
    · rw [upd_ne y] at z
      exact e.g.nw a o z w
  · by_cases y : α.a = p
    · subst y
      obtain ⟨_, ys, w4, _⟩ := A.tp
      rw [f] at w4
      cases w4
    · rw [upd_ne y]
      exact e.n
theorem At.rfl (A : At K α β F0 H0 F H σ ρ) : Stp α γ F H F H := ⟨Gr.refl A.fh, A.tp.1, To.rfl⟩
end

def DE (K : PySem.W.Frag) (α : Al) (β : Nat) (te : TE) (ρ : Rho) (Q : PyData → Prop) : Prop :=
  ∀ (F0 H0 F H : Hp) (σ : L2.St), At K α β F0 H0 F H σ ρ → ∀ QK : VK, (∀ d v F' H', Q d → Stp α β F H F' H' → Dq K F' d v → QK v H') → te σ H QK
/-- p is apart from what was there -/
structure Fs (α : Al) (H0 : Hp) (σ : L2.St) (ρ : Rho) (p : Addr) : Prop where
  old : H0 p = none
  tap : some α.a ≠ some p
  own : ∀ (j : Nat) (es : List PyData), ρ[j]? = some (.ow es) → σ[j]? ≠ some (some (.ref p))
theorem At.fs {K : PySem.W.Frag} {α : Al} {β : Nat} {F0 H0 F H : Hp} {σ : L2.St} {ρ : Rho} (A : At K α β F0 H0 F H σ ρ) {p : Addr} (n : H p = none) : Fs α H0 σ ρ p := by
  have nt : some α.a ≠ some p := fun e => by
    cases e
    obtain ⟨_, xs, h, _⟩ := A.tp
    rw [n] at h
    cases h
  refine ⟨none_back (fun o q => A.gr.hh p o nt q) n, nt, fun j es h e => ?_⟩
  obtain ⟨q, xs, e', h1, _⟩ := A.own h
  rw [e] at e'
  cases e'
  rw [n] at h1
  cases h1
/-- a new list, not frozen -/
def DL (K : PySem.W.Frag) (α : Al) (β : Nat) (te : TE) (ρ : Rho) (Q : List PyData → Prop) : Prop :=
  ∀ (F0 H0 F H : Hp) (σ : L2.St), At K α β F0 H0 F H σ ρ → ∀ QK : VK, (∀ ds p xs F' H', Q ds → Stp α β F H F' H' → H p = none → F' p = none → H' p = some (.lst xs) → Dqs K F' ds xs → QK (.ref p) H') → te σ H QK
def DA (K : PySem.W.Frag) (α : Al) (β : Nat) (ta : TA) (ρ : Rho) (Q : List PyData → Prop) : Prop :=
  ∀ (F0 H0 F H : Hp) (σ : L2.St), At K α β F0 H0 F H σ ρ → ∀ QK : List V → Hp → Prop, (∀ ds vs F' H', Q ds → Stp α β F H F' H' → Dqs K F' ds vs → QK vs H') → ta σ H QK
def DT (K : PySem.W.Frag) (α : Al) (β : Nat) (tt : TT) (ρ : Rho) (Q : Bool → Prop) : Prop :=
  ∀ (F0 H0 F H : Hp) (σ : L2.St), At K α β F0 H0 F H σ ρ → ∀ QK : Bool → Hp → Prop, (∀ b F' H', Q b → Stp α β F H F' H' → QK b H') → tt σ H QK
def DO (K : PySem.W.Frag) (α : Al) (β : Nat) (to : TO) (ρ : Rho) (Q : Option Int → Prop) : Prop :=
  ∀ (F0 H0 F H : Hp) (σ : L2.St), At K α β F0 H0 F H σ ρ → ∀ QK : Option Int → Hp → Prop, (∀ b F' H', Q b → Stp α β F H F' H' → QK b H') → to σ H QK

section
variable {K : PySem.W.Frag} {α : Al} {β γ : Nat} {ρ : Rho} {i : Nat} {d : PyData} {te ta tb tc : TE} {Q : PyData → Prop}
theorem DE.mono {Q' : PyData → Prop} (h : DE K α β te ρ Q) (m : ∀ d, Q d → Q' d) : DE K α β te ρ Q' := fun F0 H0 F H σ A QK k => h F0 H0 F H σ A QK fun d v F' H' q => k d v F' H' (m d q)
theorem DT.mono {tt : TT} {Q Q' : Bool → Prop} (h : DT K α β tt ρ Q) (m : ∀ d, Q d → Q' d) : DT K α β tt ρ Q' := fun F0 H0 F H σ A QK k => h F0 H0 F H σ A QK fun d F' H' q => k d F' H' (m d q)
theorem DL.mono {Q Q' : List PyData → Prop} (h : DL K α β te ρ Q) (m : ∀ d, Q d → Q' d) : DL K α β te ρ Q' := fun F0 H0 F H σ A QK k => h F0 H0 F H σ A QK fun ds p xs F' H' q => k ds p xs F' H' (m ds q)
theorem DE_var (h : ρ[i]? = some (.sh d)) (q : Q d) : DE K α β (tVar i) ρ Q := fun F0 H0 F H σ A QK k => by
  obtain ⟨v, e, z⟩ := A.var h
  exact ⟨v, e, k d v F H q A.rfl z⟩
theorem DE_int {z : Int} (q : Q (.int z)) : DE K α β (tC (.int z)) ρ Q := fun F0 H0 F H σ A QK k => k _ _ F H q A.rfl (.int z)
theorem DE_str {z : Str} (q : Q (.str z)) : DE K α β (tC (.str z)) ρ Q := fun F0 H0 F H σ A QK k => k _ _ F H q A.rfl (.str z)
theorem DE_bl {z : Bool} (q : Q (.bool z)) : DE K α β (tC (.bl z)) ρ Q := fun F0 H0 F H σ A QK k => k _ _ F H q A.rfl (.bl z)
theorem DE_non (q : Q .none) : DE K α β (tC .non) ρ Q := fun F0 H0 F H σ A QK k => k _ _ F H q A.rfl .non
theorem DE_op {r : R2} (h : DE K α (β / 2) ta ρ fun x => DE K α (β / 2) tb ρ fun y => DR K r x y Q) : DE K α β (tOp r ta tb) ρ Q := fun F0 H0 F H σ A QK k =>
  h F0 H0 F H σ A.h _ fun x v F1 H1 hb e1 q1 => have A1 := A.nx e1;  hb F0 H0 F1 H1 σ A1 _ fun y w F2 H2 hr e2 q2 => have A2 := A1.st e2;  hr v w F2 H2 A2.fh (q1.up e2.ff) q2 QK fun d u F3 H3 q g q3 =>
    k d u F3 H3 q ((e1.two e2).pure g A2.tp.2) q3
theorem DE_new (h : DL K α β te ρ fun ds => Q (.list ds)) : DE K α β te ρ Q := fun F0 H0 F H σ A QK k => h F0 H0 F H σ A QK fun ds p xs F' H' q e f n1 n2 z => by
  obtain ⟨e2, z2⟩ := e.ice A f n1 n2 z
  exact k _ _ _ _ q e2 z2
theorem DE_un {r : V → Hp → VK → Prop} (h : DE K α β ta ρ fun x => DU K r x Q) : DE K α β (tUn r ta) ρ Q := fun F0 H0 F H σ A QK k =>
  h F0 H0 F H σ A _ fun x v F1 H1 hr e1 q1 => have A1 := A.st e1;  hr v F1 H1 A1.fh q1 QK fun d u F3 H3 q g q3 => k d u F3 H3 q (e1.pure g A1.tp.2) q3
theorem DE_cb {r : List V → Hp → VK → Prop} {tr : TA} (h : DA K α β tr ρ fun xs => DC K r xs Q) : DE K α β (tCB r tr) ρ Q := fun F0 H0 F H σ A QK k =>
  h F0 H0 F H σ A _ fun x v F1 H1 hr e1 q1 => have A1 := A.st e1;  hr v F1 H1 A1.fh q1 QK fun d u F3 H3 q g q3 => k d u F3 H3 q (e1.pure g A1.tp.2) q3
theorem DA_nil {Q : List PyData → Prop} (q : Q []) : DA K α β tNil ρ Q := fun F0 H0 F H σ A QK k => k [] [] F H q A.rfl .nil
theorem DA_cons {tr : TA} {Q : List PyData → Prop} (h : DE K α (β / 2) te ρ fun x => DA K α (β / 2) tr ρ fun xs => Q (x :: xs)) : DA K α β (tCons te tr) ρ Q := fun F0 H0 F H σ A QK k =>
  h F0 H0 F H σ A.h _ fun x v F1 H1 hr e1 q1 => have A1 := A.nx e1;  hr F0 H0 F1 H1 σ A1 _ fun xs vs F2 H2 q e2 q2 => k _ _ F2 H2 q (e1.two e2) (.cons (q1.up e2.ff) q2)
theorem DE_tup {tr : TA} (h : DA K α β tr ρ fun xs => xs.length ≤ 100000 ∧ Q (.tuple xs)) : DE K α β (tTup tr) ρ Q := fun F0 H0 F H σ A QK k =>
  h F0 H0 F H σ A _ fun xs vs F1 H1 hq e1 q1 => have A1 := A.st e1;  ⟨Evl.sz_of (by rw [q1.len]; exact hq.1), fun p n =>
    have g := Gr.new A1.fh (o := .tup vs) n
    k _ _ _ _ hq.2 (e1.pure g A1.tp.2) (.tup (.inl (.inl upd_same)) (q1.up g.ff))⟩
theorem DL_lst {tr : TA} {Q : List PyData → Prop} (h : DA K α β tr ρ fun xs => xs.length ≤ 100000 ∧ Q xs) : DL K α β (tLst tr) ρ Q := fun F0 H0 F H σ A QK k =>
  h F0 H0 F H σ A _ fun xs vs F1 H1 hq e1 q1 => have A1 := A.st e1;  ⟨Evl.sz_of (by rw [q1.len]; exact hq.1), fun p n =>
    have g := Gr.free A1.fh (o := .lst vs) n
    k _ p _ _ _ hq.2 (e1.pure g A1.tp.2) (e1.back A1.tp.2 n) (ex_none A1.fh n) upd_same (q1.up g.ff)⟩
theorem DE_if {tt : TT} (h : DT K α (β / 2) tt ρ fun b => if b = true then DE K α (β / 2) ta ρ Q else DE K α (β / 2) tb ρ Q) : DE K α β (tIf tt ta tb) ρ Q := fun F0 H0 F H σ A QK k =>
  h F0 H0 F H σ A.h _ fun b F1 H1 hb e1 => by
    have A1 := A.nx e1
    cases b with
    | true => exact hb F0 H0 F1 H1 σ A1 QK fun d v F2 H2 q e2 q2 => k d v F2 H2 q (e1.two e2) q2
    | false => exact hb F0 H0 F1 H1 σ A1 QK fun d v F2 H2 q e2 q2 => k d v F2 H2 q (e1.two e2) q2
theorem DE_and (h : DE K α (β / 2) ta ρ fun x => ∃ b, x = .bool b ∧ if b = true then DE K α (β / 2) tb ρ Q else Q (.bool false)) : DE K α β (tAndV ta tb) ρ Q := fun F0 H0 F H σ A QK k =>
  h F0 H0 F H σ A.h _ fun x v F1 H1 hb e1 q1 => by
    have A1 := A.nx e1
    obtain ⟨b, rfl, hb⟩ := hb
    cases q1
    refine ⟨b, rfl, ?_⟩
    cases b with
    | true => exact hb F0 H0 F1 H1 σ A1 QK fun d v F2 H2 q e2 q2 => k d v F2 H2 q (e1.two e2) q2
    | false => exact k _ _ F1 H1 hb e1.up (.bl false)
theorem DE_or (h : DE K α (β / 2) ta ρ fun x => ∃ b, x = .bool b ∧ if b = true then Q (.bool true) else DE K α (β / 2) tb ρ Q) : DE K α β (tOrV ta tb) ρ Q := fun F0 H0 F H σ A QK k =>
  h F0 H0 F H σ A.h _ fun x v F1 H1 hb e1 q1 => by
    have A1 := A.nx e1
    obtain ⟨b, rfl, hb⟩ := hb
    cases q1
    refine ⟨b, rfl, ?_⟩
    cases b with
    | true => exact k _ _ F1 H1 hb e1.up (.bl true)
    | false => exact hb F0 H0 F1 H1 σ A1 QK fun d v F2 H2 q e2 q2 => k d v F2 H2 q (e1.two e2) q2
theorem DE_not (h : DE K α β ta ρ fun x => ∃ b, x = .bool b ∧ Q (.bool (!b))) : DE K α β (tNotV ta) ρ Q := fun F0 H0 F H σ A QK k =>
  h F0 H0 F H σ A _ fun x v F1 H1 hb e1 q1 => by
    obtain ⟨b, rfl, hb⟩ := hb
    cases q1
    exact ⟨b, rfl, k _ _ F1 H1 hb e1 (.bl _)⟩
theorem DE_chain {r r' : R2} (h : DE K α (β / 2) ta ρ fun x => DE K α (β / 2 / 2) tb ρ fun y => DR K r x y fun z => ∃ b, z = .bool b ∧ if b = true then DE K α (β / 2 / 2) tc ρ fun w => DR K r' y w Q else Q (.bool false)) :
    DE K α β (tChain r r' ta tb tc) ρ Q := fun F0 H0 F H σ A QK k =>
  h F0 H0 F H σ A.h _ fun x v F1 H1 hb e1 q1 => have A1 := A.nx e1;  hb F0 H0 F1 H1 σ A1.h _ fun y w F2 H2 hr e2 q2 => have A2 := A1.nx e2;  hr v w F2 H2 A2.fh (q1.up e2.ff) q2 _ fun z u F3 H3 hz g q3 => by
    obtain ⟨b, rfl, hz⟩ := hz
    cases q3
    refine ⟨b, rfl, ?_⟩
    have A3 := A2.call g
    have e3 := e2.pure g A2.tp.2
    cases b with
    | true => exact hz F0 H0 F3 H3 σ A3 _ fun y2 w2 F4 H4 hr2 e4 q4 => have A4 := A3.st e4;  hr2 w w2 F4 H4 A4.fh ((q2.up g.ff).up e4.ff) q4 QK fun d u F5 H5 q g2 q5 => k d u F5 H5 q ((e1.two (e3.two e4)).pure g2 A4.tp.2) q5
    | false => exact k _ _ F3 H3 hz (e1.two e3.up) (.bl false)
theorem DT_test {tt : TE} {Q : Bool → Prop} (h : DE K α β tt ρ fun x => ∃ b, x = .bool b ∧ Q b) : DT K α β (tTest tt) ρ Q := fun F0 H0 F H σ A QK k =>
  h F0 H0 F H σ A _ fun x v F1 H1 hb e1 q1 => by
    obtain ⟨b, rfl, hb⟩ := hb
    cases q1
    exact ⟨b, rfl, k b F1 H1 hb e1⟩
theorem DT_B {tt : TE} {Q : Bool → Prop} (h : DE K α β tt ρ fun x => ∃ b, x = .bool b ∧ Q b) : DT K α β (tB tt) ρ Q := fun F0 H0 F H σ A QK k =>
  h F0 H0 F H σ A _ fun x v F1 H1 hb e1 q1 => by
    obtain ⟨b, rfl, hb⟩ := hb
    cases q1
    exact ⟨b, rfl, k b F1 H1 hb e1⟩
theorem DT_and {ua ub : TT} {Q : Bool → Prop} (h : DT K α (β / 2) ua ρ fun b => if b = true then DT K α (β / 2) ub ρ Q else Q false) : DT K α β (tAnd ua ub) ρ Q := fun F0 H0 F H σ A QK k =>
  h F0 H0 F H σ A.h _ fun b F1 H1 hb e1 => by
    have A1 := A.nx e1
    cases b with
    | true => exact hb F0 H0 F1 H1 σ A1 QK fun d F2 H2 q e2 => k d F2 H2 q (e1.two e2)
    | false => exact k _ F1 H1 hb e1.up
theorem DT_or {ua ub : TT} {Q : Bool → Prop} (h : DT K α (β / 2) ua ρ fun b => if b = true then Q true else DT K α (β / 2) ub ρ Q) : DT K α β (tOr ua ub) ρ Q := fun F0 H0 F H σ A QK k =>
  h F0 H0 F H σ A.h _ fun b F1 H1 hb e1 => by
    have A1 := A.nx e1
    cases b with
    | true => exact k _ F1 H1 hb e1.up
    | false => exact hb F0 H0 F1 H1 σ A1 QK fun d F2 H2 q e2 => k d F2 H2 q (e1.two e2)
theorem DT_not {ua : TT} {Q : Bool → Prop} (h : DT K α β ua ρ fun b => Q (!b)) : DT K α β (tNot ua) ρ Q := fun F0 H0 F H σ A QK k =>
  h F0 H0 F H σ A _ fun b F1 H1 hb e1 => k _ F1 H1 hb e1
theorem DT_yes {Q : Bool → Prop} (h : Q true) : DT K α β tYes ρ Q := fun F0 H0 F H σ A QK k => k true F H h A.rfl
theorem DO_no {Q : Option Int → Prop} (h : Q none) : DO K α β tNoPart ρ Q := fun F0 H0 F H σ A QK k => k none F H h A.rfl
theorem DO_at {Q : Option Int → Prop} (h : DE K α β te ρ fun x => ∃ z, x = .int z ∧ Q (some z)) : DO K α β (tPart te) ρ Q := fun F0 H0 F H σ A QK k =>
  h F0 H0 F H σ A _ fun x v F1 H1 hb e1 q1 => by
    obtain ⟨b, rfl, hb⟩ := hb
    cases q1
    exact ⟨b, rfl, k _ F1 H1 hb e1⟩
/-! slices -/
theorem DL_sl {tl th : TO} {Q : List PyData → Prop} (h : DE K α (β / 2) te ρ fun x => ∃ ds, x = .list ds ∧ DO K α (β / 2 / 2) tl ρ fun lo => DO K α (β / 2 / 2) th ρ fun hi => Q (cutD ds lo hi)) : DL K α β (tSl (rSlL K) te tl th) ρ Q := fun F0 H0 F H σ A QK k =>
  h F0 H0 F H σ A.h _ fun x v F1 H1 hb e1 q1 => by
    have A1 := A.nx e1
    obtain ⟨ds, rfl, hb⟩ := hb
    refine hb F0 H0 F1 H1 σ A1.h _ fun lo F2 H2 hc e2 => have A2 := A1.nx e2;  hc F0 H0 F2 H2 σ A2 _ fun hi F3 H3 q e3 => ?_
    have A3 := (A1.nx e2).st e3
    have q2 := (q1.up e2.ff).up e3.ff
    cases q2 with
    | @lst a xs _ s1 s2 =>
      refine ⟨a, xs, rfl, Evl.ex_l A3.fh s1, fun p n => ?_⟩
      have g := Gr.free A3.fh (o := .lst (cutV xs lo hi)) n
      exact k _ p _ _ _ q ((e1.two (e2.two e3)).pure g A3.tp.2) ((e1.two (e2.two e3)).back A3.tp.2 n) (ex_none A3.fh n) upd_same (cutV_dqs lo hi s2)
/-! kinds -/
theorem DE_isi {n : String} (h : DE K α β te ρ fun x => ∃ b, kitB (tyD x) n = some b ∧ Q (.bool b)) : DE K α β (tCB (rIsi K) (tCons te (tCons (tC (.ty n)) tNil))) ρ Q := fun F0 H0 F H σ A QK k =>
  h F0 H0 F H σ A _ fun x v F1 H1 hq e1 z => by
    obtain ⟨b, hb, q⟩ := hq
    exact ⟨v, .ty n, _, _, b, rfl, .ty n, dq_ty e1.g.fh z, kit_ty hb, k _ _ F1 H1 q e1 (.bl b)⟩
theorem DE_emp (q : Q (.dict [])) : DE K α β tDNewK ρ Q := fun F0 H0 F H σ A QK k p n => by
  have g := Gr.new A.fh (o := .dK []) n
  exact k _ _ _ _ q ((A.stp g).mono (Nat.zero_le _)) (.emp upd_same)
theorem DE_lenOw {ds : List PyData} (h : ρ[i]? = some (.ow ds)) (q : Q (.int ds.length)) : DE K α β (tCB (rLenA K) (tCons (tVar i) tNil)) ρ Q := fun F0 H0 F H σ A QK k => by
  obtain ⟨p, xs, e, h1, h2, h3, h4, h5⟩ := A.own h
  exact ⟨.ref p, e, .inl ⟨p, xs, rfl, .inl (.inl (.inl h1)), by rw [h5.len]; exact k _ _ F H q A.rfl (.int _)⟩⟩
theorem DL_rep {Q : List PyData → Prop} (h : DL K α (β / 2) ta ρ fun ds => DE K α (β / 2) tb ρ fun y => ∃ z : Int, y = .int z ∧ -(2 ^ 62) ≤ z ∧ z < 2 ^ 62 ∧ ds.length * z.toNat ≤ 100000 ∧ Q (List.replicate z.toNat ds).flatten) : DL K α β (tOp rTimes ta tb) ρ Q := fun F0 H0 F H σ A QK k =>
  h F0 H0 F H σ A.h _ fun ds p xs F1 H1 hb e1 n n1 n2 z => hb F0 H0 F1 H1 σ (A.nx e1) _ fun y w F2 H2 hy e2 zy => by
    have A2 := (A.nx e1).st e2
    obtain ⟨m, rfl, b1, b2, b3, q⟩ := hy
    cases zy
    have nt : some α.a ≠ some p := (A.fs n).tap
    refine .inr (.inl ⟨p, m, xs, rfl, rfl, e2.g.hh p _ nt n2, by omega, by omega, Evl.sz_of (by rw [z.len]; exact b3), fun r hr => ?_⟩)
    have g := Gr.free A2.fh (o := .lst (List.replicate m.toNat xs).flatten) hr
    exact k _ r _ _ _ q ((e1.two e2).pure g A2.tp.2) ((e1.two e2).back A2.tp.2 hr) (ex_none A2.fh hr) upd_same (rep_dqs (z.up e2.ff) _)
end
end Cg
namespace Cg
open PySem PySem.Spec PyProof.Rows L2 Cf
open Evl (Ex)

/-- what follows, what is returned, break, continue -/
def DS (K : PySem.W.Frag) (α : Al) (β : Nat) (ts : TS) (ρ : Rho) (N : Rho → Prop) (R : PyData → Prop) (B C : Rho → Prop) : Prop :=
  ∀ (F0 H0 F H : Hp) (σ : L2.St) (D : Ends), At K α β F0 H0 F H σ ρ →
    (∀ ρ' F' H' σ', N ρ' → At K α 0 F0 H0 F' H' σ' ρ' → Ex F F' → To α β H H' → D.nx σ' H') →
    (∀ d v F' H', R d → Gr (some α.a) F0 H0 F' H' → F' α.a = none → To α β H H' → Dq K F' d v → D.rt v H') →
    (∀ ρ' F' H' σ', B ρ' → At K α 0 F0 H0 F' H' σ' ρ' → Ex F F' → To α β H H' → D.bk σ' H') →
    (∀ ρ' F' H' σ', C ρ' → At K α 0 F0 H0 F' H' σ' ρ' → Ex F F' → To α β H H' → D.ct σ' H') → ts D σ H

section
variable {K : PySem.W.Frag} {α : Al} {β γ : Nat} {ρ : Rho} {i : Nat} {d : PyData} {te ta tb tc : TE} {t1 t2 : TS} {N B C : Rho → Prop} {R : PyData → Prop}
theorem DS.mono {N' B' C' : Rho → Prop} {R' : PyData → Prop} (h : DS K α β t1 ρ N R B C) (hN : ∀ x, N x → N' x) (hR : ∀ x, R x → R' x) (hB : ∀ x, B x → B' x) (hC : ∀ x, C x → C' x) : DS K α β t1 ρ N' R' B' C' :=
  fun F0 H0 F H σ D A kn kr kb kc => h F0 H0 F H σ D A (fun r F' H' s q => kn r F' H' s (hN r q)) (fun d v F' H' q => kr d v F' H' (hR d q)) (fun r F' H' s q => kb r F' H' s (hB r q)) fun r F' H' s q => kc r F' H' s (hC r q)
/-- what goes on behind a part -/
theorem DS_then {F0 H0 F H F1 H1 : Hp} {s1 : L2.St} {ρ1 : Rho} {D : Ends} {δ : Nat} (l : β + γ ≤ δ) (q : DS K α γ t2 ρ1 N R B C) (A : At K α δ F0 H0 F H ([] : L2.St) [] ∨ Bud α δ H) (A1 : At K α 0 F0 H0 F1 H1 s1 ρ1) (e1 : Ex F F1) (t : To α β H H1)
    (kn : ∀ ρ' F' H' σ', N ρ' → At K α 0 F0 H0 F' H' σ' ρ' → Ex F F' → To α δ H H' → D.nx σ' H')
    (kr : ∀ d v F' H', R d → Gr (some α.a) F0 H0 F' H' → F' α.a = none → To α δ H H' → Dq K F' d v → D.rt v H')
    (kb : ∀ ρ' F' H' σ', B ρ' → At K α 0 F0 H0 F' H' σ' ρ' → Ex F F' → To α δ H H' → D.bk σ' H')
    (kc : ∀ ρ' F' H' σ', C ρ' → At K α 0 F0 H0 F' H' σ' ρ' → Ex F F' → To α δ H H' → D.ct σ' H') : t2 D s1 H1 := by
  have b : Bud α δ H := A.elim (fun A => A.tp.2) id
  exact q F0 H0 F1 H1 s1 D (A1.bud (t γ (b.mono l))) (fun r F' H' s q A' e z => kn r F' H' s q A' (e1.trans e) (t.trans z l)) (fun d v F' H' q g n z => kr d v F' H' q g n (t.trans z l))
    (fun r F' H' s q A' e z => kb r F' H' s q A' (e1.trans e) (t.trans z l)) fun r F' H' s q A' e z => kc r F' H' s q A' (e1.trans e) (t.trans z l)
theorem DS_seq (h : DS K α (β / 2) t1 ρ (fun ρ1 => DS K α (β / 2) t2 ρ1 N R B C) R B C) : DS K α β (tSeq t1 t2) ρ N R B C := fun F0 H0 F H σ D A kn kr kb kc => by
  have up : ∀ {H' : Hp}, To α (β / 2) H H' → To α β H H' := fun z => z.mono (Nat.div_le_self _ _)
  exact h F0 H0 F H σ { D with nx := t2 D } A.h (fun r F1 H1 s1 q A1 e1 z => DS_then (D := D) (half_two β) q (.inr A.tp.2) A1 e1 z kn kr kb kc) (fun d v F' H' q g n z => kr d v F' H' q g n (up z)) (fun r F' H' s q A' e z => kb r F' H' s q A' e (up z)) fun r F' H' s q A' e z => kc r F' H' s q A' e (up z)
theorem DS_next (q : N ρ) : DS K α β tNext ρ N R B C := fun F0 H0 F H σ D A kn kr kb kc => kn ρ F H σ q A.z (Ex.refl F) To.rfl
theorem DS_set (h : DE K α β te ρ fun d => N (ρ.set i (.sh d))) : DS K α β (tAsg te (gName i)) ρ N R B C := fun F0 H0 F H σ D A kn kr kb kc =>
  h F0 H0 F H σ A _ fun d v F1 H1 q e1 z => kn _ F1 H1 _ q ((A.st e1).set (s := .sh d) ⟨v, rfl, z⟩ fun _ e => by cases e) e1.ff e1.to
theorem DS_setOw (h : DL K α β te ρ fun ds => N (ρ.set i (.ow ds))) : DS K α β (tAsg te (gName i)) ρ N R B C := fun F0 H0 F H σ D A kn kr kb kc =>
  h F0 H0 F H σ A _ fun ds p xs F1 H1 q e1 n n1 n2 z => have f := A.fs n; kn _ F1 H1 _ q ((A.st e1).setOw ⟨p, xs, rfl, n2, n1, f.old, f.tap, z⟩ fun j es _ h => f.own j es h) e1.ff e1.to
theorem DS_drop (h : DE K α β te ρ fun _ => N ρ) : DS K α β (tDrop te) ρ N R B C := fun F0 H0 F H σ D A kn kr kb kc =>
  h F0 H0 F H σ A _ fun d v F1 H1 q e1 z => kn _ F1 H1 _ q (A.st e1) e1.ff e1.to
theorem DS_ret (h : DE K α β te ρ R) : DS K α β (tRet te) ρ N R B C := fun F0 H0 F H σ D A kn kr kb kc =>
  h F0 H0 F H σ A _ fun d v F1 H1 q e1 z => kr d v F1 H1 q (A.st e1).gr e1.n e1.to z
theorem DS_retN (h : R .none) : DS K α β tRetN ρ N R B C := fun F0 H0 F H σ D A kn kr kb kc => kr _ _ F H h A.gr A.tp.1 To.rfl .non
theorem DS_retOw {ds : List PyData} (h : ρ[i]? = some (.ow ds)) (q : R (.list ds)) : DS K α β (tRet (tVar i)) ρ N R B C := fun F0 H0 F H σ D A kn kr kb kc => by
  obtain ⟨p, xs, e, h1, h2, h3, h4, h5⟩ := A.own h
  obtain ⟨F', A', _⟩ := A.freeze h
  obtain ⟨v, e2, z⟩ := A'.var (i := i) (d := .list ds) (List.getElem?_set_self (List.getElem?_eq_some_iff.mp h).1)
  rw [e] at e2
  cases e2
  exact ⟨_, e, kr _ _ _ _ q A'.gr A'.tp.1 To.rfl z⟩
theorem DS_if {c : TT} (h : DT K α (β / 2) c ρ fun b => if b = true then DS K α (β / 2) t1 ρ N R B C else DS K α (β / 2) t2 ρ N R B C) : DS K α β (tIfS c t1 t2) ρ N R B C := fun F0 H0 F H σ D A kn kr kb kc =>
  h F0 H0 F H σ A.h _ fun b F1 H1 hb s1 => by
    have A1 := (A.h).st s1
    cases b with
    | true => exact DS_then (half_two β) hb (.inr A.tp.2) A1 s1.ff s1.to kn kr kb kc
    | false => exact DS_then (half_two β) hb (.inr A.tp.2) A1 s1.ff s1.to kn kr kb kc
theorem names_run {F0 H0 F H : Hp} : ∀ (is : List Nat) (ds : List PyData) (vs : List V) (σ : L2.St) (ρ : Rho) (Q : L2.St → Hp → Prop), is.length = ds.length → Dqs K F ds vs → At K α β F0 H0 F H σ ρ →
    (∀ σ', At K α β F0 H0 F H σ' (setAll is ds ρ) → Q σ' H) → gNames is vs σ H Q
  | [], [], _, σ, ρ, Q, _, .nil, A, k => ⟨rfl, k σ A⟩
  | i :: is, d :: ds, v :: vs, σ, ρ, Q, hl, .cons h1 h2, A, k => ⟨v, vs, rfl, names_run is ds vs _ _ Q (by simpa using hl) h2 (A.set (i := i) (s := .sh d) ⟨v, rfl, h1⟩ fun _ e => by cases e) k⟩
theorem DS_unpack {is : List Nat} {n : Nat} (h : DE K α β te ρ fun x => ∃ ds, x = .tuple ds ∧ ds.length = n ∧ is.length = n ∧ N (setAll is ds ρ)) : DS K α β (tAsg te (gTup K n (gNames is))) ρ N R B C := fun F0 H0 F H σ D A kn kr kb kc =>
  h F0 H0 F H σ A _ fun x v F1 H1 hq s1 z => by
    have A1 := A.st s1
    obtain ⟨ds, rfl, h1, h2, q⟩ := hq
    cases z with
    | @tup a xs _ s2 s3 =>
      exact ⟨a, xs, rfl, Evl.ex_t A1.fh s2, by rw [s3.len, h1], names_run is ds xs σ ρ _ (by rw [h1, h2]) s3 A1 fun σ' A' => kn _ F1 H1 σ' q A' s1.ff s1.to⟩
/-- a, b = x, y, two different names -/
theorem DS_par {i j : Nat} {tr : TA} (h : DA K α β tr ρ fun xs => ∃ d e, xs = [d, e] ∧ N ((ρ.set i (.sh d)).set j (.sh e))) : DS K α β (tPar i j tr) ρ N R B C := fun F0 H0 F H σ D A kn kr kb kc =>
  h F0 H0 F H σ A _ fun xs vs F1 H1 hq s1 z => by
    have A1 := A.st s1
    obtain ⟨d, e, rfl, q⟩ := hq
    obtain ⟨v, w, rfl, z1, z2⟩ := dqs2 z
    exact ⟨v, w, rfl, kn _ F1 H1 _ q ((A1.set (i := i) (s := .sh d) ⟨v, rfl, z1⟩ fun _ e => by cases e).set (i := j) (s := .sh e) ⟨w, rfl, z2⟩ fun _ e => by cases e) s1.ff s1.to⟩
/-- xs.append(e), xs a list of its own -/
theorem DS_append {ds : List PyData} (h : ρ[i]? = some (.ow ds)) (hl : ds.length < 100000) (he : DE K α β te ρ fun d => N (ρ.set i (.ow (ds ++ [d])))) : DS K α β (tDrop (tBM K "list" rAppend (tVar i) (tCons te tNil))) ρ N R B C :=
  fun F0 H0 F H σ D A kn kr kb kc => by
    obtain ⟨p, xs, e, h1, h2, h3, h4, h5⟩ := A.own h
    refine ⟨.ref p, e, .inl ⟨rfl, xs, .inl (.inl h1)⟩, he F0 H0 F H σ A _ fun d v F1 H1 q s1 z => ?_⟩
    have A1 := A.st s1
    obtain ⟨p', xs', e', g1, g2, g3, g4, g5⟩ := A1.own h
    rw [e] at e'
    cases e'
    have hy := g5.app (.cons z .nil)
    have w : To α 0 H1 (upd H1 p (.lst (xs' ++ [v]))) := fun u ⟨ys, b1, b2⟩ => ⟨ys, by rw [upd_ne (fun y => g4 (by rw [y]))]; exact b1, b2.mono (by omega)⟩
    exact ⟨p, xs', v, rfl, rfl, g1, Evl.sz_lt (by rw [g5.len]; exact hl), kn _ F1 _ σ q (A1.put h e hy) s1.ff (s1.to.trans w (by omega))⟩
/-- xs[k] of a list of its own -/
theorem DE_ixOw {ds : List PyData} {Q : PyData → Prop} (h : ρ[i]? = some (.ow ds)) (he : DE K α β te ρ fun y => ∃ z d, y = .int z ∧ atI ds z = some d ∧ Q d) : DE K α β (tOp (rIx K) (tVar i) te) ρ Q := fun F0 H0 F H σ A QK k => by
  obtain ⟨p, xs, e, _⟩ := A.own h
  refine ⟨.ref p, e, he F0 H0 F H σ A _ fun y w F1 H1 hq s1 z => ?_⟩
  have A1 := A.st s1
  obtain ⟨m, d, rfl, ha, q⟩ := hq
  cases z
  obtain ⟨p', xs', e', g1, g2, g3, g4, g5⟩ := A1.own h
  rw [e] at e'
  cases e'
  obtain ⟨v, hv, zq⟩ := atI_dqs g5 ha
  exact .inl ⟨p, xs', m, v, rfl, rfl, .inl (.inl g1), hv, k d v F1 H1 q s1 zq⟩
/-! ### loops: at most 131072 turns, each with a share of the budget -/
abbrev shr (β : Nat) : Nat := β / 262144
theorem shr_le {β k : Nat} (h : k ≤ 262144) : k * shr β ≤ β := by
  have := Nat.div_mul_le_self β 262144
  exact Nat.le_trans (Nat.mul_le_mul_right _ h) (by rw [Nat.mul_comm]; exact this)
theorem shr_next {β k : Nat} (h : k < 262144) : k * shr β + shr β ≤ β := by
  have := shr_le (β := β) (k := k + 1) h
  rwa [Nat.succ_mul] at this
theorem DS_for {g : TG} {J : It} {n : Nat} {G : Hp → Prop} {Y : Nat → Hp → V → Hp → Prop} {F0 H0 F H : Hp} {σ : L2.St} {D : Ends} (w : Walk J n G Y) (hn : n ≤ 262144) (I : Nat → Rho → Prop) (A : At K α β F0 H0 F H σ ρ) (h0 : I 0 ρ)
    (hG : ∀ F' H', Ex F F' → Ex F' H' → G H')
    (kn : ∀ ρ' F' H' σ', I n ρ' → At K α 0 F0 H0 F' H' σ' ρ' → Ex F F' → To α β H H' → D.nx σ' H')
    (hs : ∀ k x σ' ρ' F1 H1 H2 (Nx : L2.St → Hp → Prop), k < n → I k ρ' → At K α (shr β) F0 H0 F1 H1 σ' ρ' → Ex F F1 → To α (k * shr β) H H1 → Y k H1 x H2 →
      (∀ ρ2 F2 H3 σ2, I (k + 1) ρ2 → At K α 0 F0 H0 F2 H3 σ2 ρ2 → Ex F F2 → To α ((k + 1) * shr β) H H3 → Nx σ2 H3) → g x σ' H2 fun σ2 H3 => t1 { D with nx := Nx, ct := Nx, bk := D.nx } σ2 H3) :
    ∃ W : Nat → Nat → L2.St → Hp → Prop, (∃ m, W 0 m σ H) ∧ ∀ i m σ H, W i m σ H →
      (J.stop i H ∧ D.nx σ H) ∨ (J.go i H ∧ ∃ N : L2.St → Hp → Prop, (∀ σ' H', N σ' H' → ∃ m', m' < m ∧ W (i + 1) m' σ' H') ∧ ∀ x H', J.yld i H x H' → g x σ H' fun σ2 H2 => t1 { D with nx := N, ct := N, bk := D.nx } σ2 H2) := by
  refine for_it w (fun k σ' H' => ∃ F' ρ', I k ρ' ∧ At K α 0 F0 H0 F' H' σ' ρ' ∧ Ex F F' ∧ To α (k * shr β) H H') ⟨F, ρ, h0, A.z, Ex.refl F, To.rfl⟩ (fun k σ' H' _ ⟨F', ρ', _, A', e, _⟩ => hG F' H' e A'.fh) ?_ fun σ' H' ⟨F', ρ', q, A', e, z⟩ => kn ρ' F' H' σ' q A' e (z.mono (shr_le hn))
  rintro k x σ' H1 H2 hk ⟨F1, ρ', q, A1, e1, z1⟩ y
  exact hs k x σ' ρ' F1 H1 H2 _ hk q (A1.bud (z1 (shr β) (A.tp.2.mono (shr_next (by omega))))) e1 z1 y fun ρ2 F2 H3 σ2 q2 A2 e2 z2 => ⟨F2, ρ2, q2, A2, e2, z2⟩
/-- a body within a turn -/
theorem DS_turn {F0 H0 F H F1 H1 : Hp} {s1 : L2.St} {ρ1 : Rho} {D : Ends} {k : Nat} {I : Rho → Prop} {Nx : L2.St → Hp → Prop} (hk : k < 262144) (q : DS K α (shr β) t1 ρ1 I R N I) (A1 : At K α (shr β) F0 H0 F1 H1 s1 ρ1) (e1 : Ex F F1) (t : To α (k * shr β) H H1)
    (kN : ∀ ρ2 F2 H3 σ2, I ρ2 → At K α 0 F0 H0 F2 H3 σ2 ρ2 → Ex F F2 → To α ((k + 1) * shr β) H H3 → Nx σ2 H3)
    (kn : ∀ ρ' F' H' σ', N ρ' → At K α 0 F0 H0 F' H' σ' ρ' → Ex F F' → To α β H H' → D.nx σ' H')
    (kr : ∀ d v F' H', R d → Gr (some α.a) F0 H0 F' H' → F' α.a = none → To α β H H' → Dq K F' d v → D.rt v H') : t1 { D with nx := Nx, ct := Nx, bk := D.nx } s1 H1 := by
  have l1 : k * shr β + shr β ≤ (k + 1) * shr β := by rw [Nat.succ_mul]; exact Nat.le_refl _
  have l2 : k * shr β + shr β ≤ β := shr_next hk
  exact q F0 H0 F1 H1 s1 _ A1 (fun r F' H' s q A' e z => kN r F' H' s q A' (e1.trans e) (t.trans z l1)) (fun d v F' H' q g n z => kr d v F' H' q g n (t.trans z l2))
    (fun r F' H' s q A' e z => kn r F' H' s q A' (e1.trans e) (t.trans z l2)) fun r F' H' s q A' e z => kN r F' H' s q A' (e1.trans e) (t.trans z l1)
theorem to_ex {δ : Nat} {F H F1 H1 : Hp} {D : Ends} {F0 H0 : Hp} (s1 : Stp α (β / 2) F H F1 H1)
    (kn : ∀ ρ' F' H' σ', N ρ' → At K α 0 F0 H0 F' H' σ' ρ' → Ex F F' → To α β H H' → D.nx σ' H') : ∀ ρ' F' H' σ', N ρ' → At K α 0 F0 H0 F' H' σ' ρ' → Ex F1 F' → To α (β / 2) H1 H' → D.nx σ' H' :=
  fun ρ' F' H' σ' q A' e z => kn ρ' F' H' σ' q A' (s1.ff.trans e) (s1.to.trans z (half_two β))
theorem to_rt {F H F1 H1 : Hp} {D : Ends} {F0 H0 : Hp} (s1 : Stp α (β / 2) F H F1 H1)
    (kr : ∀ d v F' H', R d → Gr (some α.a) F0 H0 F' H' → F' α.a = none → To α β H H' → Dq K F' d v → D.rt v H') : ∀ d v F' H', R d → Gr (some α.a) F0 H0 F' H' → F' α.a = none → To α (β / 2) H1 H' → Dq K F' d v → D.rt v H' :=
  fun d v F' H' q g n z => kr d v F' H' q g n (s1.to.trans z (half_two β))
/-- for a, b in a list of pairs -/
theorem DS_forLP {j : Nat} (hij : i ≠ j) (h : DE K α (β / 2) te ρ fun x => ∃ ps : List (PyData × PyData), x = .list (ps.map fun p => .tuple [p.1, p.2]) ∧ ps.length ≤ 262144 ∧ ∃ I : Nat → Rho → Prop, I 0 ρ ∧
      (∀ k p ρ', ps[k]? = some p → I k ρ' → DS K α (shr (β / 2)) t1 ((ρ'.set i (.sh p.1)).set j (.sh p.2)) (I (k + 1)) R N (I (k + 1))) ∧ ∀ ρ', I ps.length ρ' → N ρ') :
    DS K α β (tFor (iList K te) (gTup K 2 (gCons (gName i) (gCons (gName j) gNil))) t1) ρ N R B C := fun F0 H0 F H σ D A kn kr kb kc =>
  h F0 H0 F H σ A.h _ fun x v F1 H1 hq s1 z => by
    have A1 := A.nx s1
    obtain ⟨ps, rfl, hl, I, h0, hs, hd⟩ := hq
    cases z with
    | @lst a xs _ s2 s3 =>
      have hlen : xs.length = ps.length := by rw [s3.len, List.length_map]
      refine ⟨a, rfl, ⟨xs, Evl.ex_l A1.fh s2⟩, ?_⟩
      refine DS_for (walk_list (K := K) (xs := xs)) (by rw [hlen]; exact hl) I A1 h0 (fun F' H' e e' => Evl.ex_l (e.trans e') s2) (fun ρ' F' H' σ' q A' e z => to_ex (δ := 0) s1 kn ρ' F' H' σ' (hd ρ' (by rwa [hlen] at q)) A' e z) ?_
      rintro k x σ' ρ' F2 H2 H3 Nx hk q A2 e2 z2 ⟨rfl, hx⟩ kN
      obtain ⟨d, hd', zd⟩ := s3.get hx
      rw [List.getElem?_map] at hd'
      cases hp : ps[k]? with
      | none => rw [hp] at hd'; cases hd'
      | some p =>
        rw [hp] at hd'
        cases hd'
        cases zd.up e2 with
        | @tup b ys _ t2 t3 =>
          obtain ⟨v1, v2, rfl, z3, z4⟩ := dqs2 t3
          refine ⟨b, [v1, v2], rfl, Evl.ex_t A2.fh t2, rfl, v1, [v2], rfl, v2, [], rfl, rfl, ?_⟩
          exact DS_turn (by rw [hlen] at hk; omega) (hs k p ρ' hp q) ((A2.set (i := i) (s := .sh p.1) ⟨v1, rfl, z3⟩ fun _ e => by cases e).set (i := j) (s := .sh p.2) ⟨v2, rfl, z4⟩ fun _ e => by cases e) e2 z2 kN (to_ex (δ := 0) s1 kn) (to_rt s1 kr)
/-- for x in range(n) -/
theorem DS_forR1 {tr : TA} (h : DA K α (β / 2) tr ρ fun xs => ∃ j : Int, xs = [.int j] ∧ j ≤ 262144 ∧ ∃ I : Nat → Rho → Prop, I 0 ρ ∧
      (∀ k ρ', k < j.toNat → I k ρ' → DS K α (shr (β / 2)) t1 (ρ'.set i (.sh (.int (0 + k)))) (I (k + 1)) R N (I (k + 1))) ∧ ∀ ρ', I j.toNat ρ' → N ρ') : DS K α β (tFor (iRg1 tr) (gName i) t1) ρ N R B C := fun F0 H0 F H σ D A kn kr kb kc =>
  h F0 H0 F H σ A.h _ fun xs vs F1 H1 hq s1 z => by
    have A1 := A.nx s1
    obtain ⟨j, rfl, hl, I, h0, hs, hd⟩ := hq
    obtain ⟨v, rfl, z1⟩ := dqs1 z
    cases z1
    refine ⟨j, rfl, ?_⟩
    refine DS_for (walk_range (lo := 0) (n := j.toNat)) (by omega) I A1 h0 (fun _ _ _ _ => trivial) (fun ρ' F' H' σ' q A' e z => to_ex (δ := 0) s1 kn ρ' F' H' σ' (hd ρ' q) A' e z) ?_
    rintro k x σ' ρ' F2 H2 H3 Nx hk q A2 e2 z2 ⟨rfl, rfl⟩ kN
    exact DS_turn (by omega) (hs k ρ' hk q) (A2.set (i := i) (s := .sh _) ⟨_, rfl, .int _⟩ fun _ e => by cases e) e2 z2 kN (to_ex (δ := 0) s1 kn) (to_rt s1 kr)
/-- while: an invariant by a measure -/
theorem DS_while {c : TT} (I : Nat → Rho → Prop) (m : Nat) (hm : m < 262144) (h0 : I m ρ) (hs : ∀ m ρ', I m ρ' → DT K α (shr β / 2) c ρ' fun b => if b = true then DS K α (shr β / 2) t1 ρ' (fun ρ2 => ∃ m', m' < m ∧ I m' ρ2) R N (fun ρ2 => ∃ m', m' < m ∧ I m' ρ2) else N ρ') :
    DS K α β (tWhile c t1) ρ N R B C := fun F0 H0 F H σ D A kn kr kb kc => by
  refine ⟨fun m' σ' H' => ∃ F' ρ' k, k + m' ≤ m ∧ I m' ρ' ∧ At K α 0 F0 H0 F' H' σ' ρ' ∧ Ex F F' ∧ To α (k * shr β) H H', ⟨m, F, ρ, 0, by omega, h0, A.z, Ex.refl F, To.rfl⟩, ?_⟩
  rintro m' σ' H' ⟨F1, ρ', k, hk, q, A1, e1, z1⟩
  have l2 : k * shr β + shr β ≤ β := shr_next (by omega)
  have A1' : At K α (shr β) F0 H0 F1 H' σ' ρ' := A1.bud (z1 (shr β) (A.tp.2.mono l2))
  refine hs m' ρ' q F0 H0 F1 H' σ' A1'.h _ fun b F2 H2 hb s2 => ?_
  have A2 := A1'.nx s2
  have e2 := s2.ff
  have l1 : k * shr β + shr β ≤ (k + 1) * shr β := by rw [Nat.succ_mul]; exact Nat.le_refl _
  cases b with
  | false => exact kn ρ' F2 H2 σ' hb A2.z (e1.trans e2) (z1.trans s2.up.to l2)
  | true =>
    refine ⟨fun σ2 H3 => ∃ m2 F3 ρ3 k3, m2 < m' ∧ k3 + m2 ≤ m ∧ I m2 ρ3 ∧ At K α 0 F0 H0 F3 H3 σ2 ρ3 ∧ Ex F F3 ∧ To α (k3 * shr β) H H3, fun σ2 H3 ⟨m2, F3, ρ3, k3, l, l3, q3, A3, e3, z3⟩ => ⟨m2, l, F3, ρ3, k3, l3, q3, A3, e3, z3⟩, ?_⟩
    exact hb F0 H0 F2 H2 σ' _ A2 (fun r F' H' s ⟨m2, l, q⟩ A' e z => ⟨m2, F', r, k + 1, l, by omega, q, A', (e1.trans e2).trans e, z1.trans (s2.to.trans z (half_two _)) l1⟩) (fun d v F' H' q g n z => kr d v F' H' q g n (z1.trans (s2.to.trans z (half_two _)) l2))
      (fun r F' H' s q A' e z => kn r F' H' s q A' ((e1.trans e2).trans e) (z1.trans (s2.to.trans z (half_two _)) l2)) fun r F' H' s ⟨m2, l, q⟩ A' e z => ⟨m2, F', r, k + 1, l, by omega, q, A', (e1.trans e2).trans e, z1.trans (s2.to.trans z (half_two _)) l1⟩
end
end Cg
namespace Cg
open PySem PySem.Spec PyProof.Rows L2 Cf
open Evl (Ex)
section
variable {K : PySem.W.Frag} {α : Al} {β γ : Nat} {ρ : Rho} {i : Nat} {d : PyData} {te ta tb tc : TE} {t1 t2 : TS} {N B C : Rho → Prop} {R : PyData → Prop}
/-! ### comprehensions -/
theorem Stp.write {F H F' H' : Hp} {D : Addr} {o : HO} (e : Stp α β F H F' H') (nt : some α.a ≠ some D) (n : H D = none) (m : F' D = none) : Stp α β F H F' (upd H' D o) where
  g := ⟨e.ff, fun a u w q => by
    rw [upd_ne (fun z => by rw [z, n] at q; cases q)]
    exact e.g.hh a u w q, fun a u q => by
    rw [upd_ne (fun z => by rw [z, m] at q; cases q)]
    exact e.g.fh a u q, e.g.nw⟩
  n := e.n
  to := fun u b => by
    obtain ⟨ys, b1, b2⟩ := e.to u b
    exact ⟨ys, by rw [upd_ne (fun z => nt (by rw [z]))]; exact b1, b2⟩
/-- one turn's slots: what the target stores -/
structure Tn (K : PySem.W.Frag) (α : Al) (β : Nat) (ρ : Rho) (σ : L2.St) (own : List Nat) (g : TG) (x : V) (F1 H1 : Hp) (ρ2 : Rho) : Prop where
  ex : ∃ σ2, (∀ Qn : L2.St → Hp → Prop, Qn σ2 H1 → g x (wipe σ own) H1 Qn) ∧ wipe σ2 own = wipe σ own ∧ ∀ F0 H0, At K α β F0 H0 F1 H1 σ ρ → At K α β F0 H0 F1 H1 σ2 ρ2
theorem DL_lc {g : TG} {own : List Nat} {tt : TT} {J : It} {n : Nat} {G : Hp → Prop} {Y : Nat → Hp → V → Hp → Prop} {F0 H0 F H : Hp} {σ : L2.St} {QK : VK} {D : Addr} (w : Walk J n G Y) (hn : n ≤ 262144) (I : Nat → List PyData → Prop) (A : At K α β F0 H0 F H σ ρ) (nD : H D = none)
    (h0 : I 0 []) (hG : ∀ F' H', Ex F F' → Ex F' H' → G H') (hY0 : ∀ k H1 x H2, Y k H1 x H2 → H2 = H1)
    (hY : ∀ k x F1 H1, k < n → At K α (shr β) F0 H0 F1 H1 σ ρ → Ex F F1 → Y k H1 x H1 → ∃ ρ2, Tn K α (shr β) ρ σ own g x F1 H1 ρ2 ∧ ∀ acc, I k acc → acc.length < 100000 ∧ DT K α (shr β / 2) tt ρ2 fun b => if b = true then DE K α (shr β / 2) te ρ2 (fun y => I (k + 1) (acc ++ [y])) else I (k + 1) acc)
    (k : ∀ ds xs F' H', I n ds → Stp α β F H F' H' → F' D = none → H' D = some (.lst xs) → Dqs K F' ds xs → QK (.ref D) H') :
    ∃ W : Nat → Nat → Hp → Prop, (∃ m, W 0 m (upd H D (.lst []))) ∧ ∀ j m H, W j m H →
      (J.stop j H ∧ QK (.ref D) H) ∨ (J.go j H ∧ ∃ Nx : Hp → Prop, (∀ H', Nx H' → ∃ m', m' < m ∧ W (j + 1) m' H') ∧ ∀ x H', J.yld j H x H' → g x (wipe σ own) H' fun σ2 H2 => wipe σ2 own = wipe σ own ∧ tt σ2 H2 fun b H3 =>
        if b = true then te σ2 H3 fun y H4 => ∃ acc, H4 D = some (.lst acc) ∧ acc.length < sizeLine ∧ Nx (upd H4 D (.lst (acc ++ [y]))) else Nx H3) := by
  have nt : some α.a ≠ some D := (A.fs nD).tap
  refine lc_it w (fun k H' => ∃ F' ds xs, I k ds ∧ Stp α (k * shr β) F H F' H' ∧ F' D = none ∧ H' D = some (.lst xs) ∧ Dqs K F' ds xs) ⟨F, [], [], h0, (A.stp (Gr.free A.fh nD)).mono (Nat.zero_le _), ex_none A.fh nD, upd_same, .nil⟩
    (fun k H' _ ⟨F', ds, xs, _, e, _⟩ => hG F' H' e.ff e.g.fh) ?_ fun H' ⟨F', ds, xs, q, e, n1, n2, z⟩ => k ds xs F' H' q (e.mono (shr_le hn)) n1 n2 z
  rintro k x H1 H2 hk ⟨F1, ds, xs, q, e1, n1, n2, z⟩ y
  have := hY0 _ _ _ _ y
  subst this
  have l2 : k * shr β + shr β ≤ β := shr_next (by omega)
  have A1 := A.step e1 l2
  obtain ⟨ρ2, ⟨σ2, hg, hw, hA⟩, hq⟩ := hY k x F1 H2 hk A1 e1.ff y
  obtain ⟨hl, hq⟩ := hq ds q
  have A2 := hA F0 H0 A1
  have keep : ∀ {δ : Nat} {F3 H3 F4 H4 : Hp} {ys : List V}, Stp α δ F3 H3 F4 H4 → F3 D = none → H3 D = some (.lst ys) → F4 D = none ∧ H4 D = some (.lst ys) := fun {δ F3 H3 F4 H4 ys} e a b => by
    refine ⟨?_, e.g.hh D _ nt b⟩
    cases u : F4 D with
    | none => rfl
    | some o =>
      have := e.g.nw D o u a
      rw [b] at this
      cases this
  refine hg _ ⟨hw, hq F0 H0 F1 H2 _ A2.h _ fun b F3 H3 hb e3 => ?_⟩
  obtain ⟨m1, m2⟩ := keep e3 n1 n2
  cases b with
  | false => exact ⟨F3, ds, xs, hb, e1.tr e3.up (by rw [Nat.succ_mul]; exact Nat.le_refl _), m1, m2, z.up e3.ff⟩
  | true =>
    refine hb F0 H0 F3 H3 _ (A2.nx e3) _ fun y u F4 H4 hy e4 zy => ?_
    obtain ⟨r1, r2⟩ := keep e4 m1 m2
    exact ⟨xs, r2, Evl.sz_lt (by rw [z.len]; exact hl), F4, _, _, hy, (e1.tr (e3.two e4) (by rw [Nat.succ_mul]; exact Nat.le_refl _)).write nt nD r1, r1, upd_same, ((z.up e3.ff).up e4.ff).app (.cons zy .nil)⟩
theorem tn_name {σ : L2.St} {x : V} {d : PyData} {F1 H1 : Hp} (z : Dq K F1 d x) : Tn K α β ρ σ [i] (gName i) x F1 H1 (ρ.set i (.sh d)) := by
  refine ⟨⟨σ.set i (some x), fun Qn q => ?_, ?_, fun F0 H0 A => A.set (s := .sh d) ⟨x, rfl, z⟩ fun _ e => by cases e⟩⟩
  · show Qn ((σ.set i none).set i (some x)) H1
    rw [List.set_set]
    exact q
  · show (σ.set i (some x)).set i none = σ.set i none
    rw [List.set_set]
/-- [e for x in a list if c] -/
theorem DL_lcL {tl : TE} {tt : TT} {Q : List PyData → Prop} (h : DE K α (β / 2) tl ρ fun x => ∃ ds, x = .list ds ∧ ds.length ≤ 262144 ∧ ∃ I : Nat → List PyData → Prop, I 0 [] ∧
      (∀ k d acc, ds[k]? = some d → I k acc → acc.length < 100000 ∧ DT K α (shr (β / 2) / 2) tt (ρ.set i (.sh d)) fun b => if b = true then DE K α (shr (β / 2) / 2) te (ρ.set i (.sh d)) (fun y => I (k + 1) (acc ++ [y])) else I (k + 1) acc) ∧ ∀ acc, I ds.length acc → Q acc) :
    DL K α β (tLc (iList K tl) (gName i) tt te [i]) ρ Q := fun F0 H0 F H σ A QK k =>
  h F0 H0 F H σ A.h _ fun x v F1 H1 hq e1 z => by
    have A1 := A.nx e1
    obtain ⟨ds, rfl, hl, I, h0, hs, hd⟩ := hq
    cases z with
    | @lst a xs _ s1 s2 =>
      refine ⟨a, rfl, ⟨xs, Evl.ex_l A1.fh s1⟩, fun D nD => ?_⟩
      refine DL_lc (own := [i]) (g := gName i) (walk_list (K := K) (xs := xs)) (by rw [s2.len]; exact hl) I A1 nD h0 (fun F' H' e e' => Evl.ex_l (e.trans e') s1) (fun k H1 x H2 y => y.1) (fun m x F2 H2 hm A2 e2 y => ?_) fun ds' ys F' H' q e n1 n2 z => k ds' D ys F' H' (hd ds' (by rwa [s2.len] at q)) (e1.two e) (e1.back A1.tp.2 nD) n1 n2 z
      obtain ⟨_, hx⟩ := y
      obtain ⟨d, hd', zd⟩ := s2.get hx
      exact ⟨_, tn_name (zd.up e2), fun acc q => hs m d acc hd' q⟩
theorem DL_lcR1 {tr : TA} {tt : TT} {Q : List PyData → Prop} (h : DA K α (β / 2) tr ρ fun xs => ∃ j : Int, xs = [.int j] ∧ j ≤ 262144 ∧ ∃ I : Nat → List PyData → Prop, I 0 [] ∧
      (∀ k acc, k < j.toNat → I k acc → acc.length < 100000 ∧ DT K α (shr (β / 2) / 2) tt (ρ.set i (.sh (.int (0 + k)))) fun b => if b = true then DE K α (shr (β / 2) / 2) te (ρ.set i (.sh (.int (0 + k)))) (fun y => I (k + 1) (acc ++ [y])) else I (k + 1) acc) ∧ ∀ acc, I j.toNat acc → Q acc) :
    DL K α β (tLc (iRg1 tr) (gName i) tt te [i]) ρ Q := fun F0 H0 F H σ A QK k =>
  h F0 H0 F H σ A.h _ fun xs vs F1 H1 hq e1 z => by
    have A1 := A.nx e1
    obtain ⟨j, rfl, hl, I, h0, hs, hd⟩ := hq
    obtain ⟨v, rfl, z1⟩ := dqs1 z
    cases z1
    refine ⟨j, rfl, fun D nD => ?_⟩
    refine DL_lc (own := [i]) (g := gName i) (walk_range (lo := 0) (n := j.toNat)) (by omega) I A1 nD h0 (fun _ _ _ _ => trivial) (fun k H1 x H2 y => y.1) (fun m x F2 H2 hm A2 e2 y => ?_) fun ds' ys F' H' q e n1 n2 z => k ds' D ys F' H' (hd ds' q) (e1.two e) (e1.back A1.tp.2 nD) n1 n2 z
    obtain ⟨_, rfl⟩ := y
    exact ⟨_, tn_name (.int _), fun acc q => hs m acc hm q⟩
theorem DL_mapL {f : PyData → PyData} {tl : TE} {Q : List PyData → Prop} (h : DE K α (β / 2) tl ρ fun x => ∃ ds, x = .list ds ∧ ds.length < 100000 ∧ (∀ d ∈ ds, DE K α (shr (β / 2) / 2) te (ρ.set i (.sh d)) fun y => y = f d) ∧ Q (ds.map f)) : DL K α β (tLc (iList K tl) (gName i) tYes te [i]) ρ Q := by
  refine DL_lcL (h.mono ?_)
  rintro x ⟨ds, rfl, hl, hf, q⟩
  refine ⟨ds, rfl, by omega, fun k acc => acc = (ds.take k).map f, rfl, ?_, ?_⟩
  · rintro k d acc hd rfl
    have hk := (List.getElem?_eq_some_iff.mp hd).1
    refine ⟨by rw [List.length_map, List.length_take]; omega, DT_yes ?_⟩
    rw [if_pos rfl]
    refine (hf d (List.mem_of_getElem? hd)).mono ?_
    rintro y rfl
    rw [take_snoc hd, List.map_append]
    rfl
  · rintro acc rfl
    rw [List.take_length]
    exact q
theorem DL_mapR1 {f : Nat → PyData} {tr : TA} {Q : List PyData → Prop} (h : DA K α (β / 2) tr ρ fun xs => ∃ n : Nat, xs = [.int n] ∧ n < 100000 ∧ (∀ k, k < n → DE K α (shr (β / 2) / 2) te (ρ.set i (.sh (.int (k : Int)))) fun y => y = f k) ∧ Q ((List.range n).map f)) : DL K α β (tLc (iRg1 tr) (gName i) tYes te [i]) ρ Q := by
  refine DL_lcR1 fun F0 H0 F H σ A QK k => h F0 H0 F H σ A QK fun xs vs F' H' hq => k xs vs F' H' ?_
  obtain ⟨n, rfl, hl, hf, q⟩ := hq
  refine ⟨n, rfl, by omega, fun k acc => acc = (List.range k).map f, rfl, ?_, ?_⟩
  · rintro k acc hk rfl
    refine ⟨by simp; omega, DT_yes ?_⟩
    rw [if_pos rfl, Int.zero_add]
    refine (hf k (by omega)).mono ?_
    rintro y rfl
    rw [List.range_succ, List.map_append]
    rfl
  · rintro acc rfl
    rw [Int.toNat_natCast]
    exact q
/-- [draws for _ in range(n)]: ints of which P holds -/
theorem DL_intsR1 {P : Int → Prop} {tr : TA} {Q : List PyData → Prop} (h : DA K α (β / 2) tr ρ fun xs => ∃ n : Nat, xs = [.int n] ∧ n < 100000 ∧ (∀ k, k < n → DE K α (shr (β / 2) / 2) te (ρ.set i (.sh (.int (k : Int)))) fun y => ∃ m, y = .int m ∧ P m) ∧ ∀ ns : List Int, ns.length = n → (∀ m ∈ ns, P m) → Q (ns.map .int)) :
    DL K α β (tLc (iRg1 tr) (gName i) tYes te [i]) ρ Q := by
  refine DL_lcR1 fun F0 H0 F H σ A QK k => h F0 H0 F H σ A QK fun xs vs F' H' hq => k xs vs F' H' ?_
  obtain ⟨n, rfl, hl, hf, q⟩ := hq
  refine ⟨n, rfl, by omega, fun k acc => ∃ ns : List Int, acc = ns.map .int ∧ ns.length = k ∧ ∀ m ∈ ns, P m, ⟨[], rfl, rfl, by simp⟩, ?_, ?_⟩
  · rintro k acc hk ⟨ns, rfl, hns, hp⟩
    refine ⟨by simp; omega, DT_yes ?_⟩
    rw [if_pos rfl, Int.zero_add]
    refine (hf k (by omega)).mono ?_
    rintro y ⟨m, rfl, hm⟩
    refine ⟨ns ++ [m], by simp, by simp [hns], fun m' hm' => ?_⟩
    rcases List.mem_append.mp hm' with h' | h'
    · exact hp m' h'
    · rw [List.mem_singleton.mp h']
      exact hm
  · rintro acc ⟨ns, rfl, hns, hp⟩
    exact q ns (by rw [hns]; rfl) hp

/-! ### calls -/
/-- the promise of a def that draws at most w from the list at its first argument -/
def spC (K : PySem.W.Frag) (b : Bool) (w : Nat) (W : List PyData → (PyData → Prop) → Prop) : Sp := fun vs H Q _ => ∃ a ws F ds R, vs = .ref a :: ws ∧ Ex F H ∧ TpOk ⟨a, b⟩ w F H ∧ Dqs K F ds ws ∧ W ds R ∧ ∀ d v F' H', R d → Gr (some a) F H F' H' → F' a = none → To ⟨a, b⟩ w H H' → Dq K F' d v → Q v H'
theorem DE_call {W : List PyData → (PyData → Prop) → Prop} {E : XK} {tr : TA} {Q : PyData → Prop} (h : DA K α β tr ρ fun ds => W ds Q) : DE K α β (tCall (spP K W) [] E tr) ρ Q := fun F0 H0 F H σ A QK k =>
  h F0 H0 F H σ A _ fun ds vs F1 H1 hq e1 z => ⟨F1, ds, Q, e1.g.fh, by rw [List.append_nil]; exact z, hq, fun d v F' H' q g zd => k d v F' H' q (e1.pure g (A.st e1).tp.2) zd⟩
theorem DE_callC {b : Bool} {w : Nat} {W : List PyData → (PyData → Prop) → Prop} {E : XK} {tr : TA} {Q : PyData → Prop} (hb : α.b = b) (hw : w ≤ β / 2) (hi : ρ[i]? = some .tp) (h : DA K α (β / 2) tr ρ fun ds => W ds Q) : DE K α β (tCall (spC K b w W) [] E (tCons (tVar i) tr)) ρ Q := fun F0 H0 F H σ A QK k => by
  obtain ⟨o, e, b', hb', rfl⟩ := A.slot hi
  cases hb'
  subst hb
  refine ⟨.ref α.a, e, h F0 H0 F H σ A.h _ fun ds vs F1 H1 hq e1 z => ⟨α.a, vs, F1, ds, Q, by rw [List.append_nil], e1.g.fh, ⟨(A.nx e1).tp.1, (A.nx e1).tp.2.mono hw⟩, z, hq, fun d v F' H' q g n zt zd => ?_⟩⟩
  exact k d v F' H' q (e1.two ⟨g, n, zt.mono hw⟩) zd
/-- a body keeps the promise -/
theorem run_C {b : Bool} {w : Nat} {W : List PyData → (PyData → Prop) → Prop} {N : List Str} {vs : List V} {H : Hp} {Q : VK} {E : XK} {ts : TS} (h : spC K b w W vs H Q E)
    (hb : ∀ a ds R, W ds R → ds.length + 1 ≤ N.length ∧ DS K ⟨a, b⟩ w ts (Sl.tp :: ds.map Sl.sh ++ List.replicate (N.length - (ds.length + 1)) Sl.no) (fun _ => R .none) R NoR NoR) : ts { nx := fun _ H' => Q .non H', rt := Q } (L2.start N vs) H := by
  obtain ⟨a, ws, F, ds, R, rfl, e, tp, z, hW, k⟩ := h
  obtain ⟨hl, hb⟩ := hb a ds R hW
  have A : At K ⟨a, b⟩ w F H F H (L2.start N (.ref a :: ws)) (Sl.tp :: ds.map Sl.sh ++ List.replicate (N.length - (ds.length + 1)) Sl.no) := by
    refine ⟨Gr.refl e, ?_, fun i o s h1 h2 => ?_, fun i j p es fs n h1 => ?_, tp⟩
    · unfold L2.start
      simp [z.len]
    · unfold L2.start at h1
      cases i with
      | zero =>
        cases h1
        cases h2
        exact ⟨a, rfl, rfl⟩
      | succ i =>
        have h1 : (ws.map some ++ List.replicate (N.length - (ws.length + 1)) none)[i]? = some o := h1
        have h2 : (ds.map Sl.sh ++ List.replicate (N.length - (ds.length + 1)) Sl.no)[i]? = some s := h2
        by_cases hi : i < ds.length
        · rw [List.getElem?_append_left (by simpa [z.len] using hi), List.getElem?_map] at h1
          rw [List.getElem?_append_left (by simpa using hi), List.getElem?_map] at h2
          rw [List.getElem?_eq_getElem hi] at h2
          cases h2
          obtain ⟨v, hv, zd⟩ := z.at (i := i) (List.getElem?_eq_getElem hi)
          rw [hv] at h1
          cases h1
          exact ⟨v, rfl, zd⟩
        · rw [List.getElem?_append_right (by simpa using hi)] at h2
          have := List.mem_of_getElem? h2
          have := (List.mem_replicate.mp this).2
          subst this
          trivial
    · have := List.mem_of_getElem? h1
      rcases List.mem_append.mp this with m | m
      · rcases List.mem_cons.mp m with m | m
        · cases m
        · obtain ⟨d, _, m⟩ := List.mem_map.mp m
          cases m
      · have := (List.mem_replicate.mp m).2
        cases this
  exact hb F H F H _ _ A (fun ρ' F' H' σ' q A' _ z => k _ _ F' H' q A'.gr A'.tp.1 z .non) (fun d v F' H' q g n z zd => k d v F' H' q g n z zd) (fun _ _ _ _ q => q.elim) fun _ _ _ _ q => q.elim
abbrev KeepsC (b : Bool) (w : Nat) (W : List PyData → (PyData → Prop) → Prop) (n : Nat) (tb : PySem.W.Frag → TS) : Prop :=
  ∀ (K : PySem.W.Frag) (a : Addr) (ds : List PyData) (R : PyData → Prop), W ds R → ds.length + 1 ≤ n ∧ DS K ⟨a, b⟩ w (tb K) (Sl.tp :: ds.map Sl.sh ++ List.replicate (n - (ds.length + 1)) Sl.no) (fun _ => R .none) R NoR NoR
end
end Cg
/-! xs[::k] -/
namespace Cf
open PySem PySem.Spec PyProof.Rows L2
open Evl (Ex)
def stepIx (n : Nat) (k : Int) : List Nat := (List.range (if (0 : Int) < n then ((n : Int) - 0 + k - 1) / k else 0).toNat).map fun (i : Nat) => (0 + k * (i : Int)).toNat
def stepV {α : Type} (k : Int) (xs : List α) : List α := (stepIx xs.length k).filterMap fun i => xs[i]?
def tStepL (K : PySem.W.Frag) (te tk : TE) : TE := fun σ H Q => te σ H fun x H1 => tPart tk σ H1 fun o H2 => ∃ a xs k, x = .ref a ∧ o = some k ∧ 0 < k ∧ SqL K H2 a xs ∧ ∀ p, H2 p = none → Q (.ref p) (upd H2 p (.lst (stepV k xs)))
end Cf
/-! [e for i, x in enumerate(xs) if c], [e for x, y in zip(xs, ys)] -/
namespace Cf
open PySem PySem.Spec PyProof.Rows L2
open Evl (Ex)
section
variable {K : PySem.W.Frag} {t : Option Addr} {ρ : Rho} {i j : Nat} {te : TE} {tr : TA}
end
end Cf
/-! a list's truth, stores into a list of its own, extend, comprehensions over pairs, wide powers -/
namespace Cf
open PySem PySem.Spec PyProof.Rows L2
open Evl (Ex)
/-- ** of ints below 2 ^ 9000, up to the tenth power -/
def CPowW (i j : Int) : Prop := 0 ≤ j ∧ j ≤ 100 ∧ i.natAbs < 2 ^ 9000
def rPowW : R2 := rI CPowW fun i j => .int (i ^ j.toNat)
theorem op_powW {X : Cx} : OpR X (binaryOp .Pow) rPowW := opI fun i j _ _ _ _ _ hc q => by
  obtain ⟨h1, h2, h3⟩ := hc
  refine pow_int h1 ?_ q
  have b : (Builtin.Int.intBits i : Int) ≤ 9000 := by
    unfold Builtin.Int.intBits
    split
    · decide
    · have := PySem.Flt.log2_lt_of (by decide : 0 < 9000) h3
      omega
  have c : (0 : Int) ≤ Builtin.Int.intBits i := Int.natCast_nonneg _
  have : (Builtin.Int.intBits i : Int) * j ≤ 9000 * 100 := Int.mul_le_mul b h2 h1 (by decide)
  exact Int.le_trans this (by decide)
def tTru (K : PySem.W.Frag) (ta : TE) : TT := fun σ H Q => ta σ H fun x H' => ∃ k, TruV K x H' k ∧ Q k H'
section
variable {K : PySem.W.Frag} {t : Option Addr} {ρ : Rho} {i j : Nat} {d : PyData} {te ti tl : TE} {t1 t2 : TS} {N B C : Rho → Prop} {R : PyData → Prop}
/-- xs[k] = e, xs a list of its own -/
theorem DS_putAt {ds : List PyData} (h : ρ[i]? = some (.ow ds)) (he : DE K t te ρ fun d => DE K t ti ρ fun y => ∃ z m, y = .int z ∧ ixN ds.length z = some m ∧ N (ρ.set i (.ow (ds.set m d)))) : DS K t (tAsg te (gSub (tVar i) ti rSetL)) ρ N R B C :=
  fun F0 H0 F H σ D A kn kr kb kc => he F0 H0 F H σ A _ fun d v F1 H1 hy s1 z => by
    have A1 := A.step s1
    obtain ⟨p, xs, e, _⟩ := A1.own h
    refine ⟨.ref p, e, hy F0 H0 F1 H1 σ A1 _ fun y w F2 H2 hq s2 z2 => ?_⟩
    have A2 := A1.step s2
    obtain ⟨k, m, rfl, hm, q⟩ := hq
    cases z2
    obtain ⟨p', xs', e', g1, g2, g3, g4, g5⟩ := A2.own h
    rw [e] at e'
    cases e'
    exact ⟨p, xs', k, m, rfl, rfl, g1, by rw [g5.len]; exact hm, kn _ F2 _ σ q (A2.put h e (g5.set m (z.up s2.ff))) (s1.ff.trans s2.ff)⟩
/-- repr of a list of its own -/
theorem DE_reprOw {ds : List PyData} {Q : PyData → Prop} (h : ρ[i]? = some (.ow ds)) (q : (PyData.list ds).showable = true ∧ (PyData.list ds).shown.length ≤ sizeLine ∧ (PyData.list ds).depth ≤ 60 ∧ Q (.str (PyData.list ds).shown)) : DE K t (tCB (rReprD K) (tCons (tVar i) tNil)) ρ Q := fun F0 H0 F H σ A QK k => by
  obtain ⟨p, xs, e, h1, h2, h3, h4, h5⟩ := A.own h
  exact ⟨.ref p, e, .ref p, .list ds, rfl, .lst (.inl (.inl h1)) (h5.up A.fh), q.1, q.2.1, q.2.2.1, k _ _ F H q.2.2.2 A.rfl (.str _)⟩
/-! ### defs that return a list of their own -/
def DSG (K : PySem.W.Frag) (ts : TS) (ρ : Rho) (R : List PyData → Prop) : Prop := ∀ (F0 H0 F H : Hp) (σ : L2.St) (D : Ends), At K none F0 H0 F H σ ρ →
  (∀ es p xs F' H', R es → Gr none F0 H0 F' H' → H0 p = none → F' p = none → H' p = some (.lst xs) → Dqs K F' es xs → D.rt (.ref p) H') → ts D σ H
theorem DSG_seq {R : List PyData → Prop} (h : DS K none t1 ρ (fun ρ1 => DSG K t2 ρ1 R) (fun _ => False) NoR NoR) : DSG K (tSeq t1 t2) ρ R := fun F0 H0 F H σ D A k =>
  h F0 H0 F H σ { D with nx := t2 D } A (fun r F' H' s q A' _ => q F0 H0 F' H' s D A' k) (fun _ _ _ _ q => q.elim) (fun _ _ _ _ q => q.elim) fun _ _ _ _ q => q.elim
theorem DSG_retOw {ds : List PyData} {R : List PyData → Prop} (h : ρ[i]? = some (.ow ds)) (q : R ds) : DSG K (tRet (tVar i)) ρ R := fun F0 H0 F H σ D A k => by
  obtain ⟨p, xs, e, h1, h2, h3, h4, h5⟩ := A.own h
  exact ⟨_, e, k ds p xs F H q A.gr h3 h2 h1 h5⟩
theorem run_G {W : List PyData → (List PyData → Prop) → Prop} {NN : List Str} {vs : List V} {H : Hp} {Q : VK} {E : XK} {ts : TS} (h : spF K W vs H Q E)
    (b : ∀ ds R, W ds R → ds.length ≤ NN.length ∧ DSG K ts (ds.map Sl.sh ++ List.replicate (NN.length - ds.length) Sl.no) R) : ts { nx := fun _ H' => Q .non H', rt := Q } (L2.start NN vs) H := by
  obtain ⟨F, ds, R, e, z, hW, k⟩ := h
  obtain ⟨hl, b⟩ := b ds R hW
  exact b F H F H _ _ (At.begin e z hl) fun es p xs F' H' q g n n1 n2 zd => k es p xs F' H' q g n n1 n2 zd
abbrev KeepsG (W : List PyData → (List PyData → Prop) → Prop) (n : Nat) (tb : PySem.W.Frag → TS) : Prop :=
  ∀ (K : PySem.W.Frag) (ds : List PyData) (R : List PyData → Prop), W ds R → ds.length ≤ n ∧ DSG K (tb K) (ds.map Sl.sh ++ List.replicate (n - ds.length) Sl.no) R
end
end Cf
/-! the same for lists of draws that count; a list of draws of the law's own -/
namespace Cg
open PySem PySem.Spec PyProof.Rows L2 Cf
open Evl (Ex)
section
variable {K : PySem.W.Frag} {α : Al} {β γ : Nat} {ρ : Rho} {i j : Nat} {d : PyData} {te ti tl : TE} {t1 t2 : TS} {N B C : Rho → Prop} {R : PyData → Prop}
theorem to_put {F H H' : Hp} {p : Addr} {o : HO} (g4 : some α.a ≠ some p) (h : To α β H H') : To α β H (upd H' p o) := fun u b => by
  obtain ⟨ys, b1, b2⟩ := h u b
  exact ⟨ys, by rw [upd_ne (fun y => g4 (by rw [y]))]; exact b1, b2⟩
theorem DS_putAt {ds : List PyData} (h : ρ[i]? = some (.ow ds)) (he : DE K α (β / 2) te ρ fun d => DE K α (β / 2) ti ρ fun y => ∃ z m, y = .int z ∧ ixN ds.length z = some m ∧ N (ρ.set i (.ow (ds.set m d)))) : DS K α β (tAsg te (gSub (tVar i) ti rSetL)) ρ N R B C :=
  fun F0 H0 F H σ D A kn kr kb kc => he F0 H0 F H σ A.h _ fun d v F1 H1 hy s1 z => by
    have A1 := A.nx s1
    obtain ⟨p, xs, e, _⟩ := A1.own h
    refine ⟨.ref p, e, hy F0 H0 F1 H1 σ A1 _ fun y w F2 H2 hq s2 z2 => ?_⟩
    have A2 := A1.st s2
    obtain ⟨k, m, rfl, hm, q⟩ := hq
    cases z2
    obtain ⟨p', xs', e', g1, g2, g3, g4, g5⟩ := A2.own h
    rw [e] at e'
    cases e'
    exact ⟨p, xs', k, m, rfl, rfl, g1, by rw [g5.len]; exact hm, kn _ F2 _ σ q (A2.put h e (g5.set m (z.up s2.ff))) (s1.ff.trans s2.ff) (to_put (F := F) g4 (s1.two s2).to)⟩
theorem DL_callF {W : List PyData → (List PyData → Prop) → Prop} {E : XK} {tr : TA} {Q : List PyData → Prop} (h : DA K α β tr ρ fun ds => W ds Q) : DL K α β (tCall (spF K W) [] E tr) ρ Q := fun F0 H0 F H σ A QK k =>
  h F0 H0 F H σ A _ fun ds vs F1 H1 hq e1 z => ⟨F1, ds, Q, e1.g.fh, by rw [List.append_nil]; exact z, hq, fun es p xs F' H' q g n1 n2 n3 zd => k es p xs F' H' q (e1.pure g (A.st e1).tp.2) (e1.back (A.st e1).tp.2 n1) n2 n3 zd⟩
theorem DE_reprOw {ds : List PyData} {Q : PyData → Prop} (h : ρ[i]? = some (.ow ds)) (q : (PyData.list ds).showable = true ∧ (PyData.list ds).shown.length ≤ sizeLine ∧ (PyData.list ds).depth ≤ 60 ∧ Q (.str (PyData.list ds).shown)) : DE K α β (tCB (rReprD K) (tCons (tVar i) tNil)) ρ Q := fun F0 H0 F H σ A QK k => by
  obtain ⟨p, xs, e, h1, h2, h3, h4, h5⟩ := A.own h
  exact ⟨.ref p, e, .ref p, .list ds, rfl, .lst (.inl (.inl h1)) (h5.up A.fh), q.1, q.2.1, q.2.2.1, k _ _ F H q.2.2.2 A.rfl (.str _)⟩
end
/-! ### a list of draws of the law's own -/
def unTp : Sl → Sl
  | .tp => .no
  | s => s
theorem at_in {K : PySem.W.Frag} {F0 H0 F H F1 H1 : Hp} {σ : L2.St} {ρ : Rho} {i : Nat} {p : Addr} {b0 : Bool} {β : Nat} {xs : List V} (A : Cf.At K none F0 H0 F H σ ρ) (A1 : Cf.At K none F0 H0 F1 H1 σ ρ) (n : H p = none) (n1 : F1 p = none) (n2 : H1 p = some (.lst xs)) (b : TapOk β b0 xs) :
    At K ⟨p, b0⟩ β F0 H0 F1 H1 (σ.set i (some (.ref p))) (ρ.set i .tp) where
  gr := A1.gr.any
  len := by rw [List.length_set, List.length_set, A1.len]
  sl := fun j o s h1 h2 => by
    by_cases e : i = j
    · subst e
      have hi : i < σ.length := by
        have := (List.getElem?_eq_some_iff.mp h1).1
        rwa [List.length_set] at this
      rw [List.getElem?_set_self hi] at h1
      rw [List.getElem?_set_self (by rw [← A1.len]; exact hi)] at h2
      cases h1
      cases h2
      exact ⟨p, rfl, rfl⟩
    · rw [List.getElem?_set_ne e] at h1 h2
      have w := A1.sl j o s h1 h2
      cases s with
      | no => trivial
      | sh d => exact w
      | ow ds =>
        obtain ⟨q, ys, e1, w1, w2, w3, w4, w5⟩ := w
        refine ⟨q, ys, e1, w1, w2, w3, fun z => ?_, w5⟩
        cases z
        subst e1
        exact (A.fs n).own j ds h2 h1
      | tp =>
        obtain ⟨a, z, _⟩ := w
        cases z
      | vl v => exact w
      | od d => exact w
      | nw d => exact w
      | dk q kvs =>
        obtain ⟨e1, ⟨ys, w1, wq⟩, w2, w3, w4⟩ := w
        exact ⟨e1, ⟨ys, w1, wq⟩, w2, w3, fun z => by cases z; rw [n2] at w1; cases w1⟩
      | dt q kvs =>
        obtain ⟨e1, ⟨ys, w1, wq⟩, w2, w3, w4⟩ := w
        exact ⟨e1, ⟨ys, w1, wq⟩, w2, w3, fun z => by cases z; rw [n2] at w1; cases w1⟩
  ap := fun a b q ds es m h1 h2 h3 => by
    have ha : i ≠ a := fun e => by
      subst e
      have hi := (List.getElem?_eq_some_iff.mp h1).1
      rw [List.length_set] at hi
      rw [List.getElem?_set_self hi] at h1
      cases h1
    have hb : i ≠ b := fun e => by
      subst e
      have hi := (List.getElem?_eq_some_iff.mp h2).1
      rw [List.length_set] at hi
      rw [List.getElem?_set_self hi] at h2
      cases h2
    rw [List.getElem?_set_ne ha] at h1 h3
    rw [List.getElem?_set_ne hb] at h2 ⊢
    exact A1.ap a b q ds es m h1 h2 h3
  tp := ⟨n1, xs, n2, b⟩
theorem at_out {K : PySem.W.Frag} {F0 H0 F' H' : Hp} {σ : L2.St} {ρ : Rho} {p : Addr} {b0 : Bool} {β : Nat} (hp : H0 p = none) (A : At K ⟨p, b0⟩ β F0 H0 F' H' σ ρ) : Cf.At K none F0 H0 F' H' σ (ρ.map unTp) where
  gr := ⟨A.gr.ff, fun a o _ h => A.gr.hh a o (fun e => by cases e; rw [hp] at h; cases h) h, A.gr.fh, A.gr.nw⟩
  len := by rw [List.length_map, A.len]
  sl := fun j o s h1 h2 => by
    rw [List.getElem?_map] at h2
    cases hs : ρ[j]? with
    | none => rw [hs] at h2; cases h2
    | some s0 =>
      rw [hs] at h2
      cases h2
      have w := A.sl j o s0 h1 hs
      cases s0 with
      | no => trivial
      | sh d => exact w
      | ow ds =>
        obtain ⟨q, ys, e1, w1, w2, w3, w4, w5⟩ := w
        exact ⟨q, ys, e1, w1, w2, w3, (fun z => by cases z), w5⟩
      | tp => trivial
      | vl v => exact w
      | od d => exact w
      | nw d => exact w
      | dk q kvs =>
        obtain ⟨e1, w1, w2, w3, w4⟩ := w
        exact ⟨e1, w1, w2, w3, (fun z => by cases z)⟩
      | dt q kvs =>
        obtain ⟨e1, w1, w2, w3, w4⟩ := w
        exact ⟨e1, w1, w2, w3, (fun z => by cases z)⟩
  ap := fun a b q ds es m h1 h2 h3 => by
    have ow : ∀ (c : Nat) (fs : List PyData), (ρ.map unTp)[c]? = some (Sl.ow fs) → ρ[c]? = some (Sl.ow fs) := fun c fs z => by
      rw [List.getElem?_map] at z
      cases hs : ρ[c]? with
      | none => rw [hs] at z; cases z
      | some s0 =>
        rw [hs] at z
        cases s0 with
        | ow gs => exact z
        | _ => cases z
    exact A.ap a b q ds es m (ow a ds h1) (ow b es h2) h3
  tp := fun a h => by cases h
/-- name = a new list of draws; what follows draws from it -/
theorem DS_purse {K : PySem.W.Frag} {ρ : Rho} {i : Nat} {te : TE} {t2 : TS} {N B C : Rho → Prop} {R : PyData → Prop} {b : Bool} {β : Nat} (h : Cf.DL K none te ρ fun ds => (∃ ns : List Int, ds = ns.map .int ∧ TapOk β b (ns.map V.int)) ∧
      ∀ p, DS K ⟨p, b⟩ β t2 (ρ.set i .tp) (fun ρ' => N (ρ'.map unTp)) R (fun ρ' => B (ρ'.map unTp)) (fun ρ' => C (ρ'.map unTp))) : Cf.DS K none (tSeq (tAsg te (gName i)) t2) ρ N R B C := fun F0 H0 F H σ D A kn kr kb kc => by
  refine h F0 H0 F H σ A _ fun ds p xs F1 H1 hq e1 n n1 n2 z => ?_
  obtain ⟨⟨ns, rfl, ht⟩, hb⟩ := hq
  have ex := z.ints
  subst ex
  have hp : H0 p = none := (A.fs n).old
  have A1 := at_in (i := i) A (A.step e1) n n1 n2 ht
  exact hb p F0 H0 F1 H1 _ D A1 (fun ρ' F' H' σ' q A' e _ => kn _ F' H' σ' q (at_out hp A') (e1.ff.trans e)) (fun d v F' H' q g _ _ zd => kr d v F' H' q ⟨g.ff, fun a o _ h => g.hh a o (fun e => by cases e; rw [hp] at h; cases h) h, g.fh, g.nw⟩ (fun a h => by cases h) zd)
    (fun ρ' F' H' σ' q A' e _ => kb _ F' H' σ' q (at_out hp A') (e1.ff.trans e)) fun ρ' F' H' σ' q A' e _ => kc _ F' H' σ' q (at_out hp A') (e1.ff.trans e)
end Cg
namespace Cf
open PySem PySem.Spec PyProof.Rows L2
open Evl (Ex)
/-! ### what is changed within a loop's turn -/
section
variable {K : PySem.W.Frag} {t : Option Addr} {ρ : Rho} {i : Nat} {d : PyData} {te ta tb tc : TE} {t1 t2 : TS} {N B C : Rho → Prop} {R : PyData → Prop}
def DSW (K : PySem.W.Frag) (t : Option Addr) (ts : TS) (ρ : Rho) (N : Rho → Prop) (R : PyData → Prop) (B C : Rho → Prop) : Prop :=
  ∀ (F0 H0 F H : Hp) (σ : L2.St) (D : Ends), At K t F0 H0 F H σ ρ →
    (∀ ρ' F' H' σ', N ρ' → At K t F0 H0 F' H' σ' ρ' → D.nx σ' H') →
    (∀ d v F' H', R d → Gr t F0 H0 F' H' → TpOk t F' H' → Dq K F' d v → D.rt v H') →
    (∀ ρ' F' H' σ', B ρ' → At K t F0 H0 F' H' σ' ρ' → D.bk σ' H') →
    (∀ ρ' F' H' σ', C ρ' → At K t F0 H0 F' H' σ' ρ' → D.ct σ' H') → ts D σ H
theorem DS.w (h : DS K t t1 ρ N R B C) : DSW K t t1 ρ N R B C := fun F0 H0 F H σ D A kn kr kb kc =>
  h F0 H0 F H σ D A (fun r F' H' s q a _ => kn r F' H' s q a) kr (fun r F' H' s q a _ => kb r F' H' s q a) fun r F' H' s q a _ => kc r F' H' s q a
theorem DSW_seq (h : DS K t t1 ρ (fun ρ1 => DSW K t t2 ρ1 N R B C) R B C) : DSW K t (tSeq t1 t2) ρ N R B C := fun F0 H0 F H σ D A kn kr kb kc => by
  refine h F0 H0 F H σ { D with nx := t2 D } A (fun r F1 H1 s1 q A1 e1 => ?_) kr (fun r F' H' s q A' e => kb r F' H' s q A') fun r F' H' s q A' e => kc r F' H' s q A'
  exact q F0 H0 F1 H1 s1 D A1 kn kr kb kc
def Sl.young : Sl → Sl
  | .od d => .sh d
  | s => s
theorem At.young {F0 H0 F H F' H' : Hp} {σ σ' : L2.St} {ρ' : Rho} (A : At K t F0 H0 F H σ ρ) (A' : At K t F H F' H' σ' ρ') : At K t F0 H0 F' H' σ' (ρ'.map Sl.young) where
  gr := A.gr.trans A'.gr fun a e => (A'.tp a e).1
  len := by rw [List.length_map, A'.len]
  sl := fun j o s h1 h2 => by
    obtain ⟨s', h3, rfl⟩ := map_slot h2
    have w := A'.sl j o s' h1 h3
    cases s' with
    | no => trivial
    | sh d => exact w
    | ow ds =>
      obtain ⟨p, xs, e, w1, w2, w3, w4, w5⟩ := w
      exact ⟨p, xs, e, w1, w2, none_back (fun o q => A.gr.hh p o w4 q) w3, w4, w5⟩
    | tp => exact w
    | vl v => exact w
    | od d =>
      obtain ⟨v, e, z⟩ := w
      exact ⟨v, e, z.up A'.gr.ff⟩
    | nw d =>
      obtain ⟨v, e, z, p, xs, h1, h2, h3, h4⟩ := w
      exact ⟨v, e, z, p, xs, h1, (A.fs h2).old, base_none A h3, h4⟩
    | dk p kvs =>
      obtain ⟨e, w1, w2, w3, w4⟩ := w
      exact ⟨e, w1, w2, none_back (fun o q => A.gr.hh p o w4 q) w3, w4⟩
    | dt p kvs =>
      obtain ⟨e, w1, w2, w3, w4⟩ := w
      exact ⟨e, w1, w2, none_back (fun o q => A.gr.hh p o w4 q) w3, w4⟩
  ap := fun i j p ds es n h1 h2 h3 => by
    obtain ⟨s1, g1, e1⟩ := map_slot h1
    obtain ⟨s2, g2, e2⟩ := map_slot h2
    cases s1 <;> cases e1
    cases s2 <;> cases e2
    exact A'.ap i j p ds es n g1 g2 h3
  tp := A'.tp
/-- from here on what is there is old, up to the end -/
theorem DS_within (h : DSW K t t1 (ρ.map Sl.old) (fun ρ2 => N (ρ2.map Sl.young)) R (fun ρ2 => B (ρ2.map Sl.young)) (fun ρ2 => C (ρ2.map Sl.young))) : DS K t t1 ρ N R B C := fun F0 H0 F H σ D A kn kr kb kc =>
  h F H F H σ D A.rebase (fun r F' H' s q a => kn _ F' H' s q (A.young a) a.gr.ff) (fun d v F' H' q g tp z => kr d v F' H' q (A.gr.trans g fun a e => (tp a e).1) tp z)
    (fun r F' H' s q a => kb _ F' H' s q (A.young a) a.gr.ff) fun r F' H' s q a => kc _ F' H' s q (A.young a) a.gr.ff
/-- a, b, c = x, y, a new list -/
theorem DS_par3Ow {i j k : Nat} {tl : TE} (h : DE K t ta ρ fun d => DE K t tb ρ fun e => DL K t tl ρ fun ds => N (((ρ.set i (.sh d)).set j (.sh e)).set k (.ow ds))) :
    DS K t (tPar3 i j k (tCons ta (tCons tb (tCons tl tNil)))) ρ N R B C := fun F0 H0 F H σ D A kn kr kb kc =>
  h F0 H0 F H σ A _ fun d v F1 H1 q e1 z1 => by
    have A1 := A.step e1
    refine q F0 H0 F1 H1 σ A1 _ fun d' v' F2 H2 q2 e2 z2 => ?_
    have A2 := A1.step e2
    refine q2 F0 H0 F2 H2 σ A2 _ fun ds p xs F3 H3 q3 e3 n n1 n2 z3 => ?_
    have A3 := A2.step e3
    have f := A2.fs n
    refine ⟨v, v', .ref p, rfl, kn _ F3 _ _ q3 ?_ ((e1.ff.trans e2.ff).trans e3.ff)⟩
    have B1 := (A3.set (i := i) (s := .sh d) ⟨v, rfl, z1.up (e2.ff.trans e3.ff)⟩ fun _ e => by cases e).set (i := j) (s := .sh d') ⟨v', rfl, z2.up e3.ff⟩ fun _ e => by cases e
    refine B1.setOw ⟨p, xs, rfl, n2, n1, f.old, f.tap, z3⟩ fun m es hk h e => ?_
    have mj : j ≠ m := fun w => by
      subst w
      have hi := (List.getElem?_eq_some_iff.mp h).1
      rw [List.length_set] at hi
      rw [List.getElem?_set_self hi] at h
      cases h
    rw [List.getElem?_set_ne mj] at h e
    have mi : i ≠ m := fun w => by
      subst w
      have hi := (List.getElem?_eq_some_iff.mp h).1
      rw [List.length_set] at hi
      rw [List.getElem?_set_self hi] at h
      cases h
    rw [List.getElem?_set_ne mi] at h e
    exact f.own m es h e
end
/-! ### [f, g][k](..) -/
def tPick (s0 s1 : Sp) (i : Nat) (ta : TA) : TE := fun σ H Q => ∃ z : Int, σ[i]? = some (some (.int z)) ∧ ∀ (p : Addr) (o : HO), H p = none →
  (z = 0 ∧ ta σ (upd H p o) fun vs H2 => s0 (vs ++ []) H2 Q E0) ∨ (z = 1 ∧ ta σ (upd H p o) fun vs H2 => s1 (vs ++ []) H2 Q E0)
section
variable {X : Cx} {CX : CXT} {k : Nat} {f0 f1 : Addr} {fd0 fd1 : FuncData} {ps0 ps1 : List Str} {s0 s1 : Sp} {x0 x1 x2 : Str} {p0 p1 p2 p3 p4 pos : Pos} {e : Expr} {es : List Expr} {t : TA} {i : Nat}
end
section
variable {K : PySem.W.Frag} {t : Option Addr} {ρ : Rho} {i j : Nat} {tr : TA} {N B C : Rho → Prop} {R Q : PyData → Prop} {W0 W1 : List PyData → (PyData → Prop) → Prop}
/-- the number of the def -/
def num01 (ρ : Rho) (i : Nat) (b : Bool) : Prop := ρ[i]? = some (.sh (.int (if b then 1 else 0))) ∨ ρ[i]? = some (.od (.int (if b then 1 else 0)))
theorem At.num01 {F0 H0 F H : Hp} {σ : L2.St} (A : At K t F0 H0 F H σ ρ) {b : Bool} (h : num01 ρ i b) : σ[i]? = some (some (.int (if b then 1 else 0))) := by
  rcases h with h | h
  · obtain ⟨v, e, z⟩ := A.var h
    cases z
    exact e
  · obtain ⟨o, e, v, rfl, z⟩ := A.slot h
    cases z
    exact e
end
end Cf
namespace Cf
open PySem PySem.Spec PyProof.Rows L2
open Evl (Ex)
section
variable {K : PySem.W.Frag} {t : Option Addr} {ρ : Rho} {i j : Nat} {d : PyData} {te ta tb tl : TE} {t1 t2 : TS} {N B C : Rho → Prop} {R : PyData → Prop}
end
end Cf
namespace Cg
open PySem PySem.Spec PyProof.Rows L2 Cf
open Evl (Ex)
section
variable {K : PySem.W.Frag} {α : Al} {β γ : Nat} {ρ : Rho} {i j : Nat} {d : PyData} {te ta tb tl : TE} {t1 t2 : TS} {N B C : Rho → Prop} {R : PyData → Prop}
/-- a, b, c = x, y, a new list -/
theorem DS_par3Ow {k : Nat} (h : DE K α (β / 2) ta ρ fun d => DE K α (β / 2 / 2) tb ρ fun e => DL K α (β / 2 / 2) tl ρ fun ds => N (((ρ.set i (.sh d)).set j (.sh e)).set k (.ow ds))) :
    DS K α β (tPar3 i j k (tCons ta (tCons tb (tCons tl tNil)))) ρ N R B C := fun F0 H0 F H σ D A kn kr kb kc =>
  h F0 H0 F H σ A.h _ fun d v F1 H1 q e1 z1 => by
    have A1 := A.nx e1
    refine q F0 H0 F1 H1 σ A1.h _ fun d' v' F2 H2 q2 e2 z2 => ?_
    have A2 := A1.nx e2
    refine q2 F0 H0 F2 H2 σ A2 _ fun ds p xs F3 H3 q3 e3 n n1 n2 z3 => ?_
    have A3 := A2.st e3
    have f := A2.fs n
    refine ⟨v, v', .ref p, rfl, kn _ F3 _ _ q3 ?_ ((e1.ff.trans e2.ff).trans e3.ff) (e1.two (e2.two e3)).to⟩
    have B1 := (A3.set (i := i) (s := .sh d) (o := some v) ⟨v, rfl, z1.up (e2.ff.trans e3.ff)⟩ fun _ e => by cases e).set (i := j) (s := .sh d') (o := some v') ⟨v', rfl, z2.up e3.ff⟩ fun _ e => by cases e
    refine B1.setOw ⟨p, xs, rfl, n2, n1, f.old, f.tap, z3⟩ fun m es hk h e => ?_
    have mj : j ≠ m := fun w => by
      subst w
      have hi := (List.getElem?_eq_some_iff.mp h).1
      rw [List.length_set] at hi
      rw [List.getElem?_set_self hi] at h
      cases h
    rw [List.getElem?_set_ne mj] at h e
    have mi : i ≠ m := fun w => by
      subst w
      have hi := (List.getElem?_eq_some_iff.mp h).1
      rw [List.length_set] at hi
      rw [List.getElem?_set_self hi] at h
      cases h
    rw [List.getElem?_set_ne mi] at h e
    exact f.own m es h e
end
end Cg
/-! how long texts of data are -/
namespace Cf
open PySem
structure Shw (n k : Nat) (d : PyData) : Prop where
  sb : d.showable = true
  ln : d.shown.length ≤ n
  dp : d.depth ≤ k
theorem Shw.up {n m k j : Nat} {d : PyData} (h : Shw n k d) (hn : n ≤ m) (hk : k ≤ j) : Shw m j d := ⟨h.sb, Nat.le_trans h.ln hn, Nat.le_trans h.dp hk⟩
theorem shw_int {i : Int} (h : i.natAbs < 10 ^ 45) : Shw 64 0 (.int i) := by
  refine ⟨?_, ?_, by simp only [PyData.depth]; exact Nat.le_refl _⟩
  · simp only [PyData.showable]
    refine decide_eq_true (Nat.lt_of_lt_of_le (PySem.Flt.log2_lt_of (k := 160) (by decide) (Nat.lt_of_lt_of_le h (by decide))) (by decide))
  · have e := int_text_length_le10 (k := 45) (by decide) h
    clear h
    simp only [PyData.shown]
    rw [show (toString i : Str).length = (toString i : String).length from ofString_length _]
    omega
theorem shw_all {n k : Nat} : ∀ ds : List PyData, (∀ d ∈ ds, Shw n k d) → PyData.showableAll ds = true ∧ ((PyData.shownAll ds).map (·.length)).sum ≤ ds.length * n ∧ (PyData.shownAll ds).length = ds.length ∧ PyData.depthAll ds ≤ k
  | [], _ => ⟨by simp only [PyData.showableAll], by simp [PyData.shownAll], by simp only [PyData.shownAll]; rfl, by simp only [PyData.depthAll]; omega⟩
  | d :: ds, h => by
    obtain ⟨h1, h2, h3, h4⟩ := shw_all ds fun x hx => h x (List.mem_cons_of_mem _ hx)
    have hd := h d List.mem_cons_self
    refine ⟨?_, ?_, ?_, ?_⟩
    · simp only [PyData.showableAll, hd.sb, h1, Bool.and_self]
    · simp only [PyData.shownAll, List.map_cons, List.sum_cons, List.length_cons]
      have := hd.ln
      rw [Nat.add_mul, Nat.one_mul]
      omega
    · simp only [PyData.shownAll, List.length_cons, h3]
    · simp only [PyData.depthAll]
      exact Nat.max_le.mpr ⟨hd.dp, h4⟩
theorem shw_list {n k : Nat} {ds : List PyData} (h : ∀ d ∈ ds, Shw n k d) : Shw (ds.length * (n + 2) + 3) (k + 1) (.list ds) := by
  obtain ⟨h1, h2, h3, h4⟩ := shw_all ds h
  refine ⟨by simp only [PyData.showable, h1], ?_, by simp only [PyData.depth]; omega⟩
  have e := listText_len_le (PyData.shownAll ds)
  simp only [PyData.shown]
  rw [Nat.mul_add]
  omega
theorem shw_tuple {n k : Nat} {ds : List PyData} (h : ∀ d ∈ ds, Shw n k d) : Shw (ds.length * (n + 2) + 3) (k + 1) (.tuple ds) := by
  obtain ⟨h1, h2, h3, h4⟩ := shw_all ds h
  refine ⟨by simp only [PyData.showable, h1], ?_, by simp only [PyData.depth]; omega⟩
  have e := tupleText_len_le (PyData.shownAll ds)
  simp only [PyData.shown]
  rw [Nat.mul_add]
  omega
end Cf
namespace Cf
open PySem PySem.Spec PyProof.Rows L2
open Evl (Ex)
local macro_rules | `(tactic| walk_at "d") => `(tactic| first
  | (with_reducible refine DS_seq ?_)
  | (with_reducible refine DS_if ?_)
  | (with_reducible refine DS_ret ?_)
  | (with_reducible refine DS_next ?_)
  | (with_reducible refine DS_retN ?_)
  | (with_reducible refine DS_set ?_)
  | (with_reducible refine DS_drop ?_)
  | (with_reducible refine DS_unpack ?_)
  | (with_reducible refine DS_par ?_)
  | (with_reducible refine DE_int ?_)
  | (with_reducible refine DE_bl ?_)
  | (with_reducible refine DE_non ?_)
  | (with_reducible refine DE_str ?_)
  | (with_reducible refine DE_isi ?_)
  | (with_reducible refine DE_and ?_)
  | (with_reducible refine DE_or ?_)
  | (with_reducible refine DE_not ?_)
  | (with_reducible refine DE_if ?_)
  | (with_reducible refine DE_chain ?_)
  | (with_reducible refine DE_tyIs ?_)
  | (with_reducible refine DE_tyNot ?_)
  | (with_reducible refine DE_call ?_)
  | (with_reducible refine DE_cb ?_)
  | (with_reducible refine DE_op ?_)
  | (with_reducible refine DE_un ?_)
  | (with_reducible refine DE_tup ?_)
  | (with_reducible refine DT_test ?_)
  | (with_reducible refine DT_B ?_)
  | (with_reducible refine DT_and ?_)
  | (with_reducible refine DT_or ?_)
  | (with_reducible refine DT_not ?_)
  | (with_reducible refine DT_yes ?_)
  | (with_reducible refine DA_nil ?_)
  | (with_reducible refine DA_cons ?_)
  | (with_reducible refine DO_no ?_)
  | (with_reducible refine DO_at ?_)
  | (with_reducible refine DR_minus ?_)
  | (with_reducible refine DR_mod ?_)
  | (with_reducible refine DR_div ?_)
  | (with_reducible refine DR_pow ?_)
  | (with_reducible refine DR_lt ?_)
  | (with_reducible refine DR_le ?_)
  | (with_reducible refine DR_gt ?_)
  | (with_reducible refine DR_ge ?_)
  | (with_reducible refine DR_eq ?_)
  | (with_reducible refine DR_ne ?_)
  | (with_reducible refine DR_isN ?_)
  | (with_reducible refine DR_notN ?_)
  | (with_reducible refine DU_neg ?_)
  | (with_reducible refine DC_len ?_)
  | (with_reducible refine DC_int ?_)
  | (with_reducible refine DC_abs ?_)
  | (with_reducible refine DC_max2 ?_)
  | (with_reducible refine DC_min2 ?_)
  | (with_reducible refine DC_sum ?_)
  | (with_reducible refine DC_all ?_)
  | (with_reducible refine DC_any ?_)
  | (with_reducible refine DC_repr ?_)
  | (with_reducible refine ⟨_, kb_int _, ?_⟩)
  | (with_reducible refine ⟨_, kb_bool _, ?_⟩)
  | (with_reducible refine ⟨_, kb_list _, ?_⟩)
  | (with_reducible refine ⟨_, kb_tuple _, ?_⟩)
  | (with_reducible refine ⟨_, rfl, ?_⟩)
  | (with_reducible refine ⟨_, _, rfl, rfl, ?_⟩)
  | ((with_reducible refine' DE_var ?k1 ?_); (case k1 => exact rfl)))


theorem big_lt {b : Int} (h : b < 2 ^ 200) : b < 2 ^ 8000 := Int.lt_of_lt_of_le h (pow_mono (by decide) (by decide))
abbrev KeepsF (W : List PyData → (List PyData → Prop) → Prop) (n : Nat) (tb : PySem.W.Frag → TS) : Prop :=
  ∀ (K : PySem.W.Frag) (ds : List PyData) (R : List PyData → Prop), W ds R → ds.length ≤ n ∧ DSF K (tb K) (ds.map Sl.sh ++ List.replicate (n - ds.length) Sl.no) R

def W__law_tap (ds : List PyData) (R : List PyData → Prop) : Prop := ∃ c t : Int, ds = [.int c, .int t] ∧ 0 ≤ t ∧ t < 1000 ∧ ∀ x y z : Int, Tap x y z → R [.int x, .int y, .int z]
def t__law_tap (K : PySem.W.Frag) : TS :=
  (tSeq (tAsg (tOp (rPlus K) (tOp rTimes (tC (.int 2)) (tCB rAbsA (tCons (tVar 0) tNil))) (tCB rIntA (tCons (tOp rLtI (tVar 0) (tC (.int 0))) tNil))) (gName 2))
    (tRet (tLst (tCons (tVar 2) (tCons (tOp (rPlus K) (tOp (rPlus K) (tOp rModI (tCB rIntA (tCons (tVar 2) tNil)) (tC (.int 4294967291))) (tOp rTimes (tC (.int 977)) (tVar 1))) (tC (.int 1))) (tCons (tOp (rPlus K) (tOp (rPlus K) (tOp rModI (tCB rIntA (tCons (tVar 2) tNil)) (tC (.int 2147483587))) (tOp rTimes (tC (.int 31)) (tVar 1))) (tC (.int 2))) tNil))))))
def W__law_cells (ds : List PyData) (R : PyData → Prop) : Prop := ∃ (ns : List Int) (m : Int), ds = [LI ns, .int m] ∧ ns.length ≤ 63 ∧ ∀ cs : List Int, cs.length ≤ 64 → R (LI cs)
def t__law_cells (K : PySem.W.Frag) : TS :=
  (tRet (tSl (rSlL K) (tOp (rPlus K) (tVar 0) (tLst (tCons (tC (.int 0)) tNil))) tNoPart (tPart (tCB rMax2A (tCons (tC (.int 1)) (tCons (tCB rMin2A (tCons (tVar 1) (tCons (tCB (rLenA K) (tCons (tVar 0) tNil)) tNil))) tNil))))))
def W__law_many (ds : List PyData) (R : PyData → Prop) : Prop := ∃ s l : Int, ds = [.int s, .int l] ∧ 2 ≤ s ∧ s ≤ 4 ∧ R (.int (s ^ l.toNat))
def t__law_many (K : PySem.W.Frag) : TS :=
  (tSeq (tAsg (tC (.int 1)) (gName 2))
    (tSeq (tFor (iRg1 (tCons (tVar 1) tNil)) (gName 3)
    (tAsg (tOp rTimes (tVar 2) (tVar 0)) (gName 2)))
    (tRet (tVar 2))))
def W__law_number (ds : List PyData) (R : PyData → Prop) : Prop := ∃ (s : Int) (r : List Int) (z : Int) (l : Nat), ds = [.int s, LI r, .int z, .int l] ∧ 2 ≤ s ∧ s ≤ 4 ∧ r ≠ [] ∧ R (.int (num s (win r z l)))
def t__law_number (K : PySem.W.Frag) : TS :=
  (tSeq (tAsg (tC (.int 0)) (gName 4))
    (tSeq (tFor (iRg1 (tCons (tVar 3) tNil)) (gName 5)
    (tAsg (tOp (rPlus K) (tOp rTimes (tVar 4) (tVar 0)) (tOp (rIx K) (tVar 1) (tOp rModI (tCB rIntA (tCons (tOp (rPlus K) (tVar 2) (tVar 5)) tNil)) (tCB (rLenA K) (tCons (tVar 1) tNil))))) (gName 4)))
    (tRet (tVar 4))))
def W__law_widest (ds : List PyData) (R : PyData → Prop) : Prop := ∃ s w : Int, ds = [.int s, .int w] ∧ 2 ≤ s ∧ s ≤ 4 ∧ s ≤ w ∧ ∀ n : Nat, 1 ≤ n → s ^ n ≤ w → R (.int n)
def t__law_widest (K : PySem.W.Frag) : TS :=
  (tSeq (tAsg (tC (.int 1)) (gName 2))
    (tSeq (tWhile (tTest (tOp rLeI (tCall (spP K W__law_many) [] E0 (tCons (tVar 0) (tCons (tOp (rPlus K) (tVar 2) (tC (.int 1))) tNil))) (tVar 1)))
    (tAsg (tOp (rPlus K) (tVar 2) (tC (.int 1))) (gName 2)))
    (tRet (tVar 2))))
end Cf
namespace Cf
open PySem PySem.Spec PyProof.Rows L2
open Evl (Ex)
local macro_rules | `(tactic| walk_at "d") => `(tactic| first
  | (with_reducible refine DS_seq ?_)
  | (with_reducible refine DS_if ?_)
  | (with_reducible refine DS_ret ?_)
  | (with_reducible refine DS_next ?_)
  | (with_reducible refine DS_retN ?_)
  | (with_reducible refine DS_set ?_)
  | (with_reducible refine DS_drop ?_)
  | (with_reducible refine DS_unpack ?_)
  | (with_reducible refine DS_par ?_)
  | (with_reducible refine DE_int ?_)
  | (with_reducible refine DE_bl ?_)
  | (with_reducible refine DE_non ?_)
  | (with_reducible refine DE_str ?_)
  | (with_reducible refine DE_isi ?_)
  | (with_reducible refine DE_and ?_)
  | (with_reducible refine DE_or ?_)
  | (with_reducible refine DE_not ?_)
  | (with_reducible refine DE_if ?_)
  | (with_reducible refine DE_chain ?_)
  | (with_reducible refine DE_tyIs ?_)
  | (with_reducible refine DE_tyNot ?_)
  | (with_reducible refine DE_call ?_)
  | ((with_reducible refine' DE_lenOw ?k1 ?_); (case k1 => exact rfl))
  | ((with_reducible refine' DE_reprOw ?k1 ?_); (case k1 => exact rfl))
  | ((with_reducible refine' DE_ixOw ?k1 ?_); (case k1 => exact rfl))
  | ((with_reducible refine' DE_lenOw ?k1 ?_); (case k1 => exact rfl))
  | (with_reducible refine DE_cb ?_)
  | (with_reducible refine DE_new (DL_rep (DL_lst ?_)))
  | (with_reducible refine DE_op ?_)
  | (with_reducible refine DE_un ?_)
  | (with_reducible refine DE_tup ?_)
  | (with_reducible refine DT_test ?_)
  | (with_reducible refine DT_B ?_)
  | (with_reducible refine DT_and ?_)
  | (with_reducible refine DT_or ?_)
  | (with_reducible refine DT_not ?_)
  | (with_reducible refine DT_yes ?_)
  | (with_reducible refine DA_nil ?_)
  | (with_reducible refine DA_cons ?_)
  | (with_reducible refine DO_no ?_)
  | (with_reducible refine DO_at ?_)
  | (with_reducible refine DR_minus ?_)
  | (with_reducible refine DR_mod ?_)
  | (with_reducible refine DR_div ?_)
  | (with_reducible refine DR_pow ?_)
  | (with_reducible refine DR_lt ?_)
  | (with_reducible refine DR_le ?_)
  | (with_reducible refine DR_gt ?_)
  | (with_reducible refine DR_ge ?_)
  | (with_reducible refine DR_eq ?_)
  | (with_reducible refine DR_ne ?_)
  | (with_reducible refine DR_isN ?_)
  | (with_reducible refine DR_notN ?_)
  | (with_reducible refine DU_neg ?_)
  | (with_reducible refine DC_len ?_)
  | (with_reducible refine DC_int ?_)
  | (with_reducible refine DC_abs ?_)
  | (with_reducible refine DC_max2 ?_)
  | (with_reducible refine DC_min2 ?_)
  | (with_reducible refine DC_sum ?_)
  | (with_reducible refine DC_all ?_)
  | (with_reducible refine DC_any ?_)
  | (with_reducible refine DC_repr ?_)
  | (with_reducible refine ⟨_, kb_int _, ?_⟩)
  | (with_reducible refine ⟨_, kb_bool _, ?_⟩)
  | (with_reducible refine ⟨_, kb_list _, ?_⟩)
  | (with_reducible refine ⟨_, kb_tuple _, ?_⟩)
  | (with_reducible refine ⟨_, rfl, ?_⟩)
  | (with_reducible refine ⟨_, _, rfl, rfl, ?_⟩)
  | (with_reducible refine DE_callN ?_)
  | (with_reducible refine DE_callX ?_)
  | (with_reducible refine DR_notB ?_)
  | (with_reducible refine DE_emp ?_)
  | (with_reducible refine DE_new (DL_lst ?_))
  | (with_reducible refine DE_new (DL_callF ?_))
  | (with_reducible refine DE_new (DL_sl ?_))
  | (with_reducible refine DE_slT ?_)
  | (with_reducible refine DC_list ?_)
  | ((with_reducible refine' DE_callT ?k1 ?_); (case k1 => exact rfl))
  | ((with_reducible refine' DE_var ?k1 ?_); (case k1 => exact rfl))
  | ((with_reducible refine' DE_varO ?k1 ?_); (case k1 => exact rfl))
  | ((with_reducible refine' DE_varN ?k1 ?_); (case k1 => exact rfl)))


def W__law_purse (ds : List PyData) (R : List PyData → Prop) : Prop := ∃ (ns : List Int) (k : Nat), ds = [LI ns, .int k] ∧ k < 1000 ∧ ∀ x y : Int, 0 ≤ x → 0 ≤ y → y < 2 ^ 200 → R [.int x, .int y, .int 0]
def t__law_purse (K : PySem.W.Frag) : TS :=
  (tSeq (tAsg (tIf (tTest (tOp rLtI (tVar 1) (tCB (rLenA K) (tCons (tVar 0) tNil)))) (tOp (rIx K) (tVar 0) (tVar 1)) (tC (.int 0))) (gName 2))
    (tRet (tLst (tCons (tCB rMax2A (tCons (tC (.int 0)) (tCons (tOp rMinus (tVar 2) (tOp rPowI (tC (.int 10)) (tC (.int 18)))) tNil))) (tCons (tOp (rPlus K) (tOp (rPlus K) (tOp rModI (tCB rIntA (tCons (tCB rAbsA (tCons (tVar 2) tNil)) tNil)) (tOp (rPlus K) (tOp rPowI (tC (.int 10)) (tC (.int 41))) (tC (.int 37)))) (tOp rTimes (tC (.int 90001)) (tVar 1))) (tC (.int 17))) (tCons (tC (.int 0)) tNil))))))
theorem ds__law_purse : KeepsF W__law_purse 3 t__law_purse := by
  intro K ds R h
  obtain ⟨ns, k, rfl, hk, q⟩ := h
  refine ⟨by simp, ?_⟩
  show DSF K (t__law_purse K) [.sh (LI ns), .sh (.int k), .no] _
  unfold t__law_purse
  refine DSF_set ?_
  refine DE.mono (Q := fun d => ∃ c : Int, d = .int c) ?_ ?_
  · repeat walk_at "d"
    refine ite2 (fun hk2 => ?_) fun _ => ?_
    · have hk2 : (k : Int) < (ns.map PyData.int).length := of_decide_eq_true hk2
      have hk3 : k < ns.length := by simpa using hk2
      repeat walk_at "d"
      exact DR_ix (.inl ⟨_, _, _, rfl, rfl, atI_ok (by omega) (by omega), _, rfl⟩)
    · repeat walk_at "d"
      exact ⟨_, rfl⟩
  · rintro d ⟨c, rfl⟩
    refine DSF_ret (DL_lst ?_)
    repeat walk_at "d"
    refine ⟨⟨by decide, by decide, by decide⟩, ?_⟩
    repeat walk_at "d"
    refine ⟨_, _, rfl, ?_⟩
    repeat walk_at "d"
    refine .inl ⟨_, rfl, ?_⟩
    repeat walk_at "d"
    refine ⟨⟨by decide, by decide, by decide⟩, ?_⟩
    repeat walk_at "d"
    refine DR_plusI ⟨_, _, rfl, rfl, ?_⟩
    repeat walk_at "d"
    refine ⟨by decide, ?_⟩
    repeat walk_at "d"
    refine DR_timesI ⟨_, _, rfl, rfl, .inl ⟨by decide, by decide⟩, ?_⟩
    refine DR_plusI ⟨_, _, rfl, rfl, ?_⟩
    repeat walk_at "d"
    refine DR_plusI ⟨_, _, rfl, rfl, ?_⟩
    repeat walk_at "d"
    refine ⟨by simp, q _ _ (by omega) ?_ ?_⟩
    · have := Int.emod_nonneg (if c < 0 then -c else c) (show (10 : Int) ^ (41 : Int).toNat + 37 ≠ 0 by decide)
      omega
    · have := Int.emod_lt_of_pos (if c < 0 then -c else c) (show (0 : Int) < 10 ^ (41 : Int).toNat + 37 by decide)
      have e : (10 : Int) ^ (41 : Int).toNat + 37 + 90001 * 1000 + 17 < 2 ^ 200 := by decide
      omega
def W__law_power (ds : List PyData) (R : PyData → Prop) : Prop := ∃ (b : Int) (n : Nat), ds = [.int b, .int n] ∧ 0 ≤ b ∧ b ≤ 1000 ∧ R (.int (b ^ n))
def t__law_power (K : PySem.W.Frag) : TS :=
  (tSeq (tAsg (tC (.int 1)) (gName 2))
    (tSeq (tFor (iRg1 (tCons (tVar 1) tNil)) (gName 3)
    (tAsg (tOp rTimes (tVar 2) (tVar 0)) (gName 2)))
    (tRet (tVar 2))))
theorem ds__law_power : Keeps W__law_power 4 t__law_power := by
  intro K ds R h
  obtain ⟨b, n, rfl, b0, b1, q⟩ := h
  refine ⟨by simp, ?_⟩
  show DS K _ (t__law_power K) [.sh (.int b), .sh (.int n), .no, .no] _ _ _ _
  unfold t__law_power
  repeat walk_at "d"
  refine DS_forR1 ?_
  repeat walk_at "d"
  refine ⟨fun k ρ => ∃ z, ρ = [.sh (.int b), .sh (.int n), .sh (.int (b ^ k)), z], ⟨.no, by simp⟩, ?_, ?_⟩
  · rintro k ρ hk ⟨z, rfl⟩
    repeat walk_at "d"
    refine DR_timesI ⟨_, _, rfl, rfl, .inr ⟨by omega, by omega⟩, ?_⟩
    exact ⟨_, by rw [Int.pow_succ]; rfl⟩
  · rintro ρ ⟨z, rfl⟩
    repeat walk_at "d"
    simpa using q

end Cf
namespace Cg
open PySem PySem.Spec PyProof.Rows L2 Cf
open Evl (Ex)
local macro_rules | `(tactic| walk_at "d") => `(tactic| first
  | (with_reducible refine DS_seq ?_)
  | (with_reducible refine DS_if ?_)
  | (with_reducible refine DS_ret ?_)
  | (with_reducible refine DS_next ?_)
  | (with_reducible refine DS_retN ?_)
  | (with_reducible refine DS_set ?_)
  | (with_reducible refine DS_drop ?_)
  | (with_reducible refine DS_unpack ?_)
  | (with_reducible refine DS_par ?_)
  | (with_reducible refine DE_int ?_)
  | (with_reducible refine DE_bl ?_)
  | (with_reducible refine DE_non ?_)
  | (with_reducible refine DE_str ?_)
  | (with_reducible refine DE_isi ?_)
  | (with_reducible refine DE_and ?_)
  | (with_reducible refine DE_or ?_)
  | (with_reducible refine DE_not ?_)
  | (with_reducible refine DE_if ?_)
  | (with_reducible refine DE_chain ?_)
  | (with_reducible refine DE_call ?_)
  | ((with_reducible refine' DE_lenOw ?k1 ?_); (case k1 => exact rfl))
  | ((with_reducible refine' DE_reprOw ?k1 ?_); (case k1 => exact rfl))
  | ((with_reducible refine' DE_ixOw ?k1 ?_); (case k1 => exact rfl))
  | ((with_reducible refine' DE_lenOw ?k1 ?_); (case k1 => exact rfl))
  | (with_reducible refine DE_cb ?_)
  | (with_reducible refine DE_new (DL_rep (DL_lst ?_)))
  | (with_reducible refine DE_op ?_)
  | (with_reducible refine DE_un ?_)
  | (with_reducible refine DE_tup ?_)
  | (with_reducible refine DT_test ?_)
  | (with_reducible refine DT_B ?_)
  | (with_reducible refine DT_and ?_)
  | (with_reducible refine DT_or ?_)
  | (with_reducible refine DT_not ?_)
  | (with_reducible refine DT_yes ?_)
  | (with_reducible refine DA_nil ?_)
  | (with_reducible refine DA_cons ?_)
  | (with_reducible refine DO_no ?_)
  | (with_reducible refine DO_at ?_)
  | (with_reducible refine DR_minus ?_)
  | (with_reducible refine DR_mod ?_)
  | (with_reducible refine DR_div ?_)
  | (with_reducible refine DR_pow ?_)
  | (with_reducible refine DR_lt ?_)
  | (with_reducible refine DR_le ?_)
  | (with_reducible refine DR_gt ?_)
  | (with_reducible refine DR_ge ?_)
  | (with_reducible refine DR_eq ?_)
  | (with_reducible refine DR_ne ?_)
  | (with_reducible refine DR_isN ?_)
  | (with_reducible refine DR_notN ?_)
  | (with_reducible refine DU_neg ?_)
  | (with_reducible refine DC_len ?_)
  | (with_reducible refine DC_int ?_)
  | (with_reducible refine DC_abs ?_)
  | (with_reducible refine DC_max2 ?_)
  | (with_reducible refine DC_min2 ?_)
  | (with_reducible refine DC_sum ?_)
  | (with_reducible refine DC_all ?_)
  | (with_reducible refine DC_any ?_)
  | (with_reducible refine DC_repr ?_)
  | (with_reducible refine ⟨_, kb_int _, ?_⟩)
  | (with_reducible refine ⟨_, kb_bool _, ?_⟩)
  | (with_reducible refine ⟨_, kb_list _, ?_⟩)
  | (with_reducible refine ⟨_, kb_tuple _, ?_⟩)
  | (with_reducible refine ⟨_, rfl, ?_⟩)
  | (with_reducible refine ⟨_, _, rfl, rfl, ?_⟩)
  | (with_reducible refine DR_notB ?_)
  | (with_reducible refine DE_emp ?_)
  | (with_reducible refine DE_new (DL_lst ?_))
  | (with_reducible refine DE_new (DL_callF ?_))
  | (with_reducible refine DE_new (DL_sl ?_))
  | (with_reducible refine DC_list ?_)
  | ((with_reducible refine' DE_callC ?hb ?hw ?k1 ?_); (case hb => exact rfl); (case hw => decide +kernel); (case k1 => exact rfl))
  | ((with_reducible refine' DE_var ?k1 ?_); (case k1 => exact rfl)))


abbrev w__law_coin : Nat := 1
/-- a number below the bound -/
def W__law_coin (ds : List PyData) (R : PyData → Prop) : Prop := ∃ b : Int, ds = [.int b] ∧ 0 < b ∧ b < 2 ^ 8000 ∧ ∀ r : Int, 0 ≤ r → r < b → R (.int r)
def t__law_coin (K : PySem.W.Frag) : TS :=
  (tSeq (tIfS (tTest (tOp rGtI (tOp (rIx K) (tVar 0) (tC (.int 0))) (tC (.int 0))))
    (tSeq (tAsg (tOp rModI (tCB rIntA (tCons (tOp (rIx K) (tVar 0) (tC (.int 0))) tNil)) (tVar 1)) (gName 2))
    (tSeq (tAsg (tOp rDivI (tOp (rIx K) (tVar 0) (tC (.int 0))) (tVar 1)) (gSub (tVar 0) (tC (.int 0)) rSetL))
    (tRet (tVar 2))))
    tNext)
    (tSeq (tAsg (tOp (rPlus K) (tOp (rIx K) (tVar 0) (tC (.int 2))) (tC (.int 1))) (gSub (tVar 0) (tC (.int 2)) rSetL))
    (tSeq (tAsg (tOp rModI (tCB rIntA (tCons (tOp rPowW (tOp (rPlus K) (tOp (rIx K) (tVar 0) (tC (.int 1))) (tOp rTimes (tC (.int 15485863)) (tOp (rIx K) (tVar 0) (tC (.int 2))))) (tC (.int 3))) tNil)) (tOp (rPlus K) (tOp rPowW (tC (.int 10)) (tC (.int 43))) (tC (.int 29)))) (gName 3))
    (tSeq (tAsg (tOp rModI (tCB rIntA (tCons (tOp rPowW (tOp (rPlus K) (tVar 3) (tOp rTimes (tC (.int 49979687)) (tOp (rIx K) (tVar 0) (tC (.int 2))))) (tC (.int 3))) tNil)) (tOp (rPlus K) (tOp rPowW (tC (.int 10)) (tC (.int 45))) (tC (.int 9)))) (gName 3))
    (tRet (tOp rModI (tCB rIntA (tCons (tOp rDivI (tVar 3) (tC (.int 524287))) tNil)) (tVar 1)))))))
theorem to_write {α : Al} {H : Hp} {x y z x' z' : Int} {β : Nat} (h : H α.a = some (.lst [.int x, .int y, .int z])) (x0 : 0 ≤ x') (z0 : 0 ≤ z') (l : z' ≤ z + β) : To α β H (upd H α.a (.lst [.int x', .int y, .int z'])) := fun u ⟨xs, h1, h2⟩ => by
  rw [h] at h1
  cases h1
  refine ⟨_, upd_same, ?_⟩
  generalize hb : α.b = b at h2
  cases h2 with
  | three _ _ _ a1 a2 a3 a4 a5 => exact .three _ _ _ x0 a2 a3 z0 (by omega)
theorem gr_write {a : Addr} {F H : Hp} {xs : List V} (e : Ex F H) (n : F a = none) : Gr (some a) F H F (upd H a (.lst xs)) := by
  refine ⟨Ex.refl F, fun b o nb q => ?_, fun b o q => ?_, fun b o q w => by rw [w] at q; cases q⟩
  · rw [upd_ne (fun z => nb (by rw [z]))]
    exact q
  · rw [upd_ne (fun z => by rw [z, n] at q; cases q)]
    exact e b o q
theorem run_coin {K : PySem.W.Frag} {vs : List V} {H : Hp} {Q : VK} {E : XK} (h : spC K true w__law_coin W__law_coin vs H Q E) : t__law_coin K { nx := fun _ H' => Q .non H', rt := Q } (L2.start ["purse", "many", "found", "mixed"] vs) H := by
  obtain ⟨a, ws, F, ds, R, rfl, e, ⟨n, xs, hH, ht⟩, zz, ⟨b, rfl, b0, b1, q⟩, k⟩ := h
  obtain ⟨v, rfl, zv⟩ := dqs1 zz
  cases zv
  cases ht with
  | three x y w x0 y0 y1 w0 w1 =>
    have g : ∀ (i : Int) (u : V), atI [V.int x, .int y, .int w] i = some u → ∀ (Q : VK), Q u H → rIx K (.ref a) (.int i) H Q := fun i u hu Q q => .inl ⟨a, _, i, u, rfl, rfl, .inl (.inl hH), hu, q⟩
    unfold t__law_coin
    refine ⟨_, rfl, g 0 _ rfl _ ⟨x, 0, rfl, rfl, _, rfl, ite2 (fun hx => ?_) fun hx => ?_⟩⟩
    · refine ⟨_, rfl, g 0 _ rfl _ (.inl ⟨x, rfl, _, rfl, x, b, rfl, rfl, b0, ?_⟩)⟩
      refine ⟨_, rfl, g 0 _ rfl _ ⟨_, rfl, x, b, rfl, rfl, wide_any b0 b1, ?_⟩⟩
      refine ⟨_, rfl, a, _, 0, 0, rfl, rfl, hH, rfl, ?_⟩
      refine ⟨_, rfl, k _ _ F _ (q (x % b) (Int.emod_nonneg _ (by omega)) (Int.emod_lt_of_pos _ b0)) (gr_write e n) n (to_write (α := ⟨a, true⟩) hH (div_nn x0 b0) w0 (by omega)) (.int _)⟩
    · refine ⟨_, rfl, g 2 _ rfl _ (.inl ⟨w, 1, rfl, rfl, ?_⟩)⟩
      refine ⟨_, rfl, a, _, 2, 2, rfl, rfl, hH, rfl, ?_⟩
      have hH2 : (upd H a (.lst ([V.int x, .int y, .int w].set 2 (.int (w + 1))))) a = some (.lst [.int x, .int y, .int (w + 1)]) := upd_same
      have g' : ∀ (i : Int) (u : V), atI [V.int x, .int y, .int (w + 1)] i = some u → ∀ (Q : VK), Q u (upd H a (.lst ([V.int x, .int y, .int w].set 2 (.int (w + 1))))) → rIx K (.ref a) (.int i) (upd H a (.lst ([V.int x, .int y, .int w].set 2 (.int (w + 1))))) Q := fun i u hu Q q => .inl ⟨a, _, i, u, rfl, rfl, .inl (.inl hH2), hu, q⟩
      have lm : w + 1 ≤ 2 ^ 4000 := w1
      have c1 : CPowW (y + 15485863 * (w + 1)) 3 := ⟨by decide, by decide, by
        have h1 : y + 15485863 * (w + 1) < 2 ^ 9000 := Int.lt_of_lt_of_le (show y + 15485863 * (w + 1) < 2 ^ 200 + 15485863 * 2 ^ 4000 + 1 by omega) (by decide)
        have h2 : ((y + 15485863 * (w + 1)).natAbs : Int) < 2 ^ 9000 := by omega
        have e2 : ((2 ^ 9000 : Nat) : Int) = (2 : Int) ^ 9000 := by rw [Int.natCast_pow]; rfl
        rw [← e2] at h2
        exact Int.ofNat_lt.mp h2⟩
      refine ⟨_, rfl, g' 1 _ rfl _ ⟨_, rfl, g' 2 _ rfl _ (.inl ⟨_, _, rfl, rfl, .inl ⟨by decide, by decide⟩, .inl ⟨_, _, rfl, rfl, ⟨_, _, rfl, rfl, c1, .inl ⟨_, rfl, ?_⟩⟩⟩⟩)⟩⟩
      refine ⟨10, 43, rfl, rfl, ⟨by decide, by decide, by decide +kernel⟩, .inl ⟨_, _, rfl, rfl, _, _, rfl, rfl, (by show (0 : Int) < 10 ^ (43 : Int).toNat + 29; decide), ?_⟩⟩
      dsimp only
      generalize hm : (y + 15485863 * (w + 1)) ^ (3 : Int).toNat % (10 ^ (43 : Int).toNat + 29) = m
      have m0 : 0 ≤ m := by rw [← hm]; exact Int.emod_nonneg _ (by decide)
      have m1 : m < 10 ^ (43 : Int).toNat + 29 := by rw [← hm]; exact Int.emod_lt_of_pos _ (by decide)
      have c2 : CPowW (m + 49979687 * (w + 1)) 3 := ⟨by decide, by decide, by
        have h1 : m + 49979687 * (w + 1) < 2 ^ 9000 := Int.lt_of_lt_of_le (show m + 49979687 * (w + 1) < 10 ^ (43 : Int).toNat + 29 + 49979687 * 2 ^ 4000 + 1 by omega) (by decide)
        have h2 : ((m + 49979687 * (w + 1)).natAbs : Int) < 2 ^ 9000 := by omega
        have e2 : ((2 ^ 9000 : Nat) : Int) = (2 : Int) ^ 9000 := by rw [Int.natCast_pow]; rfl
        rw [← e2] at h2
        exact Int.ofNat_lt.mp h2⟩
      refine ⟨_, rfl, ⟨_, rfl, g' 2 _ rfl _ (.inl ⟨_, _, rfl, rfl, .inl ⟨by decide, by decide⟩, .inl ⟨_, _, rfl, rfl, ⟨_, _, rfl, rfl, c2, .inl ⟨_, rfl, ?_⟩⟩⟩⟩)⟩⟩
      refine ⟨10, 45, rfl, rfl, ⟨by decide, by decide, by decide +kernel⟩, .inl ⟨_, _, rfl, rfl, _, _, rfl, rfl, (by show (0 : Int) < 10 ^ (45 : Int).toNat + 9; decide), ?_⟩⟩
      dsimp only
      refine ⟨_, rfl, ⟨_, _, rfl, rfl, wide_div (b := 30) (by decide) (by decide) (by decide) (by decide), .inl ⟨_, rfl, _, rfl, _, b, rfl, rfl, b0, ?_⟩⟩⟩
      exact k _ _ F _ (q _ (Int.emod_nonneg _ (by omega)) (Int.emod_lt_of_pos _ b0)) (gr_write e n) n (to_write (α := ⟨a, true⟩) hH x0 (by omega) (by show w + 1 ≤ w + (1 : Nat); omega)) (.int _)

end Cg
/-! rings turned, rings twice -/
namespace Cf
/-- the value of the word at a place -/
def val (s : Int) (l : Nat) (vs r : List Int) (z : Int) : Int := vs.getD (num s (win r z l)).toNat 0
end Cf
/-! runs: rings told by many equal cells, one behind the other -/
namespace Cf
open PySem
abbrev Run := Int × Int
/-- the ring -/
def roll (rs : List Run) : List Int := rs.flatMap fun p => List.replicate p.2.toNat p.1
def cutS (L : Int) (rs : List Run) : List Run := rs.map fun p => (p.1, min p.2 L)
structure Ru (s : Int) (rs : List Run) : Prop where
  ne : rs ≠ []
  ok : ∀ p ∈ rs, 0 ≤ p.1 ∧ p.1 < s ∧ 1 ≤ p.2
theorem Ru.cut {s L : Int} {rs : List Run} (h : Ru s rs) (hL : 1 ≤ L) : Ru s (cutS L rs) where
  ne := by
    intro e
    exact h.ne (List.map_eq_nil_iff.mp e)
  ok := fun p hp => by
    obtain ⟨q, hq, rfl⟩ := List.mem_map.mp hp
    obtain ⟨a, b, c⟩ := h.ok q hq
    exact ⟨a, b, by show 1 ≤ min q.2 L; omega⟩
/-! ### one more cell in a long run -/
section
variable {A B : List Int} {x : Int} {k l : Nat}
/-- the value of a word of one sign -/
def alone (s : Int) (l : Nat) (vs : List Int) (x : Int) : Int := vs.getD (num s (List.replicate l x)).toNat 0
end
/-- what the cells that are left out come to -/
def excess (s : Int) (l : Nat) (vs : List Int) (L : Int) (rs : List Run) : Int := (rs.map fun p => (p.2 - min p.2 L) * alone s l vs p.1).sum
/-- how often each cell counts -/
def cnts (L : Int) (rs : List Run) : List Int := rs.flatMap fun p => (p.2 - min p.2 L + 1) :: List.replicate ((min p.2 L).toNat - 1) 1
/-- the sum of values times counts, from a cell on -/
def wsum (f : Nat → Int) (a : Nat) : List Int → Int
  | [] => 0
  | c :: cs => f a * c + wsum f (a + 1) cs
/-! ### normal runs -/
def mstep (acc : List Run) (p : Run) : List Run := match acc.getLast? with
  | none => [p]
  | some q => if q.1 = p.1 then acc.set (acc.length - 1) (p.1, q.2 + p.2) else acc ++ [p]
def mrg (rs : List Run) : List Run := rs.foldl mstep []
end Cf
namespace Cf
open PySem PySem.Spec PyProof.Rows L2
open Evl (Ex)
local macro_rules | `(tactic| walk_at "d") => `(tactic| first
  | (with_reducible refine DS_seq ?_)
  | (with_reducible refine DS_if ?_)
  | (with_reducible refine DS_ret ?_)
  | (with_reducible refine DS_next ?_)
  | (with_reducible refine DS_retN ?_)
  | (with_reducible refine DS_set ?_)
  | (with_reducible refine DS_drop ?_)
  | (with_reducible refine DS_unpack ?_)
  | (with_reducible refine DS_par ?_)
  | (with_reducible refine DE_int ?_)
  | (with_reducible refine DE_bl ?_)
  | (with_reducible refine DE_non ?_)
  | (with_reducible refine DE_str ?_)
  | (with_reducible refine DE_isi ?_)
  | (with_reducible refine DE_and ?_)
  | (with_reducible refine DE_or ?_)
  | (with_reducible refine DE_not ?_)
  | (with_reducible refine DE_if ?_)
  | (with_reducible refine DE_chain ?_)
  | (with_reducible refine DE_tyIs ?_)
  | (with_reducible refine DE_tyNot ?_)
  | (with_reducible refine DE_call ?_)
  | ((with_reducible refine' DE_lenOw ?k1 ?_); (case k1 => exact rfl))
  | ((with_reducible refine' DE_reprOw ?k1 ?_); (case k1 => exact rfl))
  | ((with_reducible refine' DE_ixOw ?k1 ?_); (case k1 => exact rfl))
  | ((with_reducible refine' DE_lenOw ?k1 ?_); (case k1 => exact rfl))
  | (with_reducible refine DE_cb ?_)
  | (with_reducible refine DE_new (DL_rep (DL_lst ?_)))
  | (with_reducible refine DE_op ?_)
  | (with_reducible refine DE_un ?_)
  | (with_reducible refine DE_tup ?_)
  | (with_reducible refine DT_test ?_)
  | (with_reducible refine DT_B ?_)
  | (with_reducible refine DT_and ?_)
  | (with_reducible refine DT_or ?_)
  | (with_reducible refine DT_not ?_)
  | (with_reducible refine DT_yes ?_)
  | (with_reducible refine DA_nil ?_)
  | (with_reducible refine DA_cons ?_)
  | (with_reducible refine DO_no ?_)
  | (with_reducible refine DO_at ?_)
  | (with_reducible refine DR_minus ?_)
  | (with_reducible refine DR_mod ?_)
  | (with_reducible refine DR_div ?_)
  | (with_reducible refine DR_pow ?_)
  | (with_reducible refine DR_lt ?_)
  | (with_reducible refine DR_le ?_)
  | (with_reducible refine DR_gt ?_)
  | (with_reducible refine DR_ge ?_)
  | (with_reducible refine DR_eq ?_)
  | (with_reducible refine DR_ne ?_)
  | (with_reducible refine DR_isN ?_)
  | (with_reducible refine DR_notN ?_)
  | (with_reducible refine DU_neg ?_)
  | (with_reducible refine DC_len ?_)
  | (with_reducible refine DC_int ?_)
  | (with_reducible refine DC_abs ?_)
  | (with_reducible refine DC_max2 ?_)
  | (with_reducible refine DC_min2 ?_)
  | (with_reducible refine DC_sum ?_)
  | (with_reducible refine DC_all ?_)
  | (with_reducible refine DC_any ?_)
  | (with_reducible refine DC_repr ?_)
  | (with_reducible refine ⟨_, kb_int _, ?_⟩)
  | (with_reducible refine ⟨_, kb_bool _, ?_⟩)
  | (with_reducible refine ⟨_, kb_list _, ?_⟩)
  | (with_reducible refine ⟨_, kb_tuple _, ?_⟩)
  | (with_reducible refine ⟨_, rfl, ?_⟩)
  | (with_reducible refine ⟨_, _, rfl, rfl, ?_⟩)
  | (with_reducible refine DE_callN ?_)
  | (with_reducible refine DE_callX ?_)
  | (with_reducible refine DR_notB ?_)
  | (with_reducible refine DE_emp ?_)
  | (with_reducible refine DE_new (DL_lst ?_))
  | (with_reducible refine DE_new (DL_callF ?_))
  | (with_reducible refine DE_new (DL_sl ?_))
  | (with_reducible refine DE_slT ?_)
  | (with_reducible refine DC_list ?_)
  | ((with_reducible refine' DE_callT ?k1 ?_); (case k1 => exact rfl))
  | ((with_reducible refine' DE_var ?k1 ?_); (case k1 => exact rfl))
  | ((with_reducible refine' DE_varO ?k1 ?_); (case k1 => exact rfl))
  | ((with_reducible refine' DE_varN ?k1 ?_); (case k1 => exact rfl)))


def isRun (s : Int) : PyData → Bool
  | .tuple [.int a, .int b] => decide (0 ≤ a ∧ a < s ∧ 1 ≤ b)
  | _ => false
def W_is_run (ds : List PyData) (R : PyData → Prop) : Prop := ∃ (s : Int) (x : PyData), ds = [.int s, x] ∧ R (.bool (isRun s x))
def t_is_run (K : PySem.W.Frag) : TS :=
  (tSeq (tIfS (tOr (tTest (tOp rNT (tCB (rTyp K) (tCons (tVar 1) tNil)) (tC (.ty "tuple")))) (tTest (tOp (rNeU K) (tCB (rLenA K) (tCons (tVar 1) tNil)) (tC (.int 2)))))
    (tRet (tC (.bl false)))
    tNext)
    (tSeq (tAsg (tVar 1) (gTup K 2 (gNames [2, 3])))
    (tRet (tAndV (tCall (spP K W_is_integer) [] E0 (tCons (tVar 2) tNil)) (tAndV (tChain rLeI rLtI (tC (.int 0)) (tVar 2) (tVar 0)) (tAndV (tCall (spP K W_is_integer) [] E0 (tCons (tVar 3) tNil)) (tOp rGeI (tVar 3) (tC (.int 1)))))))))
def isRuns (s : Int) : PyData → Bool
  | .list ds => decide (1 ≤ ds.length) && ds.all (isRun s)
  | _ => false
def W_is_runs (ds : List PyData) (R : PyData → Prop) : Prop := ∃ (s : Int) (x : PyData), ds = [.int s, x] ∧ 2 ≤ s ∧ s ≤ 4 ∧ shortD x = true ∧ R (.bool (isRuns s x))
def t_is_runs (K : PySem.W.Frag) : TS :=
  (tSeq (tDrop (tCall (spP K W_check_signs) [] E0 (tCons (tVar 0) tNil)))
    (tRet (tAndV (tOp rIsTyB (tCB (rTyp K) (tCons (tVar 1) tNil)) (tC (.ty "list"))) (tAndV (tOp rGeI (tCB (rLenA K) (tCons (tVar 1) tNil)) (tC (.int 1))) (tCB (rAll K) (tCons (tLc (iList K (tVar 1)) (gName 2) tYes (tCall (spP K W_is_run) [] E0 (tCons (tVar 0) (tCons (tVar 2) tNil))) [2]) tNil))))))
abbrev runD (p : Run) : PyData := .tuple [.int p.1, .int p.2]
abbrev RD (rs : List Run) : PyData := .list (rs.map runD)
def W_check_runs (ds : List PyData) (R : PyData → Prop) : Prop := ∃ (s : Int) (rs : List Run), ds = [.int s, RD rs] ∧ 2 ≤ s ∧ s ≤ 4 ∧ Ru s rs ∧ rs.length < 100000 ∧ R .none
def t_check_runs (K : PySem.W.Frag) : TS :=
  (tIfS (tNot (tB (tCall (spP K W_is_runs) [] E0 (tCons (tVar 0) (tCons (tVar 1) tNil)))))
    tNever
    tNext)
/-! ### normal runs -/
def W_merged (ds : List PyData) (R : List PyData → Prop) : Prop := ∃ (rs : List Run), ds = [RD rs] ∧ rs.length < 100000 ∧ R ((mrg rs).map runD)
def t_merged (K : PySem.W.Frag) : TS :=
  (tSeq (tAsg (tLst tNil) (gName 1))
    (tSeq (tFor (iList K (tVar 0)) (gTup K 2 (gNames [2, 3]))
    (tIfS (tAnd (tTru K (tVar 1)) (tTest (tOp (rEqU K) (tOp (rIx K) (tOp (rIx K) (tVar 1) (tUn rNegI (tC (.int 1)))) (tC (.int 0))) (tVar 2))))
    (tAsg (tTup (tCons (tVar 2) (tCons (tOp (rPlus K) (tOp (rIx K) (tOp (rIx K) (tVar 1) (tUn rNegI (tC (.int 1)))) (tC (.int 1))) (tVar 3)) tNil))) (gSub (tVar 1) (tUn rNegI (tC (.int 1))) rSetL))
    (tDrop (tBM K "list" rAppend (tVar 1) (tCons (tTup (tCons (tVar 2) (tCons (tVar 3) tNil))) tNil)))))
    (tRet (tVar 1))))
def W_cells_in (ds : List PyData) (R : PyData → Prop) : Prop := ∃ (rs : List Run), ds = [RD rs] ∧ rs.length < 100000 ∧ R (.int (rs.map (·.2)).sum)
def t_cells_in (K : PySem.W.Frag) : TS :=
  (tRet (tCB (rSum K) (tCons (tLc (iList K (tVar 0)) (gTup K 2 (gNames [1, 2])) tYes (tVar 2) [1, 2]) tNil)))
def W_shortened (ds : List PyData) (R : PyData → Prop) : Prop := ∃ (rs : List Run) (L : Nat), ds = [RD rs, .int L] ∧ 1 ≤ L ∧ L ≤ 512 ∧ rs.length * L ≤ 90000 ∧ (∀ p ∈ rs, 1 ≤ p.2) ∧ R (.tuple [LI (roll (cutS L rs)), LI (cnts L rs)])
def t_shortened (K : PySem.W.Frag) : TS :=
  (tSeq (tAsg (tLst tNil) (gName 2))
    (tSeq (tAsg (tLst tNil) (gName 3))
    (tSeq (tFor (iList K (tVar 0)) (gTup K 2 (gNames [4, 5]))
    (tSeq (tAsg (tCB rMin2A (tCons (tVar 5) (tCons (tVar 1) tNil))) (gName 6))
    (tSeq (tDrop (tBM K "list" rExtend (tVar 2) (tCons (tOp rTimes (tLst (tCons (tVar 4) tNil)) (tVar 6)) tNil)))
    (tSeq (tDrop (tBM K "list" rAppend (tVar 3) (tCons (tOp (rPlus K) (tOp rMinus (tVar 5) (tVar 6)) (tC (.int 1))) tNil)))
    (tDrop (tBM K "list" rExtend (tVar 3) (tCons (tOp rTimes (tLst (tCons (tC (.int 1)) tNil)) (tOp rMinus (tVar 6) (tC (.int 1)))) tNil)))))))
    (tRet (tTup (tCons (tVar 2) (tCons (tVar 3) tNil)))))))
theorem rep_one (n : Nat) (x : PyData) : (List.replicate n [x]).flatten = List.replicate n x := by
  induction n with
  | zero => rfl
  | succ n ih => rw [List.replicate_succ, List.flatten_cons, ih, List.replicate_succ]; rfl
def W_normal_runs (ds : List PyData) (R : List PyData → Prop) : Prop := ∃ (s : Int) (rs : List Run), ds = [.int s, RD rs] ∧ 2 ≤ s ∧ s ≤ 4 ∧ Ru s rs ∧ rs.length < 100000 ∧ R ((mrg rs).map runD)
def t_normal_runs (K : PySem.W.Frag) : TS :=
  (tSeq (tDrop (tCall (spP K W_check_runs) [] E0 (tCons (tVar 0) (tCons (tVar 1) tNil))))
    (tRet (tCall (spF K W_merged) [] E0 (tCons (tVar 1) tNil))))
def W_unrolled (ds : List PyData) (R : PyData → Prop) : Prop := ∃ (s : Int) (rs : List Run), ds = [.int s, RD rs] ∧ 2 ≤ s ∧ s ≤ 4 ∧ Ru s rs ∧ rs.length ≤ 150 ∧ (rs.map (·.2)).sum ≤ 512 ∧ R (LI (roll rs))
def t_unrolled (K : PySem.W.Frag) : TS :=
  (tSeq (tDrop (tCall (spP K W_check_runs) [] E0 (tCons (tVar 0) (tCons (tVar 1) tNil))))
    (tSeq (tIfS (tTest (tOp rGtI (tCall (spP K W_cells_in) [] E0 (tCons (tVar 1) tNil)) (tC (.int 512))))
    tNever
    tNext)
    (tRet (tOp (rIx K) (tCall (spP K W_shortened) [] E0 (tCons (tVar 1) (tCons (tC (.int 512)) tNil))) (tC (.int 0))))))
def W_runs_sum (ds : List PyData) (R : PyData → Prop) : Prop := ∃ (s : Int) (l : Nat) (vs : List Int) (rs : List Run), ds = [wtD s l vs, RD rs] ∧ Wt s l vs ∧ Ru s rs ∧ rs.length ≤ 400 ∧ (∀ v ∈ vs, v.natAbs < 2 ^ 1000) ∧ (∀ p ∈ rs, p.2 < 2 ^ 1000) ∧ R (.int (ringSum s l vs (roll rs)))
def t_runs_sum (K : PySem.W.Frag) : TS :=
  (tSeq (tDrop (tCall (spP K W_check_weight) [] E0 (tCons (tVar 0) tNil)))
    (tSeq (tAsg (tVar 0) (gTup K 3 (gNames [2, 3, 4])))
    (tSeq (tDrop (tCall (spP K W_check_runs) [] E0 (tCons (tVar 2) (tCons (tVar 1) tNil))))
    (tSeq (tAsg (tCall (spP K W_shortened) [] E0 (tCons (tVar 1) (tCons (tVar 3) tNil))) (gTup K 2 (gNames [5, 6])))
    (tSeq (tAsg (tCall (spP K W_numbers_round) [] E0 (tCons (tVar 2) (tCons (tVar 3) (tCons (tVar 5) (tCons (tC (.int 0)) tNil))))) (gName 7))
    (tRet (tCB (rSum K) (tCons (tLc (iZip K (tCons (tVar 7) (tCons (tVar 6) tNil))) (gTup K 2 (gNames [8, 9])) tYes (tOp rTimes (tOp (rIx K) (tVar 4) (tVar 8)) (tVar 9)) [8, 9]) tNil))))))))
end Cf
namespace Cf
open PySem PySem.Spec PyProof.Rows L2
open Evl (Ex)
local macro_rules | `(tactic| walk_at "d") => `(tactic| first
  | (with_reducible refine DS_seq ?_)
  | (with_reducible refine DS_if ?_)
  | (with_reducible refine DS_ret ?_)
  | (with_reducible refine DS_next ?_)
  | (with_reducible refine DS_retN ?_)
  | (with_reducible refine DS_set ?_)
  | (with_reducible refine DS_drop ?_)
  | (with_reducible refine DS_unpack ?_)
  | (with_reducible refine DS_par ?_)
  | (with_reducible refine DE_int ?_)
  | (with_reducible refine DE_bl ?_)
  | (with_reducible refine DE_non ?_)
  | (with_reducible refine DE_str ?_)
  | (with_reducible refine DE_isi ?_)
  | (with_reducible refine DE_and ?_)
  | (with_reducible refine DE_or ?_)
  | (with_reducible refine DE_not ?_)
  | (with_reducible refine DE_if ?_)
  | (with_reducible refine DE_chain ?_)
  | (with_reducible refine DE_tyIs ?_)
  | (with_reducible refine DE_tyNot ?_)
  | (with_reducible refine DE_call ?_)
  | ((with_reducible refine' DE_lenOw ?k1 ?_); (case k1 => exact rfl))
  | ((with_reducible refine' DE_reprOw ?k1 ?_); (case k1 => exact rfl))
  | ((with_reducible refine' DE_ixOw ?k1 ?_); (case k1 => exact rfl))
  | ((with_reducible refine' DE_lenOw ?k1 ?_); (case k1 => exact rfl))
  | (with_reducible refine DE_cb ?_)
  | (with_reducible refine DE_new (DL_rep (DL_lst ?_)))
  | (with_reducible refine DE_op ?_)
  | (with_reducible refine DE_un ?_)
  | (with_reducible refine DE_tup ?_)
  | (with_reducible refine DT_test ?_)
  | (with_reducible refine DT_B ?_)
  | (with_reducible refine DT_and ?_)
  | (with_reducible refine DT_or ?_)
  | (with_reducible refine DT_not ?_)
  | (with_reducible refine DT_yes ?_)
  | (with_reducible refine DA_nil ?_)
  | (with_reducible refine DA_cons ?_)
  | (with_reducible refine DO_no ?_)
  | (with_reducible refine DO_at ?_)
  | (with_reducible refine DR_minus ?_)
  | (with_reducible refine DR_mod ?_)
  | (with_reducible refine DR_div ?_)
  | (with_reducible refine DR_pow ?_)
  | (with_reducible refine DR_lt ?_)
  | (with_reducible refine DR_le ?_)
  | (with_reducible refine DR_gt ?_)
  | (with_reducible refine DR_ge ?_)
  | (with_reducible refine DR_eq ?_)
  | (with_reducible refine DR_ne ?_)
  | (with_reducible refine DR_isN ?_)
  | (with_reducible refine DR_notN ?_)
  | (with_reducible refine DU_neg ?_)
  | (with_reducible refine DC_len ?_)
  | (with_reducible refine DC_int ?_)
  | (with_reducible refine DC_abs ?_)
  | (with_reducible refine DC_max2 ?_)
  | (with_reducible refine DC_min2 ?_)
  | (with_reducible refine DC_sum ?_)
  | (with_reducible refine DC_all ?_)
  | (with_reducible refine DC_any ?_)
  | (with_reducible refine DC_repr ?_)
  | (with_reducible refine ⟨_, kb_int _, ?_⟩)
  | (with_reducible refine ⟨_, kb_bool _, ?_⟩)
  | (with_reducible refine ⟨_, kb_list _, ?_⟩)
  | (with_reducible refine ⟨_, kb_tuple _, ?_⟩)
  | (with_reducible refine ⟨_, rfl, ?_⟩)
  | (with_reducible refine ⟨_, _, rfl, rfl, ?_⟩)
  | (with_reducible refine DE_callN ?_)
  | (with_reducible refine DE_callX ?_)
  | (with_reducible refine DR_notB ?_)
  | (with_reducible refine DE_emp ?_)
  | (with_reducible refine DE_new (DL_lst ?_))
  | (with_reducible refine DE_new (DL_callF ?_))
  | (with_reducible refine DE_new (DL_sl ?_))
  | (with_reducible refine DE_slT ?_)
  | (with_reducible refine DC_list ?_)
  | ((with_reducible refine' DE_callT ?k1 ?_); (case k1 => exact rfl))
  | ((with_reducible refine' DE_var ?k1 ?_); (case k1 => exact rfl))
  | ((with_reducible refine' DE_varO ?k1 ?_); (case k1 => exact rfl))
  | ((with_reducible refine' DE_varN ?k1 ?_); (case k1 => exact rfl)))


def W__law_total (ds : List PyData) (R : PyData → Prop) : Prop := ∃ (s : Int) (l : Nat) (vs r : List Int), ds = [wtD s l vs, LI r] ∧ Wt s l vs ∧ Signs s r ∧ R (.int (ringSum s l vs r))
def t__law_total (K : PySem.W.Frag) : TS :=
  (tSeq (tAsg (tVar 0) (gTup K 3 (gNames [2, 3, 4])))
    (tSeq (tPar 5 6 (tCons (tC (.int 0)) (tCons (tCB (rLenA K) (tCons (tVar 1) tNil)) tNil)))
    (tSeq (tFor (iRg1 (tCons (tVar 6) tNil)) (gName 7)
    (tSeq (tAsg (tC (.int 0)) (gName 8))
    (tSeq (tFor (iRg1 (tCons (tVar 3) tNil)) (gName 9)
    (tAsg (tOp (rPlus K) (tOp rTimes (tVar 8) (tVar 2)) (tOp (rIx K) (tVar 1) (tOp rModI (tCB rIntA (tCons (tOp (rPlus K) (tVar 7) (tVar 9)) tNil)) (tVar 6)))) (gName 8)))
    (tAsg (tOp (rPlus K) (tVar 5) (tOp (rIx K) (tVar 4) (tVar 8))) (gName 5)))))
    (tRet (tVar 5)))))
def W__law_alone (ds : List PyData) (R : PyData → Prop) : Prop := ∃ (s : Int) (l : Nat) (vs : List Int) (x : Int), ds = [wtD s l vs, .int x] ∧ Wt s l vs ∧ 0 ≤ x ∧ x < s ∧ R (.int (alone s l vs x))
def t__law_alone (K : PySem.W.Frag) : TS :=
  (tSeq (tAsg (tVar 0) (gTup K 3 (gNames [2, 3, 4])))
    (tSeq (tAsg (tC (.int 0)) (gName 5))
    (tSeq (tFor (iRg1 (tCons (tVar 3) tNil)) (gName 6)
    (tAsg (tOp (rPlus K) (tOp rTimes (tVar 5) (tVar 2)) (tVar 1)) (gName 5)))
    (tRet (tOp (rIx K) (tVar 4) (tVar 5))))))
def W__law_rolled (ds : List PyData) (R : PyData → Prop) : Prop := ∃ (rs : List Run), ds = [RD rs] ∧ (roll rs).length ≤ 50000 ∧ (∀ p ∈ rs, 1 ≤ p.2) ∧ R (LI (roll rs))
def t__law_rolled (K : PySem.W.Frag) : TS :=
  (tSeq (tAsg (tLst tNil) (gName 1))
    (tSeq (tFor (iList K (tVar 0)) (gTup K 2 (gNames [2, 3]))
    (tAsg (tOp (rPlus K) (tVar 1) (tOp rTimes (tLst (tCons (tVar 2) tNil)) (tVar 3))) (gName 1)))
    (tRet (tVar 1))))
def W__law_by_cuts (ds : List PyData) (R : PyData → Prop) : Prop := ∃ (s : Int) (l : Nat) (vs : List Int) (rs : List Run), ds = [wtD s l vs, RD rs] ∧ Wt s l vs ∧ Ru s rs ∧ rs.length ≤ 400 ∧ (∀ v ∈ vs, v.natAbs < 2 ^ 1000) ∧ (∀ p ∈ rs, p.2 < 2 ^ 1000) ∧ R (.int (ringSum s l vs (roll rs)))
def t__law_by_cuts (K : PySem.W.Frag) : TS :=
  (tSeq (tPar 2 3 (tCons (tC (.int 0)) (tCons (tLst tNil) tNil)))
    (tSeq (tAsg (tOp (rPlus K) (tOp (rIx K) (tVar 0) (tC (.int 1))) (tC (.int 2))) (gName 4))
    (tSeq (tFor (iList K (tVar 1)) (gTup K 2 (gNames [5, 6]))
    (tSeq (tDrop (tBM K "list" rAppend (tVar 3) (tCons (tTup (tCons (tVar 5) (tCons (tCB rMin2A (tCons (tVar 6) (tCons (tVar 4) tNil))) tNil))) tNil)))
    (tAsg (tOp (rPlus K) (tVar 2) (tOp rTimes (tOp rMinus (tVar 6) (tOp (rIx K) (tOp (rIx K) (tVar 3) (tUn rNegI (tC (.int 1)))) (tC (.int 1)))) (tCall (spP K W__law_alone) [] E0 (tCons (tVar 0) (tCons (tVar 5) tNil))))) (gName 2))))
    (tRet (tOp (rPlus K) (tVar 2) (tCall (spP K W__law_total) [] E0 (tCons (tVar 0) (tCons (tCall (spP K W__law_rolled) [] E0 (tCons (tVar 3) tNil)) tNil))))))))
end Cf
namespace Cg
open PySem PySem.Spec PyProof.Rows L2 Cf
open Evl (Ex)
local macro_rules | `(tactic| walk_at "d") => `(tactic| first
  | (with_reducible refine DS_seq ?_)
  | (with_reducible refine DS_if ?_)
  | (with_reducible refine DS_ret ?_)
  | (with_reducible refine DS_next ?_)
  | (with_reducible refine DS_retN ?_)
  | (with_reducible refine DS_set ?_)
  | (with_reducible refine DS_drop ?_)
  | (with_reducible refine DS_unpack ?_)
  | (with_reducible refine DS_par ?_)
  | (with_reducible refine DE_int ?_)
  | (with_reducible refine DE_bl ?_)
  | (with_reducible refine DE_non ?_)
  | (with_reducible refine DE_str ?_)
  | (with_reducible refine DE_isi ?_)
  | (with_reducible refine DE_and ?_)
  | (with_reducible refine DE_or ?_)
  | (with_reducible refine DE_not ?_)
  | (with_reducible refine DE_if ?_)
  | (with_reducible refine DE_chain ?_)
  | (with_reducible refine DE_call ?_)
  | ((with_reducible refine' DE_lenOw ?k1 ?_); (case k1 => exact rfl))
  | ((with_reducible refine' DE_reprOw ?k1 ?_); (case k1 => exact rfl))
  | ((with_reducible refine' DE_ixOw ?k1 ?_); (case k1 => exact rfl))
  | ((with_reducible refine' DE_lenOw ?k1 ?_); (case k1 => exact rfl))
  | (with_reducible refine DE_cb ?_)
  | (with_reducible refine DE_new (DL_rep (DL_lst ?_)))
  | (with_reducible refine DE_op ?_)
  | (with_reducible refine DE_un ?_)
  | (with_reducible refine DE_tup ?_)
  | (with_reducible refine DT_test ?_)
  | (with_reducible refine DT_B ?_)
  | (with_reducible refine DT_and ?_)
  | (with_reducible refine DT_or ?_)
  | (with_reducible refine DT_not ?_)
  | (with_reducible refine DT_yes ?_)
  | (with_reducible refine DA_nil ?_)
  | (with_reducible refine DA_cons ?_)
  | (with_reducible refine DO_no ?_)
  | (with_reducible refine DO_at ?_)
  | (with_reducible refine DR_minus ?_)
  | (with_reducible refine DR_mod ?_)
  | (with_reducible refine DR_div ?_)
  | (with_reducible refine DR_pow ?_)
  | (with_reducible refine DR_lt ?_)
  | (with_reducible refine DR_le ?_)
  | (with_reducible refine DR_gt ?_)
  | (with_reducible refine DR_ge ?_)
  | (with_reducible refine DR_eq ?_)
  | (with_reducible refine DR_ne ?_)
  | (with_reducible refine DR_isN ?_)
  | (with_reducible refine DR_notN ?_)
  | (with_reducible refine DU_neg ?_)
  | (with_reducible refine DC_len ?_)
  | (with_reducible refine DC_int ?_)
  | (with_reducible refine DC_abs ?_)
  | (with_reducible refine DC_max2 ?_)
  | (with_reducible refine DC_min2 ?_)
  | (with_reducible refine DC_sum ?_)
  | (with_reducible refine DC_all ?_)
  | (with_reducible refine DC_any ?_)
  | (with_reducible refine DC_repr ?_)
  | (with_reducible refine ⟨_, kb_int _, ?_⟩)
  | (with_reducible refine ⟨_, kb_bool _, ?_⟩)
  | (with_reducible refine ⟨_, kb_list _, ?_⟩)
  | (with_reducible refine ⟨_, kb_tuple _, ?_⟩)
  | (with_reducible refine ⟨_, rfl, ?_⟩)
  | (with_reducible refine ⟨_, _, rfl, rfl, ?_⟩)
  | (with_reducible refine DR_notB ?_)
  | (with_reducible refine DE_emp ?_)
  | (with_reducible refine DE_new (DL_lst ?_))
  | (with_reducible refine DE_new (DL_callF ?_))
  | (with_reducible refine DE_new (DL_sl ?_))
  | (with_reducible refine DC_list ?_)
  | ((with_reducible refine' DE_callC ?hb ?hw ?k1 ?_); (case hb => exact rfl); (case hw => decide +kernel); (case k1 => exact rfl))
  | ((with_reducible refine' DE_var ?k1 ?_); (case k1 => exact rfl)))


theorem shw_ints {ns : List Int} (h : ∀ v ∈ ns, v.natAbs < 10 ^ 45) : Shw (ns.length * 66 + 3) 1 (LI ns) := by
  have := shw_list (n := 64) (k := 0) (ds := ns.map .int) fun d hd => by
    obtain ⟨v, hv, rfl⟩ := List.mem_map.mp hd
    exact shw_int (h v hv)
  rw [List.length_map] at this
  exact this
abbrev billion : Int := 1000000000
abbrev thirty : Int := 1000000000000000000000000000000
abbrev w__law_runs : Nat := 2 ^ 100
def W__law_runs (ds : List PyData) (R : PyData → Prop) : Prop := ∃ (s c t : Int), ds = [.int s, .int c, .int t] ∧ 2 ≤ s ∧ s ≤ 4 ∧ 1 ≤ c ∧ c ≤ 40 ∧ 1 ≤ t ∧ t ≤ thirty ∧ ∀ (rs : List Cf.Run), Ru s rs → (rs.length : Int) ≤ c → (∀ p ∈ rs, p.2 ≤ thirty) → (∀ p ∈ rs, p.2 ≤ max 9 t) → R (RD rs)
def t__law_runs (K : PySem.W.Frag) : TS :=
  (tSeq (tAsg (tLst tNil) (gName 4))
    (tSeq (tFor (iRg1 (tCons (tOp (rPlus K) (tC (.int 1)) (tCall (spC K true w__law_coin W__law_coin) [] E0 (tCons (tVar 0) (tCons (tVar 2) tNil)))) tNil)) (gName 5)
    (tSeq (tAsg (tOp (rIx K) (tLst (tCons (tC (.int 1)) (tCons (tC (.int 2)) (tCons (tOp (rPlus K) (tC (.int 1)) (tCall (spC K true w__law_coin W__law_coin) [] E0 (tCons (tVar 0) (tCons (tC (.int 9)) tNil)))) (tCons (tOp (rPlus K) (tC (.int 1)) (tCall (spC K true w__law_coin W__law_coin) [] E0 (tCons (tVar 0) (tCons (tVar 3) tNil)))) tNil))))) (tCall (spC K true w__law_coin W__law_coin) [] E0 (tCons (tVar 0) (tCons (tC (.int 4)) tNil)))) (gName 6))
    (tDrop (tBM K "list" rAppend (tVar 4) (tCons (tTup (tCons (tCall (spC K true w__law_coin W__law_coin) [] E0 (tCons (tVar 0) (tCons (tVar 1) tNil))) (tCons (tVar 6) tNil))) tNil)))))
    (tRet (tVar 4))))
end Cg
/-! words by numbers, rules, rings behind a tick -/
namespace Cf
def lowf (s : Int) : Nat → Int → List Int
  | 0, _ => []
  | l + 1, n => n % s :: lowf s l (n / s)
/-- the word with a number -/
def wordOf (s : Int) (l : Nat) (n : Int) : List Int := (lowf s l n).reverse
theorem lowf_length (s : Int) : ∀ (l : Nat) (n : Int), (lowf s l n).length = l
  | 0, _ => rfl
  | l + 1, n => by
    show (lowf s l (n / s)).length + 1 = l + 1
    rw [lowf_length]
theorem wordOf_length (s : Int) (l : Nat) (n : Int) : (wordOf s l n).length = l := by
  unfold wordOf
  rw [List.length_reverse, lowf_length]
theorem lowf_signs {s : Int} (h : 0 < s) : ∀ (l : Nat) (n : Int), Signs s (lowf s l n)
  | 0, _ => fun d hd => nomatch hd
  | l + 1, n => fun d hd => by
    rcases List.mem_cons.mp hd with rfl | hd
    · exact ⟨Int.emod_nonneg _ (by omega), Int.emod_lt_of_pos _ h⟩
    · exact lowf_signs h l _ d hd
theorem wordOf_signs {s : Int} (h : 0 < s) (l : Nat) (n : Int) : Signs s (wordOf s l n) := fun d hd => lowf_signs h l n d (List.mem_reverse.mp hd)
theorem lowf_num {s : Int} (h : 0 < s) : ∀ w : List Int, Signs s w → lowf s w.length (num s w.reverse) = w
  | [], _ => rfl
  | d :: w, hw => by
    obtain ⟨h1, h2⟩ := hw d List.mem_cons_self
    have e : num s (d :: w).reverse = num s w.reverse * s + d := by rw [List.reverse_cons, num_snoc]
    rw [e]
    have e1 : (num s w.reverse * s + d) % s = d := by rw [Int.add_comm, Int.add_mul_emod_self_right, Int.emod_eq_of_lt h1 h2]
    have e2 : (num s w.reverse * s + d) / s = num s w.reverse := by rw [Int.add_comm, Int.add_mul_ediv_right _ _ (by omega), Int.ediv_eq_zero_of_lt h1 h2, Int.zero_add]
    show (num s w.reverse * s + d) % s :: lowf s w.length ((num s w.reverse * s + d) / s) = _
    rw [e1, e2, lowf_num h w fun x hx => hw x (List.mem_cons_of_mem _ hx)]
theorem wordOf_num {s : Int} (h : 0 < s) (w : List Int) (hw : Signs s w) : wordOf s w.length (num s w) = w := by
  have := lowf_num h w.reverse fun d hd => hw d (List.mem_reverse.mp hd)
  rw [List.reverse_reverse, List.length_reverse] at this
  unfold wordOf
  rw [this, List.reverse_reverse]
/-- a rule -/
structure Rl (s f : Int) (w : Nat) (T : List Int) : Prop where
  s2 : 2 ≤ s
  s4 : s ≤ 4
  w1 : 1 ≤ w
  le : s ^ w ≤ 1024
  ln : s ^ w = (T.length : Int)
  ok : Signs s T
  f0 : -100 ≤ f
  f1 : f + w ≤ 101
theorem Rl.wt {s f : Int} {w : Nat} {T : List Int} (h : Rl s f w T) : Wt s w T := ⟨h.s2, h.s4, h.w1, h.le, h.ln⟩
/-- an item of a table -/
def itm (T : List Int) (n : Int) : Int := T.getD n.toNat 0
theorem itm_sign {s : Int} (h : 0 < s) {T : List Int} (hT : Signs s T) (n : Int) : 0 ≤ itm T n ∧ itm T n < s := by
  unfold itm
  rw [List.getD_eq_getElem?_getD]
  cases e : T[n.toNat]? with
  | none => exact ⟨Int.le_refl 0, h⟩
  | some v => exact hT v (List.mem_of_getElem? e)
/-- the signs that a rule makes of a word -/
def mids (s : Int) (w : Nat) (T : List Int) (k : Nat) (W : List Int) : List Int := (List.range k).map fun j => itm T (num s ((W.drop j).take w))
/-- the number of what a tick makes of the word with a number -/
def made (s : Int) (w : Nat) (T : List Int) : Nat → Int → Int
  | 0, n => itm T n
  | k + 1, n => made s w T k (n / s) * s + itm T (n % s ^ w)
/-- the composed table -/
def compT (s : Int) (w1 : Nat) (T1 : List Int) (w2 : Nat) (T2 : List Int) : List Int :=
  (List.range (s ^ (w1 + w2 - 1)).toNat).map fun (n : Nat) => itm T2 (num s (mids s w1 T1 w2 (wordOf s (w1 + w2 - 1) n)))
/-- the ring behind a tick -/
def tick (s f : Int) (w : Nat) (T r : List Int) : List Int := (List.range r.length).map fun (c : Nat) => itm T (num s (win r ((c : Int) + f) w))
theorem tick_length (s f : Int) (w : Nat) (T r : List Int) : (tick s f w T r).length = r.length := by simp [tick]
theorem tick_signs {s f : Int} (h : 0 < s) {w : Nat} {T r : List Int} (hT : Signs s T) : Signs s (tick s f w T r) := fun d hd => by
  obtain ⟨c, _, rfl⟩ := List.mem_map.mp hd
  exact itm_sign h hT _
/-- the mirrored table -/
def mirT (s : Int) (w : Nat) (T : List Int) : List Int := (List.range T.length).map fun (n : Nat) => itm T (num s (wordOf s w n).reverse)
end Cf
/-! runs behind ticks: what each cell becomes is told by a word from it on -/
namespace Cf
open PySem
/-- each cell becomes what phi tells of the word of W cells from it on -/
def loc (φ : List Int → Int) (W : Nat) (r : List Int) : List Int := (List.range r.length).map fun (c : Nat) => φ (win r c W)
/-! one more cell in a long run -/
section
variable {φ : List Int → Int} {A B : List Int} {x : Int} {k l : Nat}
end
/-- each item as often as told -/
def expand (xs cs : List Int) : List Int := roll (xs.zip cs)
/-! ### normal runs are told by the ring alone -/
/-! ### turned -/
/-- the runs ahead of a place, and those behind it -/
def aheadS : List Run → Int → List Run
  | [], _ => []
  | p :: rs, z => (if 0 < min p.2 z then [(p.1, min p.2 z)] else []) ++ aheadS rs (z - min p.2 z)
def behindS : List Run → Int → List Run
  | [], _ => []
  | p :: rs, z => (if min p.2 z < p.2 then [(p.1, p.2 - min p.2 z)] else []) ++ behindS rs (z - min p.2 z)
end Cf
/-! some ticks -/
namespace Cf
open PySem
def phiN (φ : List Int → Int) (w : Nat) : Nat → List Int → Int
  | 0, u => u.getD 0 0
  | n + 1, u => φ ((List.range w).map fun j => phiN φ w n ((u.drop j).take (n * (w - 1) + 1)))
def locN (φ : List Int → Int) (w : Nat) : Nat → List Int → List Int
  | 0, r => r
  | n + 1, r => loc φ w (locN φ w n r)
/-- a rule's ticks, one behind the other -/
def tickI (s f : Int) (w : Nat) (T : List Int) : Nat → List Int → List Int
  | 0, r => r
  | n + 1, r => tick s f w T (tickI s f w T n r)
abbrev phi (s : Int) (T : List Int) : List Int → Int := fun u => itm T (num s u)
theorem tickI_length (s f : Int) (w : Nat) (T r : List Int) : ∀ n, (tickI s f w T n r).length = r.length
  | 0 => rfl
  | n + 1 => by rw [tickI, tick_length, tickI_length s f w T r n]
/-- a tick on runs -/
def tickR (φ : List Int → Int) (w : Nat) (rs : List Run) : List Run := mrg ((loc φ w (roll (cutS w rs))).zip (cnts w rs))
def tickRn (φ : List Int → Int) (w : Nat) : Nat → List Run → List Run
  | 0, rs => mrg rs
  | n + 1, rs => tickR φ w (tickRn φ w n rs)
structure Okr (s : Int) (rs : List Run) : Prop where
  ne : rs ≠ []
  ps : ∀ p ∈ rs, 1 ≤ p.2
  sg : ∀ p ∈ rs, 0 ≤ p.1 ∧ p.1 < s
/-- the ring from a place on -/
def rot (z : Int) (r : List Int) : List Int := r.drop (z % r.length).toNat ++ r.take (z % r.length).toNat
/-- runs behind ticks -/
def runsTick (s f : Int) (w : Nat) (T : List Int) (rs : List Run) (n : Nat) : List Run :=
  mrg (behindS (tickRn (phi s T) w n rs) (((n : Int) * f) % (rs.map (·.2)).sum) ++ aheadS (tickRn (phi s T) w n rs) (((n : Int) * f) % (rs.map (·.2)).sum))
end Cf
namespace Cf
open PySem PySem.Spec PyProof.Rows L2
open Evl (Ex)
local macro_rules | `(tactic| walk_at "d") => `(tactic| first
  | (with_reducible refine DS_seq ?_)
  | (with_reducible refine DS_if ?_)
  | (with_reducible refine DS_ret ?_)
  | (with_reducible refine DS_next ?_)
  | (with_reducible refine DS_retN ?_)
  | (with_reducible refine DS_set ?_)
  | (with_reducible refine DS_drop ?_)
  | (with_reducible refine DS_unpack ?_)
  | (with_reducible refine DS_par ?_)
  | (with_reducible refine DE_int ?_)
  | (with_reducible refine DE_bl ?_)
  | (with_reducible refine DE_non ?_)
  | (with_reducible refine DE_str ?_)
  | (with_reducible refine DE_isi ?_)
  | (with_reducible refine DE_and ?_)
  | (with_reducible refine DE_or ?_)
  | (with_reducible refine DE_not ?_)
  | (with_reducible refine DE_if ?_)
  | (with_reducible refine DE_chain ?_)
  | (with_reducible refine DE_tyIs ?_)
  | (with_reducible refine DE_tyNot ?_)
  | (with_reducible refine DE_call ?_)
  | (with_reducible refine DE_cb ?_)
  | (with_reducible refine DE_op ?_)
  | (with_reducible refine DE_un ?_)
  | (with_reducible refine DE_tup ?_)
  | (with_reducible refine DT_test ?_)
  | (with_reducible refine DT_B ?_)
  | (with_reducible refine DT_and ?_)
  | (with_reducible refine DT_or ?_)
  | (with_reducible refine DT_not ?_)
  | (with_reducible refine DT_yes ?_)
  | (with_reducible refine DA_nil ?_)
  | (with_reducible refine DA_cons ?_)
  | (with_reducible refine DO_no ?_)
  | (with_reducible refine DO_at ?_)
  | (with_reducible refine DR_minus ?_)
  | (with_reducible refine DR_mod ?_)
  | (with_reducible refine DR_div ?_)
  | (with_reducible refine DR_pow ?_)
  | (with_reducible refine DR_lt ?_)
  | (with_reducible refine DR_le ?_)
  | (with_reducible refine DR_gt ?_)
  | (with_reducible refine DR_ge ?_)
  | (with_reducible refine DR_eq ?_)
  | (with_reducible refine DR_ne ?_)
  | (with_reducible refine DR_isN ?_)
  | (with_reducible refine DR_notN ?_)
  | (with_reducible refine DU_neg ?_)
  | (with_reducible refine DC_len ?_)
  | (with_reducible refine DC_int ?_)
  | (with_reducible refine DC_abs ?_)
  | (with_reducible refine DC_max2 ?_)
  | (with_reducible refine DC_min2 ?_)
  | (with_reducible refine DC_sum ?_)
  | (with_reducible refine DC_all ?_)
  | (with_reducible refine DC_any ?_)
  | (with_reducible refine DC_repr ?_)
  | (with_reducible refine ⟨_, kb_int _, ?_⟩)
  | (with_reducible refine ⟨_, kb_bool _, ?_⟩)
  | (with_reducible refine ⟨_, kb_list _, ?_⟩)
  | (with_reducible refine ⟨_, kb_tuple _, ?_⟩)
  | (with_reducible refine ⟨_, rfl, ?_⟩)
  | (with_reducible refine ⟨_, _, rfl, rfl, ?_⟩)
  | ((with_reducible refine' DE_var ?k1 ?_); (case k1 => exact rfl)))


def W__law_ring (ds : List PyData) (R : PyData → Prop) : Prop := ∃ s c : Int, ds = [.int s, .int c] ∧ 2 ≤ s ∧ s ≤ 4 ∧ 1 ≤ c ∧ c ≤ 512 ∧ ∀ r : List Int, r ≠ [] → (r.length : Int) ≤ c → Signs s r → R (LI r)
def t__law_ring (K : PySem.W.Frag) : TS :=
  (tSeq (tAsg (tTup (tCons (tOp (rPlus K) (tC (.int 1)) (tCall (spT K W__law_draw) [] E0 (tCons (tVar 0) (tCons (tVar 2) tNil)))) (tCons (tCall (spT K W__law_draw) [] E0 (tCons (tVar 0) (tCons (tC (.int 4)) tNil))) tNil))) (gTup K 2 (gNames [3, 4])))
    (tSeq (tIfS (tTest (tOp (rEqU K) (tVar 4) (tC (.int 3))))
    (tSeq (tAsg (tLc (iRg1 (tCons (tOp (rPlus K) (tC (.int 1)) (tCall (spT K W__law_draw) [] E0 (tCons (tVar 0) (tCons (tC (.int 4)) tNil)))) tNil)) (gName 6) tYes (tCall (spT K W__law_draw) [] E0 (tCons (tVar 0) (tCons (tVar 1) tNil))) [6]) (gName 5))
    (tRet (tLc (iRg1 (tCons (tVar 3) tNil)) (gName 7) tYes (tOp (rIx K) (tVar 5) (tOp rModI (tCB rIntA (tCons (tVar 7) tNil)) (tCB (rLenA K) (tCons (tVar 5) tNil)))) [7])))
    tNext)
    (tRet (tLc (iRg1 (tCons (tVar 3) tNil)) (gName 7) tYes (tIf (tOr (tTest (tOp rGtI (tVar 4) (tC (.int 0)))) (tTest (tOp (rEqU K) (tCall (spT K W__law_draw) [] E0 (tCons (tVar 0) (tCons (tC (.int 4)) tNil))) (tC (.int 0))))) (tCall (spT K W__law_draw) [] E0 (tCons (tVar 0) (tCons (tVar 1) tNil))) (tC (.int 0))) [7]))))
theorem ds__law_ring : KeepsT W__law_ring 8 t__law_ring := by
  intro K a ds R h
  obtain ⟨s, c, rfl, s2, s4, c1, c5, q⟩ := h
  refine ⟨by simp, ?_⟩
  show DS K _ (t__law_ring K) [.tp, .sh (.int s), .sh (.int c), .no, .no, .no, .no, .no] _ _ _ _
  unfold t__law_ring
  repeat walk_at "d"
  refine DE_callT (by rfl) ?_
  repeat walk_at "d"
  refine ⟨c, rfl, by omega, big_lt (by omega), fun m m0 m1 => DR_plusI ⟨_, _, rfl, rfl, ?_⟩⟩
  repeat walk_at "d"
  refine DE_callT (by rfl) ?_
  repeat walk_at "d"
  refine ⟨4, rfl, by decide, big_lt (by decide), fun k k0 k1 => ?_⟩
  repeat walk_at "d"
  refine ⟨by simp, _, rfl, rfl, rfl, ?_⟩
  repeat walk_at "d"
  refine ⟨rfl, rfl, _, rfl, ?_⟩
  obtain ⟨n, en⟩ : ∃ n : Nat, 1 + m = (n : Int) := ⟨(1 + m).toNat, by omega⟩
  rw [en]
  refine ite2 (fun h => ?_) fun h => ?_
  · repeat walk_at "d"
    refine DE_new (DL_intsR1 (P := fun m => 0 ≤ m ∧ m < s) ?_)
    repeat walk_at "d"
    refine DE_callT (by rfl) ?_
    repeat walk_at "d"
    refine ⟨4, rfl, by decide, big_lt (by decide), fun j j0 j1 => DR_plusI ⟨_, _, rfl, rfl, ?_⟩⟩
    repeat walk_at "d"
    refine ⟨(1 + j).toNat, by congr 2; omega, by omega, fun x hx => ?_, fun ns hl hp => ?_⟩
    · refine DE_callT (by rfl) ?_
      repeat walk_at "d"
      exact ⟨s, rfl, by omega, big_lt (by omega), fun y y0 y1 => ⟨y, rfl, y0, y1⟩⟩
    · have rn : ns ≠ [] := fun z => by
        rw [z] at hl
        simp at hl
        omega
      have rp : 0 < ns.length := List.length_pos_iff.mpr rn
      repeat walk_at "d"
      refine DE_new (DL_mapR1 (f := fun k => .int (at_ ns k)) ?_)
      repeat walk_at "d"
      refine ⟨by omega, fun x hx => ?_, ?_⟩
      · repeat walk_at "d"
        refine .inl ⟨_, rfl, ?_⟩
        repeat walk_at "d"
        rw [List.length_map]
        exact ⟨by omega, DR_ix (.inl ⟨_, _, _, rfl, rfl, atI_LI rn _, rfl⟩)⟩
      · have e : (List.range n).map (fun (k : Nat) => PyData.int (at_ ns k)) = ((List.range n).map fun (k : Nat) => at_ ns k).map .int := by rw [List.map_map]; rfl
        rw [e]
        refine q _ (fun z => ?_) (by rw [List.length_map, List.length_range]; omega) fun d hd => ?_
        · have := congrArg List.length z
          rw [List.length_map, List.length_range] at this
          simp at this
          omega
        · obtain ⟨k, _, rfl⟩ := List.mem_map.mp hd
          exact hp _ (at_mem rn _)
  · repeat walk_at "d"
    refine DE_new (DL_intsR1 (P := fun m => 0 ≤ m ∧ m < s) ?_)
    repeat walk_at "d"
    refine ⟨by omega, fun x hx => ?_, fun ns hl hp => q ns (fun z => ?_) (by omega) hp⟩
    · have draw : ∀ (ρ : Rho), ρ[0]? = some .tp → ρ[1]? = some (.sh (.int s)) → DE K (some a) (tCall (spT K W__law_draw) [] E0 (tCons (tVar 0) (tCons (tVar 1) tNil))) ρ fun y => ∃ m, y = .int m ∧ 0 ≤ m ∧ m < s := fun ρ h0 h1 =>
        DE_callT h0 (DA_cons (DE_var h1 (DA_nil ⟨s, rfl, by omega, big_lt (by omega), fun y y0 y1 => ⟨y, rfl, y0, y1⟩⟩)))
      repeat walk_at "d"
      refine ite2 (fun h => ?_) fun h => ?_
      · exact iteT (draw _ (by rfl) (by rfl))
      · repeat walk_at "d"
        refine DE_callT (by rfl) ?_
        repeat walk_at "d"
        refine ⟨4, rfl, by decide, big_lt (by decide), fun j j0 j1 => ?_⟩
        repeat walk_at "d"
        refine ⟨rfl, rfl, _, rfl, ite2 (fun h => ?_) fun h => ?_⟩
        · exact draw _ (by rfl) (by rfl)
        · repeat walk_at "d"
          exact ⟨by omega, by omega⟩
    · rw [z] at hl
      simp at hl
      omega

def top_ : Int := 10 ^ 39
def W__law_weight (ds : List PyData) (R : PyData → Prop) : Prop := ∃ s w top : Int, ds = [.int s, .int w, .int top] ∧ 2 ≤ s ∧ s ≤ 4 ∧ s ≤ w ∧ w ≤ 1024 ∧ 0 ≤ top ∧ top ≤ top_ ∧ ∀ (l : Nat) (vs : List Int), Wt s l vs → s ^ l ≤ w → (∀ v ∈ vs, -top ≤ v ∧ v ≤ top) → R (wtD s l vs)
def t__law_weight (K : PySem.W.Frag) : TS :=
  (tSeq (tPar 4 5 (tCons (tOp (rPlus K) (tC (.int 1)) (tCall (spT K W__law_draw) [] E0 (tCons (tVar 0) (tCons (tCall (spP K W__law_widest) [] E0 (tCons (tVar 1) (tCons (tVar 2) tNil))) tNil)))) (tCons (tCall (spT K W__law_draw) [] E0 (tCons (tVar 0) (tCons (tC (.int 3)) tNil))) tNil)))
    (tSeq (tAsg (tLc (iRg1 (tCons (tCall (spP K W__law_many) [] E0 (tCons (tVar 1) (tCons (tVar 4) tNil))) tNil)) (gName 7) tYes (tOp rMinus (tCall (spT K W__law_draw) [] E0 (tCons (tVar 0) (tCons (tOp (rPlus K) (tOp rTimes (tC (.int 2)) (tVar 3)) (tC (.int 1))) tNil))) (tVar 3)) [7]) (gName 6))
    (tSeq (tIfS (tTest (tOp (rEqU K) (tVar 5) (tC (.int 0))))
    (tAsg (tLc (iList K (tVar 6)) (gName 8) tYes (tIf (tTest (tOp (rEqU K) (tCall (spT K W__law_draw) [] E0 (tCons (tVar 0) (tCons (tC (.int 3)) tNil))) (tC (.int 0)))) (tVar 8) (tC (.int 0))) [8]) (gName 6))
    tNext)
    (tRet (tTup (tCons (tVar 1) (tCons (tVar 4) (tCons (tVar 6) tNil))))))))
def W__law_sum (ds : List PyData) (R : PyData → Prop) : Prop := ∃ (s : Int) (l : Nat) (vs r : List Int), ds = [wtD s l vs, LI r] ∧ Wt s l vs ∧ r ≠ [] ∧ r.length ≤ 5000 ∧ Signs s r ∧ R (.int (ringSum s l vs r))
def t__law_sum (K : PySem.W.Frag) : TS :=
  (tSeq (tAsg (tVar 0) (gTup K 3 (gNames [2, 3, 4])))
    (tRet (tCB (rSum K) (tCons (tLc (iRg1 (tCons (tCB (rLenA K) (tCons (tVar 1) tNil)) tNil)) (gName 5) tYes (tOp (rIx K) (tVar 4) (tCall (spP K W__law_number) [] E0 (tCons (tVar 2) (tCons (tVar 1) (tCons (tVar 5) (tCons (tVar 3) tNil)))))) [5]) tNil))))
def W__law_same (ds : List PyData) (R : PyData → Prop) : Prop := ∃ (a b : PyData) (vs : List PyData), ds = [.tuple [a, b, .list vs]] ∧ R (.tuple [a, b, .list vs])
def t__law_same (K : PySem.W.Frag) : TS :=
  (tRet (tTup (tCons (tOp (rIx K) (tVar 0) (tC (.int 0))) (tCons (tOp (rIx K) (tVar 0) (tC (.int 1))) (tCons (tCB (rListA K) (tCons (tOp (rIx K) (tVar 0) (tC (.int 2))) tNil)) tNil)))))
def W__law_is_whole (ds : List PyData) (R : PyData → Prop) : Prop := ∃ x, ds = [x] ∧ R (.bool (isInt x))
def t__law_is_whole (K : PySem.W.Frag) : TS :=
  (tRet (tAndV (tCB (rIsi K) (tCons (tVar 0) (tCons (tC (.ty "int")) tNil))) (tNotV (tCB (rIsi K) (tCons (tVar 0) (tCons (tC (.ty "bool")) tNil))))))
end Cf
namespace Cf
open PySem PySem.Spec PyProof.Rows L2
open Evl (Ex)
local macro_rules | `(tactic| walk_at "d") => `(tactic| first
  | (with_reducible refine DS_seq ?_)
  | (with_reducible refine DS_if ?_)
  | (with_reducible refine DS_ret ?_)
  | (with_reducible refine DS_next ?_)
  | (with_reducible refine DS_retN ?_)
  | (with_reducible refine DS_set ?_)
  | (with_reducible refine DS_drop ?_)
  | (with_reducible refine DS_unpack ?_)
  | (with_reducible refine DS_par ?_)
  | (with_reducible refine DE_int ?_)
  | (with_reducible refine DE_bl ?_)
  | (with_reducible refine DE_non ?_)
  | (with_reducible refine DE_str ?_)
  | (with_reducible refine DE_isi ?_)
  | (with_reducible refine DE_and ?_)
  | (with_reducible refine DE_or ?_)
  | (with_reducible refine DE_not ?_)
  | (with_reducible refine DE_if ?_)
  | (with_reducible refine DE_chain ?_)
  | (with_reducible refine DE_tyIs ?_)
  | (with_reducible refine DE_tyNot ?_)
  | (with_reducible refine DE_call ?_)
  | (with_reducible refine DE_cb ?_)
  | (with_reducible refine DE_op ?_)
  | (with_reducible refine DE_un ?_)
  | (with_reducible refine DE_tup ?_)
  | (with_reducible refine DT_test ?_)
  | (with_reducible refine DT_B ?_)
  | (with_reducible refine DT_and ?_)
  | (with_reducible refine DT_or ?_)
  | (with_reducible refine DT_not ?_)
  | (with_reducible refine DT_yes ?_)
  | (with_reducible refine DA_nil ?_)
  | (with_reducible refine DA_cons ?_)
  | (with_reducible refine DO_no ?_)
  | (with_reducible refine DO_at ?_)
  | (with_reducible refine DR_minus ?_)
  | (with_reducible refine DR_mod ?_)
  | (with_reducible refine DR_div ?_)
  | (with_reducible refine DR_pow ?_)
  | (with_reducible refine DR_lt ?_)
  | (with_reducible refine DR_le ?_)
  | (with_reducible refine DR_gt ?_)
  | (with_reducible refine DR_ge ?_)
  | (with_reducible refine DR_eq ?_)
  | (with_reducible refine DR_ne ?_)
  | (with_reducible refine DR_isN ?_)
  | (with_reducible refine DR_notN ?_)
  | (with_reducible refine DU_neg ?_)
  | (with_reducible refine DC_len ?_)
  | (with_reducible refine DC_int ?_)
  | (with_reducible refine DC_abs ?_)
  | (with_reducible refine DC_max2 ?_)
  | (with_reducible refine DC_min2 ?_)
  | (with_reducible refine DC_sum ?_)
  | (with_reducible refine DC_all ?_)
  | (with_reducible refine DC_any ?_)
  | (with_reducible refine DC_repr ?_)
  | (with_reducible refine ⟨_, kb_int _, ?_⟩)
  | (with_reducible refine ⟨_, kb_bool _, ?_⟩)
  | (with_reducible refine ⟨_, kb_list _, ?_⟩)
  | (with_reducible refine ⟨_, kb_tuple _, ?_⟩)
  | (with_reducible refine ⟨_, rfl, ?_⟩)
  | (with_reducible refine ⟨_, _, rfl, rfl, ?_⟩)
  | ((with_reducible refine' DE_var ?k1 ?_); (case k1 => exact rfl)))


theorem cw_big {s l : Int} (h : 2 ≤ s) (hl : 10 < l) : cw s l 1024 = none := by
  unfold cw
  rw [if_neg]
  intro z
  have h1 : s ^ 11 ≤ s ^ l.toNat := pow_mono (by omega) (by omega)
  have h2 : ∀ n : Nat, (2 : Int) ^ n ≤ s ^ n := fun n => by
    induction n with
    | zero => simp
    | succ n ih =>
      rw [Int.pow_succ, Int.pow_succ]
      have a : (2 : Int) ^ n * 2 ≤ s ^ n * 2 := Int.mul_le_mul_of_nonneg_right ih (by decide)
      have b : s ^ n * 2 ≤ s ^ n * s := Int.mul_le_mul_of_nonneg_left h (Int.le_of_lt (pow_pos' (by omega) n))
      omega
  have h3 := h2 11
  have e : (2 : Int) ^ 11 = 2048 := by decide
  omega
def W__law_is_weight (ds : List PyData) (R : PyData → Prop) : Prop := ∃ x, ds = [x] ∧ shortW x = true ∧ R (.bool (isWeight x))
def t__law_is_weight (K : PySem.W.Frag) : TS :=
  (tSeq (tIfS (tOr (tNot (tB (tCB (rIsi K) (tCons (tVar 0) (tCons (tC (.ty "tuple")) tNil))))) (tOr (tTest (tOp (rNeU K) (tCB (rLenA K) (tCons (tVar 0) tNil)) (tC (.int 3)))) (tTest (tOp (rNeU K) (tLc (iTup K (tSl (rSlT K) (tVar 0) tNoPart (tPart (tC (.int 2))))) (gName 1) (tNot (tB (tCall (spP K W__law_is_whole) [] E0 (tCons (tVar 1) tNil)))) (tVar 1) [1]) (tLst tNil)))))
    (tRet (tC (.bl false)))
    tNext)
    (tSeq (tAsg (tVar 0) (gTup K 3 (gNames [2, 3, 4])))
    (tSeq (tIfS (tOr (tNot (tTest (tChain rLeI rLeI (tC (.int 2)) (tVar 2) (tC (.int 4))))) (tOr (tNot (tTest (tChain rLeI rLeI (tC (.int 1)) (tVar 3) (tC (.int 10))))) (tOr (tTest (tOp rGtI (tCall (spP K W__law_many) [] E0 (tCons (tVar 2) (tCons (tVar 3) tNil))) (tC (.int 1024)))) (tNot (tB (tCB (rIsi K) (tCons (tVar 4) (tCons (tC (.ty "list")) tNil))))))))
    (tRet (tC (.bl false)))
    tNext)
    (tRet (tAndV (tOp (rEqU K) (tCB (rLenA K) (tCons (tVar 4) tNil)) (tCall (spP K W__law_many) [] E0 (tCons (tVar 2) (tCons (tVar 3) tNil)))) (tOp (rEqU K) (tLc (iList K (tVar 4)) (gName 1) (tNot (tB (tCall (spP K W__law_is_whole) [] E0 (tCons (tVar 1) tNil)))) (tVar 1) [1]) (tLst tNil)))))))
end Cf
namespace Cf
open PySem PySem.Spec PyProof.Rows L2
open Evl (Ex)
local macro_rules | `(tactic| walk_at "d") => `(tactic| first
  | (with_reducible refine DS_seq ?_)
  | (with_reducible refine DS_if ?_)
  | (with_reducible refine DS_ret ?_)
  | (with_reducible refine DS_next ?_)
  | (with_reducible refine DS_retN ?_)
  | (with_reducible refine DS_set ?_)
  | (with_reducible refine DS_drop ?_)
  | (with_reducible refine DS_unpack ?_)
  | (with_reducible refine DS_par ?_)
  | (with_reducible refine DE_int ?_)
  | (with_reducible refine DE_bl ?_)
  | (with_reducible refine DE_non ?_)
  | (with_reducible refine DE_str ?_)
  | (with_reducible refine DE_isi ?_)
  | (with_reducible refine DE_and ?_)
  | (with_reducible refine DE_or ?_)
  | (with_reducible refine DE_not ?_)
  | (with_reducible refine DE_if ?_)
  | (with_reducible refine DE_chain ?_)
  | (with_reducible refine DE_tyIs ?_)
  | (with_reducible refine DE_tyNot ?_)
  | (with_reducible refine DE_call ?_)
  | (with_reducible refine DE_cb ?_)
  | (with_reducible refine DE_op ?_)
  | (with_reducible refine DE_un ?_)
  | (with_reducible refine DE_tup ?_)
  | (with_reducible refine DT_test ?_)
  | (with_reducible refine DT_B ?_)
  | (with_reducible refine DT_and ?_)
  | (with_reducible refine DT_or ?_)
  | (with_reducible refine DT_not ?_)
  | (with_reducible refine DT_yes ?_)
  | (with_reducible refine DA_nil ?_)
  | (with_reducible refine DA_cons ?_)
  | (with_reducible refine DO_no ?_)
  | (with_reducible refine DO_at ?_)
  | (with_reducible refine DR_minus ?_)
  | (with_reducible refine DR_mod ?_)
  | (with_reducible refine DR_div ?_)
  | (with_reducible refine DR_pow ?_)
  | (with_reducible refine DR_lt ?_)
  | (with_reducible refine DR_le ?_)
  | (with_reducible refine DR_gt ?_)
  | (with_reducible refine DR_ge ?_)
  | (with_reducible refine DR_eq ?_)
  | (with_reducible refine DR_ne ?_)
  | (with_reducible refine DR_isN ?_)
  | (with_reducible refine DR_notN ?_)
  | (with_reducible refine DU_neg ?_)
  | (with_reducible refine DC_len ?_)
  | (with_reducible refine DC_int ?_)
  | (with_reducible refine DC_abs ?_)
  | (with_reducible refine DC_max2 ?_)
  | (with_reducible refine DC_min2 ?_)
  | (with_reducible refine DC_sum ?_)
  | (with_reducible refine DC_all ?_)
  | (with_reducible refine DC_any ?_)
  | (with_reducible refine DC_repr ?_)
  | (with_reducible refine ⟨_, kb_int _, ?_⟩)
  | (with_reducible refine ⟨_, kb_bool _, ?_⟩)
  | (with_reducible refine ⟨_, kb_list _, ?_⟩)
  | (with_reducible refine ⟨_, kb_tuple _, ?_⟩)
  | (with_reducible refine ⟨_, rfl, ?_⟩)
  | (with_reducible refine ⟨_, _, rfl, rfl, ?_⟩)
  | (with_reducible refine DE_emp ?_)
  | (with_reducible refine DE_new (DL_lst ?_))
  | (with_reducible refine DE_new (DL_sl ?_))
  | (with_reducible refine DE_slT ?_)
  | (with_reducible refine DC_list ?_)
  | ((with_reducible refine' DE_callT ?k1 ?_); (case k1 => exact rfl))
  | ((with_reducible refine' DE_var ?k1 ?_); (case k1 => exact rfl)))

abbrev Itm (d : PyData) : Prop := Shw 64 1 d
def Nice (x : PyData) : Prop := shortW x = true ∧ Shw 300000 4 x
theorem itm_int {v : Int} (h : -(10 ^ 40) ≤ v ∧ v ≤ 10 ^ 40) : Itm (.int v) := (shw_int (by omega)).up (Nat.le_refl _) (by omega)
theorem shw_vals {ds : List PyData} (h : ∀ d ∈ ds, Itm d) (hl : ds.length ≤ 1026) : Shw 67720 2 (.list ds) := (shw_list h).up (by omega) (Nat.le_refl _)
theorem itm_up {d : PyData} (h : Itm d) : Shw 67720 2 d := h.up (by decide) (by decide)
theorem nice_4 {a b c e : PyData} (ha : Shw 67720 2 a) (hb : Shw 67720 2 b) (hc : Shw 67720 2 c) (he : Shw 67720 2 e) : Nice (.tuple [a, b, c, e]) :=
  ⟨rfl, (shw_tuple (n := 67720) (k := 2) (fun d hd => by
    simp only [List.mem_cons, List.not_mem_nil, or_false] at hd
    rcases hd with rfl | rfl | rfl | rfl <;> assumption)).up (by show 4 * 67722 + 3 ≤ 300000; decide) (by decide)⟩
end Cf
namespace Cf
open PySem PySem.Spec PyProof.Rows L2
open Evl (Ex)
local macro_rules | `(tactic| walk_at "d") => `(tactic| first
  | (with_reducible refine DS_seq ?_)
  | (with_reducible refine DS_if ?_)
  | (with_reducible refine DS_ret ?_)
  | (with_reducible refine DS_next ?_)
  | (with_reducible refine DS_retN ?_)
  | (with_reducible refine DS_set ?_)
  | (with_reducible refine DS_drop ?_)
  | (with_reducible refine DS_unpack ?_)
  | (with_reducible refine DS_par ?_)
  | (with_reducible refine DE_int ?_)
  | (with_reducible refine DE_bl ?_)
  | (with_reducible refine DE_non ?_)
  | (with_reducible refine DE_str ?_)
  | (with_reducible refine DE_isi ?_)
  | (with_reducible refine DE_and ?_)
  | (with_reducible refine DE_or ?_)
  | (with_reducible refine DE_not ?_)
  | (with_reducible refine DE_if ?_)
  | (with_reducible refine DE_chain ?_)
  | (with_reducible refine DE_tyIs ?_)
  | (with_reducible refine DE_tyNot ?_)
  | (with_reducible refine DE_call ?_)
  | (with_reducible refine DE_cb ?_)
  | (with_reducible refine DE_op ?_)
  | (with_reducible refine DE_un ?_)
  | (with_reducible refine DE_tup ?_)
  | (with_reducible refine DT_test ?_)
  | (with_reducible refine DT_B ?_)
  | (with_reducible refine DT_and ?_)
  | (with_reducible refine DT_or ?_)
  | (with_reducible refine DT_not ?_)
  | (with_reducible refine DT_yes ?_)
  | (with_reducible refine DA_nil ?_)
  | (with_reducible refine DA_cons ?_)
  | (with_reducible refine DO_no ?_)
  | (with_reducible refine DO_at ?_)
  | (with_reducible refine DR_minus ?_)
  | (with_reducible refine DR_mod ?_)
  | (with_reducible refine DR_div ?_)
  | (with_reducible refine DR_pow ?_)
  | (with_reducible refine DR_lt ?_)
  | (with_reducible refine DR_le ?_)
  | (with_reducible refine DR_gt ?_)
  | (with_reducible refine DR_ge ?_)
  | (with_reducible refine DR_eq ?_)
  | (with_reducible refine DR_ne ?_)
  | (with_reducible refine DR_isN ?_)
  | (with_reducible refine DR_notN ?_)
  | (with_reducible refine DU_neg ?_)
  | (with_reducible refine DC_len ?_)
  | (with_reducible refine DC_int ?_)
  | (with_reducible refine DC_abs ?_)
  | (with_reducible refine DC_max2 ?_)
  | (with_reducible refine DC_min2 ?_)
  | (with_reducible refine DC_sum ?_)
  | (with_reducible refine DC_all ?_)
  | (with_reducible refine DC_any ?_)
  | (with_reducible refine DC_repr ?_)
  | (with_reducible refine ⟨_, kb_int _, ?_⟩)
  | (with_reducible refine ⟨_, kb_bool _, ?_⟩)
  | (with_reducible refine ⟨_, kb_list _, ?_⟩)
  | (with_reducible refine ⟨_, kb_tuple _, ?_⟩)
  | (with_reducible refine ⟨_, rfl, ?_⟩)
  | (with_reducible refine ⟨_, _, rfl, rfl, ?_⟩)
  | (with_reducible refine DE_callN ?_)
  | (with_reducible refine DR_notB ?_)
  | (with_reducible refine DE_emp ?_)
  | (with_reducible refine DE_new (DL_lst ?_))
  | (with_reducible refine DE_new (DL_sl ?_))
  | (with_reducible refine DE_slT ?_)
  | (with_reducible refine DC_list ?_)
  | ((with_reducible refine' DE_callT ?k1 ?_); (case k1 => exact rfl))
  | ((with_reducible refine' DE_var ?k1 ?_); (case k1 => exact rfl))
  | ((with_reducible refine' DE_varO ?k1 ?_); (case k1 => exact rfl))
  | ((with_reducible refine' DE_varN ?k1 ?_); (case k1 => exact rfl)))


def W_word_at (ds : List PyData) (R : PyData → Prop) : Prop := ∃ (s : Int) (l : Nat) (n : Int), ds = [.int s, .int l, .int n] ∧ 2 ≤ s ∧ s ≤ 4 ∧ l ≤ 1000 ∧ R (LI (wordOf s l n))
def t_word_at (K : PySem.W.Frag) : TS :=
  (tSeq (tAsg (tLst tNil) (gName 3))
    (tSeq (tFor (iRg1 (tCons (tVar 1) tNil)) (gName 4)
    (tSeq (tDrop (tBM K "list" rAppend (tVar 3) (tCons (tOp rModI (tVar 2) (tVar 0)) tNil)))
    (tAsg (tOp rDivI (tVar 2) (tVar 0)) (gName 2))))
    (tRet (tRevL K (tVar 3)))))
def W__law_word (ds : List PyData) (R : PyData → Prop) : Prop := ∃ (s n : Int) (l : Nat), ds = [.int s, .int n, .int l] ∧ 2 ≤ s ∧ s ≤ 4 ∧ l ≤ 1000 ∧ R (LI (wordOf s l n))
def t__law_word (K : PySem.W.Frag) : TS :=
  (tSeq (tAsg (tLst tNil) (gName 3))
    (tSeq (tFor (iRg1 (tCons (tVar 2) tNil)) (gName 4)
    (tSeq (tDrop (tBM K "list" rAppend (tVar 3) (tCons (tOp rModI (tCB rIntA (tCons (tVar 1) tNil)) (tVar 0)) tNil)))
    (tAsg (tOp rDivI (tVar 1) (tVar 0)) (gName 1))))
    (tRet (tRevL K (tVar 3)))))
def W_is_reached (ds : List PyData) (R : PyData → Prop) : Prop := ∃ f w : Int, ds = [.int f, .int w] ∧ R (.bool (decide (-100 ≤ f) && decide (f + w ≤ 101)))
def t_is_reached (K : PySem.W.Frag) : TS :=
  (tRet (tAndV (tOp rGeI (tVar 0) (tUn rNegI (tC (.int 100)))) (tOp rLeI (tOp (rPlus K) (tVar 0) (tVar 1)) (tOp (rPlus K) (tC (.int 100)) (tC (.int 1))))))
theorem ds_is_reached : Keeps W_is_reached 2 t_is_reached := by
  intro K ds R h
  obtain ⟨f, w, rfl, q⟩ := h
  refine ⟨by simp, ?_⟩
  show DS K _ (t_is_reached K) [.sh (.int f), .sh (.int w)] _ _ _ _
  unfold t_is_reached
  repeat walk_at "d"
  by_cases h : -100 ≤ f
  · rw [decide_eq_true h] at q ⊢
    refine iteT ?_
    repeat walk_at "d"
    refine DR_plusI ⟨_, _, rfl, rfl, ?_⟩
    repeat walk_at "d"
    refine DR_plusI ⟨_, _, rfl, rfl, ?_⟩
    repeat walk_at "d"
    exact q
  · rw [decide_eq_false h] at q ⊢
    exact iteF q

def isRule : PyData → Bool
  | .tuple [.int s, .int f, .int w, .list T] => decide (2 ≤ s ∧ s ≤ 4) && decide (1 ≤ w) && (decide (-100 ≤ f) && decide (f + w ≤ 101)) && isWord s (.list T) && decide (cw s w 1024 = some (T.length : Int))
  | _ => false
theorem isRule_no {x : PyData} (h : ∀ s f w T, x = .tuple [.int s, .int f, .int w, .list T] → ¬ (2 ≤ s ∧ s ≤ 4 ∧ 1 ≤ w ∧ (decide (-100 ≤ f) && decide (f + w ≤ 101)) = true ∧ isWord s (.list T) = true)) : isRule x = false := by
  unfold isRule
  split
  · rename_i s f w T
    cases e : (decide (2 ≤ s ∧ s ≤ 4) && decide (1 ≤ w) && (decide (-100 ≤ f) && decide (f + w ≤ 101)) && isWord s (.list T)) with
    | false => rfl
    | true =>
      simp only [Bool.and_eq_true, decide_eq_true_eq] at e
      exact absurd ⟨e.1.1.1.1, e.1.1.1.2, e.1.1.2, by simp only [Bool.and_eq_true, decide_eq_true_eq]; exact e.1.2, e.2⟩ (h s f w T rfl)
  · rfl
def shortR : PyData → Bool
  | .tuple [a, b, c, d] => shortD d
  | .list ds => decide (ds.length < 100000)
  | .tuple ds => decide (ds.length < 100000)
  | .str z => decide (z.length < 100000)
  | _ => true
def W_is_rule (ds : List PyData) (R : PyData → Prop) : Prop := ∃ (x : PyData), ds = [x] ∧ shortR x = true ∧ R (.bool (isRule x))
def t_is_rule (K : PySem.W.Frag) : TS :=
  (tSeq (tIfS (tOr (tTest (tOp rNT (tCB (rTyp K) (tCons (tVar 0) tNil)) (tC (.ty "tuple")))) (tTest (tOp (rNeU K) (tCB (rLenA K) (tCons (tVar 0) tNil)) (tC (.int 4)))))
    (tRet (tC (.bl false)))
    tNext)
    (tSeq (tAsg (tVar 0) (gTup K 4 (gNames [1, 2, 3, 4])))
    (tSeq (tIfS (tOr (tNot (tB (tCall (spP K W_is_sign_count) [] E0 (tCons (tVar 1) tNil)))) (tOr (tNot (tB (tCall (spP K W_is_integer) [] E0 (tCons (tVar 2) tNil)))) (tNot (tB (tCall (spP K W_is_integer) [] E0 (tCons (tVar 3) tNil))))))
    (tRet (tC (.bl false)))
    tNext)
    (tSeq (tIfS (tOr (tTest (tOp rLtI (tVar 3) (tC (.int 1)))) (tOr (tNot (tB (tCall (spP K W_is_reached) [] E0 (tCons (tVar 2) (tCons (tVar 3) tNil))))) (tNot (tB (tCall (spP K W_is_word) [] E0 (tCons (tVar 1) (tCons (tVar 4) tNil)))))))
    (tRet (tC (.bl false)))
    tNext)
    (tRet (tOp (rEqU K) (tCB (rLenA K) (tCons (tVar 4) tNil)) (tCall (spP K W_count_words) [] E0 (tCons (tVar 1) (tCons (tVar 3) (tCons (tC (.int 1024)) tNil))))))))))
theorem ds_is_rule : Keeps W_is_rule 5 t_is_rule := by
  intro K ds R h
  obtain ⟨x, rfl, hs, q⟩ := h
  refine ⟨by simp, ?_⟩
  show DS K _ (t_is_rule K) [.sh x, .no, .no, .no, .no] _ _ _ _
  unfold t_is_rule
  have ret : ∀ {ρ : Rho} {N : Rho → Prop}, R (.bool false) → DS K none (tRet (tC (.bl false))) ρ N R NoR NoR := fun q => DS_ret (DE_bl q)
  repeat walk_at "d"
  cases x with
  | tuple ds =>
    refine iteF ?_
    repeat walk_at "d"
    refine ⟨shp_int _, shp_int _, _, rfl, ite2 (fun h => ?_) fun h => ?_⟩
    · refine ret ?_
      have e : isRule (.tuple ds) = false := isRule_no fun s f w T e => by
        cases e
        cases (show false = true from h)
      rw [e] at q
      exact q
    · have e : ds.length = 4 := by
        have h : ((ds.length : Int) == 4) = true := by
          cases z : ((ds.length : Int) == 4) with
          | true => rfl
          | false => exact absurd (show (!((ds.length : Int) == 4)) = true by rw [z]; rfl) h
        have := of_decide_eq_true h
        omega
      obtain ⟨a, b, c, d, rfl⟩ : ∃ a b c d, ds = [a, b, c, d] := by
        match ds, e with
        | [a, b, c, d], _ => exact ⟨a, b, c, d, rfl⟩
      have hs : shortD d = true := hs
      repeat walk_at "d"
      refine ⟨rfl, rfl, ?_⟩
      repeat walk_at "d"
      refine ⟨a, rfl, _, rfl, ?_⟩
      have no : (∀ s f w T, PyData.tuple [a, b, c, d] = .tuple [.int s, .int f, .int w, .list T] → ¬ (2 ≤ s ∧ s ≤ 4 ∧ 1 ≤ w ∧ (decide (-100 ≤ f) && decide (f + w ≤ 101)) = true ∧ isWord s (.list T) = true)) → R (.bool false) := fun h => by
        rw [isRule_no h] at q
        exact q
      cases ha : isSign a with
      | false =>
        refine iteT (iteT (ret (no fun s f w T e ⟨h1, h2, _⟩ => ?_)))
        cases e
        rw [show isSign (.int s) = true from decide_eq_true ⟨h1, h2⟩] at ha
        cases ha
      | true =>
        refine iteF ?_
        repeat walk_at "d"
        refine ⟨b, rfl, _, rfl, ?_⟩
        cases hb : isInt b with
        | false =>
          refine iteT (iteT (ret (no fun s f w T e _ => ?_)))
          cases e
          cases hb
        | true =>
          refine iteF ?_
          repeat walk_at "d"
          refine ⟨c, rfl, _, rfl, ?_⟩
          cases hc : isInt c with
          | false =>
            refine iteT (ret (no fun s f w T e _ => ?_))
            cases e
            cases hc
          | true =>
            refine iteF ?_
            obtain ⟨s, rfl⟩ : ∃ s, a = .int s := by
              cases a with
              | int s => exact ⟨s, rfl⟩
              | _ => cases ha
            obtain ⟨f, rfl⟩ : ∃ s, b = .int s := by
              cases b with
              | int s => exact ⟨s, rfl⟩
              | _ => cases hb
            obtain ⟨w, rfl⟩ : ∃ s, c = .int s := by
              cases c with
              | int s => exact ⟨s, rfl⟩
              | _ => cases hc
            have hss : 2 ≤ s ∧ s ≤ 4 := of_decide_eq_true ha
            repeat walk_at "d"
            refine ite2 (fun h1 => iteT (ret (no fun s' f' w' T e ⟨_, _, h, _⟩ => ?_))) fun h1 => ?_
            · have h1 : w < 1 := of_decide_eq_true h1
              cases e
              omega
            · have h1 : ¬ w < 1 := fun z => h1 (decide_eq_true z)
              repeat walk_at "d"
              refine ⟨f, w, rfl, _, rfl, ?_⟩
              cases hr : (decide (-100 ≤ f) && decide (f + w ≤ 101)) with
              | false =>
                refine iteT (iteT (ret (no fun s' f' w' T e ⟨_, _, _, hz, _⟩ => ?_)))
                cases e
                rw [hr] at hz
                cases hz
              | true =>
                refine iteF ?_
                repeat walk_at "d"
                refine ⟨s, d, rfl, hs, _, rfl, ?_⟩
                cases hd : isWord s d with
                | false =>
                  refine iteT (ret (no fun s' f' w' T e ⟨_, _, _, _, hz⟩ => ?_))
                  cases e
                  rw [hd] at hz
                  cases hz
                | true =>
                  obtain ⟨T, rfl⟩ : ∃ T, d = .list T := by
                    cases d with
                    | list T => exact ⟨T, rfl⟩
                    | _ => cases hd
                  refine iteF ?_
                  repeat walk_at "d"
                  refine ⟨s, w, 1024, rfl, hss.1, hss.2, by decide, ?_⟩
                  repeat walk_at "d"
                  refine ⟨shp_int _, shp_opt _, ?_⟩
                  rw [eqv_opt]
                  have e : isRule (.tuple [.int s, .int f, .int w, .list T]) = decide (cw s w 1024 = some (T.length : Int)) := by
                    show (decide (2 ≤ s ∧ s ≤ 4) && decide (1 ≤ w) && (decide (-100 ≤ f) && decide (f + w ≤ 101)) && isWord s (.list T) && _) = _
                    rw [decide_eq_true hss, decide_eq_true (show 1 ≤ w by omega), hr, hd]
                    rfl
                  rw [e] at q
                  exact q
  | _ => exact iteT (by exact ret q)

abbrev rlD (s f : Int) (w : Nat) (T : List Int) : PyData := .tuple [.int s, .int f, .int w, LI T]
theorem word_LI {s : Int} {T : List Int} (h : Signs s T) : isWord s (LI T) = true := by
  show (T.map PyData.int).all (inSigns s) = true
  rw [List.all_map]
  exact List.all_eq_true.mpr fun d hd => decide_eq_true (h d hd)
theorem rl_is {s f : Int} {w : Nat} {T : List Int} (h : Rl s f w T) : isRule (rlD s f w T) = true := by
  have h0 := h.f0
  have h1 := h.f1
  show (decide (2 ≤ s ∧ s ≤ 4) && decide (1 ≤ (w : Int)) && (decide (-100 ≤ f) && decide (f + w ≤ 101)) && isWord s (LI T) && decide (cw s w 1024 = some (((T.map PyData.int).length : Nat) : Int))) = true
  have : cw s w 1024 = some (T.length : Int) := by
    unfold cw
    rw [Int.toNat_natCast, if_pos h.le, h.ln]
  rw [decide_eq_true ⟨h.s2, h.s4⟩, decide_eq_true (show 1 ≤ (w : Int) by have := h.w1; omega), decide_eq_true (show -100 ≤ f by omega), decide_eq_true (show f + w ≤ 101 by omega), word_LI h.ok, List.length_map, this]
  simp
theorem rl_len {s f : Int} {w : Nat} {T : List Int} (h : Rl s f w T) : T.length ≤ 1024 := h.wt.len
theorem rl_short {s f : Int} {w : Nat} {T : List Int} (h : Rl s f w T) : shortR (rlD s f w T) = true := by
  show decide ((T.map PyData.int).length < 100000) = true
  have := rl_len h
  exact decide_eq_true (by rw [List.length_map]; omega)

def W_check_rule (ds : List PyData) (R : PyData → Prop) : Prop := ∃ (x : PyData), ds = [x] ∧ shortR x = true ∧ isRule x = true ∧ R .none
def t_check_rule (K : PySem.W.Frag) : TS :=
  (tIfS (tNot (tB (tCall (spP K W_is_rule) [] E0 (tCons (tVar 0) tNil))))
    tNever
    tNext)
theorem ds_check_rule : Keeps W_check_rule 1 t_check_rule := by
  intro K ds R h
  obtain ⟨x, rfl, hs, hr, q⟩ := h
  refine ⟨by simp, ?_⟩
  show DS K _ (t_check_rule K) [.sh x] _ _ _ _
  unfold t_check_rule
  repeat walk_at "d"
  refine ⟨x, rfl, hs, _, rfl, ?_⟩
  rw [hr]
  refine iteF ?_
  repeat walk_at "d"
  exact q

def W_check_like_signs (ds : List PyData) (R : PyData → Prop) : Prop := ∃ (s : Int) (as bs : List PyData), ds = [.tuple (.int s :: as), .tuple (.int s :: bs)] ∧ R .none
def t_check_like_signs (K : PySem.W.Frag) : TS :=
  (tIfS (tTest (tOp (rNeU K) (tOp (rIx K) (tVar 0) (tC (.int 0))) (tOp (rIx K) (tVar 1) (tC (.int 0)))))
    tNever
    tNext)
def W_made_numbers (ds : List PyData) (R : PyData → Prop) : Prop := ∃ (s f : Int) (w : Nat) (T : List Int) (k : Nat), ds = [rlD s f w T, .int ((k : Int) + 1)] ∧ Rl s f w T ∧ s ^ (w + k) ≤ 1024 ∧
  R (LI ((List.range (s ^ (w + k)).toNat).map fun (n : Nat) => made s w T k n))
def t_made_numbers (K : PySem.W.Frag) : TS :=
  (tSeq (tAsg (tVar 0) (gTup K 4 (gNames [2, 3, 3, 4])))
    (tSeq (tAsg (tCB (rListA K) (tCons (tVar 4) tNil)) (gName 5))
    (tSeq (tFor (iRg1 (tCons (tOp rMinus (tVar 1) (tC (.int 1))) tNil)) (gName 3)
    (tSeq (tAsg (tOp rTimes (tCB (rLenA K) (tCons (tVar 5) tNil)) (tVar 2)) (gName 6))
    (tAsg (tLc (iRg1 (tCons (tVar 6) tNil)) (gName 7) tYes (tOp (rPlus K) (tOp rTimes (tOp (rIx K) (tVar 5) (tOp rDivI (tVar 7) (tVar 2))) (tVar 2)) (tOp (rIx K) (tVar 4) (tOp rModI (tVar 7) (tCB (rLenA K) (tCons (tVar 4) tNil))))) [7]) (gName 5))))
    (tRet (tVar 5)))))
end Cf
namespace Cf
open PySem PySem.Spec PyProof.Rows L2
open Evl (Ex)
local macro_rules | `(tactic| walk_at "d") => `(tactic| first
  | (with_reducible refine DS_seq ?_)
  | (with_reducible refine DS_if ?_)
  | (with_reducible refine DS_ret ?_)
  | (with_reducible refine DS_next ?_)
  | (with_reducible refine DS_retN ?_)
  | (with_reducible refine DS_set ?_)
  | (with_reducible refine DS_drop ?_)
  | (with_reducible refine DS_unpack ?_)
  | (with_reducible refine DS_par ?_)
  | (with_reducible refine DE_int ?_)
  | (with_reducible refine DE_bl ?_)
  | (with_reducible refine DE_non ?_)
  | (with_reducible refine DE_str ?_)
  | (with_reducible refine DE_isi ?_)
  | (with_reducible refine DE_and ?_)
  | (with_reducible refine DE_or ?_)
  | (with_reducible refine DE_not ?_)
  | (with_reducible refine DE_if ?_)
  | (with_reducible refine DE_chain ?_)
  | (with_reducible refine DE_tyIs ?_)
  | (with_reducible refine DE_tyNot ?_)
  | (with_reducible refine DE_call ?_)
  | ((with_reducible refine' DE_lenOw ?k1 ?_); (case k1 => exact rfl))
  | ((with_reducible refine' DE_reprOw ?k1 ?_); (case k1 => exact rfl))
  | ((with_reducible refine' DE_ixOw ?k1 ?_); (case k1 => exact rfl))
  | ((with_reducible refine' DE_lenOw ?k1 ?_); (case k1 => exact rfl))
  | (with_reducible refine DE_cb ?_)
  | (with_reducible refine DE_new (DL_rep (DL_lst ?_)))
  | (with_reducible refine DE_op ?_)
  | (with_reducible refine DE_un ?_)
  | (with_reducible refine DE_tup ?_)
  | (with_reducible refine DT_test ?_)
  | (with_reducible refine DT_B ?_)
  | (with_reducible refine DT_and ?_)
  | (with_reducible refine DT_or ?_)
  | (with_reducible refine DT_not ?_)
  | (with_reducible refine DT_yes ?_)
  | (with_reducible refine DA_nil ?_)
  | (with_reducible refine DA_cons ?_)
  | (with_reducible refine DO_no ?_)
  | (with_reducible refine DO_at ?_)
  | (with_reducible refine DR_minus ?_)
  | (with_reducible refine DR_mod ?_)
  | (with_reducible refine DR_div ?_)
  | (with_reducible refine DR_pow ?_)
  | (with_reducible refine DR_lt ?_)
  | (with_reducible refine DR_le ?_)
  | (with_reducible refine DR_gt ?_)
  | (with_reducible refine DR_ge ?_)
  | (with_reducible refine DR_eq ?_)
  | (with_reducible refine DR_ne ?_)
  | (with_reducible refine DR_isN ?_)
  | (with_reducible refine DR_notN ?_)
  | (with_reducible refine DU_neg ?_)
  | (with_reducible refine DC_len ?_)
  | (with_reducible refine DC_int ?_)
  | (with_reducible refine DC_abs ?_)
  | (with_reducible refine DC_max2 ?_)
  | (with_reducible refine DC_min2 ?_)
  | (with_reducible refine DC_sum ?_)
  | (with_reducible refine DC_all ?_)
  | (with_reducible refine DC_any ?_)
  | (with_reducible refine DC_repr ?_)
  | (with_reducible refine ⟨_, kb_int _, ?_⟩)
  | (with_reducible refine ⟨_, kb_bool _, ?_⟩)
  | (with_reducible refine ⟨_, kb_list _, ?_⟩)
  | (with_reducible refine ⟨_, kb_tuple _, ?_⟩)
  | (with_reducible refine ⟨_, rfl, ?_⟩)
  | (with_reducible refine ⟨_, _, rfl, rfl, ?_⟩)
  | (with_reducible refine DE_callN ?_)
  | (with_reducible refine DE_callX ?_)
  | (with_reducible refine DR_notB ?_)
  | (with_reducible refine DE_emp ?_)
  | (with_reducible refine DE_new (DL_lst ?_))
  | (with_reducible refine DE_new (DL_callF ?_))
  | (with_reducible refine DE_new (DL_sl ?_))
  | (with_reducible refine DE_slT ?_)
  | (with_reducible refine DC_list ?_)
  | ((with_reducible refine' DE_callT ?k1 ?_); (case k1 => exact rfl))
  | ((with_reducible refine' DE_var ?k1 ?_); (case k1 => exact rfl))
  | ((with_reducible refine' DE_varO ?k1 ?_); (case k1 => exact rfl))
  | ((with_reducible refine' DE_varN ?k1 ?_); (case k1 => exact rfl)))


def W_check_ticks (ds : List PyData) (R : PyData → Prop) : Prop := ∃ n m : Int, ds = [.int n, .int m] ∧ 0 ≤ n ∧ n ≤ m ∧ R .none
def t_check_ticks (K : PySem.W.Frag) : TS :=
  (tIfS (tOr (tNot (tB (tCall (spP K W_is_integer) [] E0 (tCons (tVar 0) tNil)))) (tOr (tTest (tOp rLtI (tVar 0) (tC (.int 0)))) (tTest (tOp rGtI (tVar 0) (tVar 1)))))
    tNever
    tNext)
end Cf
namespace Cf
open PySem PySem.Spec PyProof.Rows L2
open Evl (Ex)
local macro_rules | `(tactic| walk_at "d") => `(tactic| first
  | (with_reducible refine DS_seq ?_)
  | (with_reducible refine DS_if ?_)
  | (with_reducible refine DS_ret ?_)
  | (with_reducible refine DS_next ?_)
  | (with_reducible refine DS_retN ?_)
  | (with_reducible refine DS_set ?_)
  | (with_reducible refine DS_drop ?_)
  | (with_reducible refine DS_unpack ?_)
  | (with_reducible refine DS_par ?_)
  | (with_reducible refine DE_int ?_)
  | (with_reducible refine DE_bl ?_)
  | (with_reducible refine DE_non ?_)
  | (with_reducible refine DE_str ?_)
  | (with_reducible refine DE_isi ?_)
  | (with_reducible refine DE_and ?_)
  | (with_reducible refine DE_or ?_)
  | (with_reducible refine DE_not ?_)
  | (with_reducible refine DE_if ?_)
  | (with_reducible refine DE_chain ?_)
  | (with_reducible refine DE_tyIs ?_)
  | (with_reducible refine DE_tyNot ?_)
  | (with_reducible refine DE_call ?_)
  | ((with_reducible refine' DE_lenOw ?k1 ?_); (case k1 => exact rfl))
  | ((with_reducible refine' DE_reprOw ?k1 ?_); (case k1 => exact rfl))
  | ((with_reducible refine' DE_ixOw ?k1 ?_); (case k1 => exact rfl))
  | ((with_reducible refine' DE_lenOw ?k1 ?_); (case k1 => exact rfl))
  | (with_reducible refine DE_cb ?_)
  | (with_reducible refine DE_new (DL_rep (DL_lst ?_)))
  | (with_reducible refine DE_op ?_)
  | (with_reducible refine DE_un ?_)
  | (with_reducible refine DE_tup ?_)
  | (with_reducible refine DT_test ?_)
  | (with_reducible refine DT_B ?_)
  | (with_reducible refine DT_and ?_)
  | (with_reducible refine DT_or ?_)
  | (with_reducible refine DT_not ?_)
  | (with_reducible refine DT_yes ?_)
  | (with_reducible refine DA_nil ?_)
  | (with_reducible refine DA_cons ?_)
  | (with_reducible refine DO_no ?_)
  | (with_reducible refine DO_at ?_)
  | (with_reducible refine DR_minus ?_)
  | (with_reducible refine DR_mod ?_)
  | (with_reducible refine DR_div ?_)
  | (with_reducible refine DR_pow ?_)
  | (with_reducible refine DR_lt ?_)
  | (with_reducible refine DR_le ?_)
  | (with_reducible refine DR_gt ?_)
  | (with_reducible refine DR_ge ?_)
  | (with_reducible refine DR_eq ?_)
  | (with_reducible refine DR_ne ?_)
  | (with_reducible refine DR_isN ?_)
  | (with_reducible refine DR_notN ?_)
  | (with_reducible refine DU_neg ?_)
  | (with_reducible refine DC_len ?_)
  | (with_reducible refine DC_int ?_)
  | (with_reducible refine DC_abs ?_)
  | (with_reducible refine DC_max2 ?_)
  | (with_reducible refine DC_min2 ?_)
  | (with_reducible refine DC_sum ?_)
  | (with_reducible refine DC_all ?_)
  | (with_reducible refine DC_any ?_)
  | (with_reducible refine DC_repr ?_)
  | (with_reducible refine ⟨_, kb_int _, ?_⟩)
  | (with_reducible refine ⟨_, kb_bool _, ?_⟩)
  | (with_reducible refine ⟨_, kb_list _, ?_⟩)
  | (with_reducible refine ⟨_, kb_tuple _, ?_⟩)
  | (with_reducible refine ⟨_, rfl, ?_⟩)
  | (with_reducible refine ⟨_, _, rfl, rfl, ?_⟩)
  | (with_reducible refine DE_callN ?_)
  | (with_reducible refine DE_callX ?_)
  | (with_reducible refine DR_notB ?_)
  | (with_reducible refine DE_emp ?_)
  | (with_reducible refine DE_new (DL_lst ?_))
  | (with_reducible refine DE_new (DL_callF ?_))
  | (with_reducible refine DE_new (DL_sl ?_))
  | (with_reducible refine DE_slT ?_)
  | (with_reducible refine DC_list ?_)
  | ((with_reducible refine' DE_callT ?k1 ?_); (case k1 => exact rfl))
  | ((with_reducible refine' DE_var ?k1 ?_); (case k1 => exact rfl))
  | ((with_reducible refine' DE_varO ?k1 ?_); (case k1 => exact rfl))
  | ((with_reducible refine' DE_varN ?k1 ?_); (case k1 => exact rfl)))


def W_turned (ds : List PyData) (R : List PyData → Prop) : Prop := ∃ (rs : List Run) (z : Int), ds = [RD rs, .int z] ∧ rs.length < 45000 ∧ (∀ p ∈ rs, 1 ≤ p.2) ∧ 0 ≤ z ∧ R ((mrg (behindS rs z ++ aheadS rs z)).map runD)
def t_turned (K : PySem.W.Frag) : TS :=
  (tSeq (tAsg (tLst tNil) (gName 2))
    (tSeq (tAsg (tLst tNil) (gName 3))
    (tSeq (tFor (iList K (tVar 0)) (gTup K 2 (gNames [4, 5]))
    (tSeq (tAsg (tCB rMin2A (tCons (tVar 5) (tCons (tVar 1) tNil))) (gName 6))
    (tSeq (tAsg (tOp rMinus (tVar 1) (tVar 6)) (gName 1))
    (tSeq (tIfS (tTest (tOp rGtI (tVar 6) (tC (.int 0))))
    (tDrop (tBM K "list" rAppend (tVar 2) (tCons (tTup (tCons (tVar 4) (tCons (tVar 6) tNil))) tNil)))
    tNext)
    (tIfS (tTest (tOp rGtI (tVar 5) (tVar 6)))
    (tDrop (tBM K "list" rAppend (tVar 3) (tCons (tTup (tCons (tVar 4) (tCons (tOp rMinus (tVar 5) (tVar 6)) tNil))) tNil)))
    tNext)))))
    (tRet (tCall (spF K W_merged) [] E0 (tCons (tOp (rPlus K) (tVar 3) (tVar 2)) tNil))))))
def W_cells_of (ds : List PyData) (R : PyData → Prop) : Prop := ∃ (s : Int) (rs : List Run), ds = [.int s, RD rs] ∧ 2 ≤ s ∧ s ≤ 4 ∧ Ru s rs ∧ rs.length < 100000 ∧ R (.int (rs.map (·.2)).sum)
def t_cells_of (K : PySem.W.Frag) : TS :=
  (tSeq (tDrop (tCall (spP K W_check_runs) [] E0 (tCons (tVar 0) (tCons (tVar 1) tNil))))
    (tRet (tCall (spP K W_cells_in) [] E0 (tCons (tVar 1) tNil))))
def W_ticked_runs (ds : List PyData) (R : List PyData → Prop) : Prop := ∃ (s f : Int) (w : Nat) (T : List Int) (rs : List Run) (n : Nat), ds = [rlD s f w T, RD rs, .int n] ∧ Rl s f w T ∧ Ru s rs ∧ n ≤ 10 ∧ (rs.length * ((n - 1) * (w - 1) + 1) * w ≤ 5000 ∨ (rs.map (·.2)).sum ≤ 5000) ∧ rs.length ≤ 400 ∧ R ((runsTick s f w T rs n).map runD)
def t_ticked_runs (K : PySem.W.Frag) : TS :=
  (tSeq (tDrop (tCall (spP K W_check_rule) [] E0 (tCons (tVar 0) tNil)))
    (tSeq (tAsg (tVar 0) (gTup K 4 (gNames [3, 4, 5, 6])))
    (tSeq (tDrop (tCall (spP K W_check_runs) [] E0 (tCons (tVar 3) (tCons (tVar 1) tNil))))
    (tSeq (tDrop (tCall (spP K W_check_ticks) [] E0 (tCons (tVar 2) (tCons (tC (.int 10)) tNil))))
    (tSeq (tAsg (tCall (spF K W_merged) [] E0 (tCons (tVar 1) tNil)) (gName 7))
    (tSeq (tFor (iRg1 (tCons (tVar 2) tNil)) (gName 8)
    (tSeq (tAsg (tCall (spP K W_shortened) [] E0 (tCons (tVar 7) (tCons (tVar 5) tNil))) (gTup K 2 (gNames [9, 10])))
    (tSeq (tAsg (tCall (spP K W_numbers_round) [] E0 (tCons (tVar 3) (tCons (tVar 5) (tCons (tVar 9) (tCons (tC (.int 0)) tNil))))) (gName 11))
    (tAsg (tCall (spF K W_merged) [] E0 (tCons (tLc (iZip K (tCons (tVar 11) (tCons (tVar 10) tNil))) (gTup K 2 (gNames [12, 13])) tYes (tTup (tCons (tOp (rIx K) (tVar 6) (tVar 12)) (tCons (tVar 13) tNil))) [12, 13]) tNil)) (gName 7)))))
    (tRet (tCall (spF K W_turned) [] E0 (tCons (tVar 7) (tCons (tOp rModI (tOp rTimes (tVar 2) (tVar 4)) (tCall (spP K W_cells_in) [] E0 (tCons (tVar 1) tNil))) tNil))))))))))
end Cf
namespace Cf
open PySem PySem.Spec PyProof.Rows L2
open Evl (Ex)
local macro_rules | `(tactic| walk_at "d") => `(tactic| first
  | (with_reducible refine DS_seq ?_)
  | (with_reducible refine DS_if ?_)
  | (with_reducible refine DS_ret ?_)
  | (with_reducible refine DS_next ?_)
  | (with_reducible refine DS_retN ?_)
  | (with_reducible refine DS_set ?_)
  | (with_reducible refine DS_drop ?_)
  | (with_reducible refine DS_unpack ?_)
  | (with_reducible refine DS_par ?_)
  | (with_reducible refine DE_int ?_)
  | (with_reducible refine DE_bl ?_)
  | (with_reducible refine DE_non ?_)
  | (with_reducible refine DE_str ?_)
  | (with_reducible refine DE_isi ?_)
  | (with_reducible refine DE_and ?_)
  | (with_reducible refine DE_or ?_)
  | (with_reducible refine DE_not ?_)
  | (with_reducible refine DE_if ?_)
  | (with_reducible refine DE_chain ?_)
  | (with_reducible refine DE_tyIs ?_)
  | (with_reducible refine DE_tyNot ?_)
  | (with_reducible refine DE_call ?_)
  | ((with_reducible refine' DE_lenOw ?k1 ?_); (case k1 => exact rfl))
  | ((with_reducible refine' DE_reprOw ?k1 ?_); (case k1 => exact rfl))
  | ((with_reducible refine' DE_ixOw ?k1 ?_); (case k1 => exact rfl))
  | ((with_reducible refine' DE_lenOw ?k1 ?_); (case k1 => exact rfl))
  | (with_reducible refine DE_cb ?_)
  | (with_reducible refine DE_new (DL_rep (DL_lst ?_)))
  | (with_reducible refine DE_op ?_)
  | (with_reducible refine DE_un ?_)
  | (with_reducible refine DE_tup ?_)
  | (with_reducible refine DT_test ?_)
  | (with_reducible refine DT_B ?_)
  | (with_reducible refine DT_and ?_)
  | (with_reducible refine DT_or ?_)
  | (with_reducible refine DT_not ?_)
  | (with_reducible refine DT_yes ?_)
  | (with_reducible refine DA_nil ?_)
  | (with_reducible refine DA_cons ?_)
  | (with_reducible refine DO_no ?_)
  | (with_reducible refine DO_at ?_)
  | (with_reducible refine DR_minus ?_)
  | (with_reducible refine DR_mod ?_)
  | (with_reducible refine DR_div ?_)
  | (with_reducible refine DR_pow ?_)
  | (with_reducible refine DR_lt ?_)
  | (with_reducible refine DR_le ?_)
  | (with_reducible refine DR_gt ?_)
  | (with_reducible refine DR_ge ?_)
  | (with_reducible refine DR_eq ?_)
  | (with_reducible refine DR_ne ?_)
  | (with_reducible refine DR_isN ?_)
  | (with_reducible refine DR_notN ?_)
  | (with_reducible refine DU_neg ?_)
  | (with_reducible refine DC_len ?_)
  | (with_reducible refine DC_int ?_)
  | (with_reducible refine DC_abs ?_)
  | (with_reducible refine DC_max2 ?_)
  | (with_reducible refine DC_min2 ?_)
  | (with_reducible refine DC_sum ?_)
  | (with_reducible refine DC_all ?_)
  | (with_reducible refine DC_any ?_)
  | (with_reducible refine DC_repr ?_)
  | (with_reducible refine ⟨_, kb_int _, ?_⟩)
  | (with_reducible refine ⟨_, kb_bool _, ?_⟩)
  | (with_reducible refine ⟨_, kb_list _, ?_⟩)
  | (with_reducible refine ⟨_, kb_tuple _, ?_⟩)
  | (with_reducible refine ⟨_, rfl, ?_⟩)
  | (with_reducible refine ⟨_, _, rfl, rfl, ?_⟩)
  | (with_reducible refine DE_callN ?_)
  | (with_reducible refine DE_callX ?_)
  | (with_reducible refine DR_notB ?_)
  | (with_reducible refine DE_emp ?_)
  | (with_reducible refine DE_new (DL_lst ?_))
  | (with_reducible refine DE_new (DL_callF ?_))
  | (with_reducible refine DE_new (DL_sl ?_))
  | (with_reducible refine DE_slT ?_)
  | (with_reducible refine DC_list ?_)
  | ((with_reducible refine' DE_callT ?k1 ?_); (case k1 => exact rfl))
  | ((with_reducible refine' DE_var ?k1 ?_); (case k1 => exact rfl))
  | ((with_reducible refine' DE_varO ?k1 ?_); (case k1 => exact rfl))
  | ((with_reducible refine' DE_varN ?k1 ?_); (case k1 => exact rfl)))


def W__law_behind (ds : List PyData) (R : PyData → Prop) : Prop := ∃ (s f : Int) (w : Nat) (T r : List Int), ds = [rlD s f w T, LI r] ∧ Rl s f w T ∧ Signs s r ∧ r.length ≤ 50000 ∧ R (LI (tick s f w T r))
def t__law_behind (K : PySem.W.Frag) : TS :=
  (tSeq (tAsg (tVar 0) (gTup K 4 (gNames [2, 3, 4, 5])))
    (tSeq (tPar 6 7 (tCons (tLst tNil) (tCons (tCB (rLenA K) (tCons (tVar 1) tNil)) tNil)))
    (tSeq (tFor (iRg1 (tCons (tVar 7) tNil)) (gName 8)
    (tSeq (tAsg (tC (.int 0)) (gName 9))
    (tSeq (tFor (iRg1 (tCons (tVar 4) tNil)) (gName 10)
    (tSeq (tAsg (tOp rModI (tCB rIntA (tCons (tOp (rPlus K) (tOp (rPlus K) (tVar 8) (tVar 3)) (tVar 10)) tNil)) (tVar 7)) (gName 11))
    (tAsg (tOp (rPlus K) (tOp rTimes (tVar 9) (tVar 2)) (tOp (rIx K) (tVar 1) (tVar 11))) (gName 9))))
    (tDrop (tBM K "list" rAppend (tVar 6) (tCons (tOp (rIx K) (tVar 5) (tVar 9)) tNil))))))
    (tRet (tVar 6)))))
def W__law_merged (ds : List PyData) (R : PyData → Prop) : Prop := ∃ (rs : List Run), ds = [RD rs] ∧ rs.length < 100000 ∧ R (RD (mrg rs))
def t__law_merged (K : PySem.W.Frag) : TS :=
  (tSeq (tAsg (tLst tNil) (gName 1))
    (tSeq (tFor (iList K (tVar 0)) (gTup K 2 (gNames [2, 3]))
    (tIfS (tAnd (tTest (tOp (rNeU K) (tVar 1) (tLst tNil))) (tTest (tOp (rEqU K) (tOp (rIx K) (tOp (rIx K) (tVar 1) (tUn rNegI (tC (.int 1)))) (tC (.int 0))) (tVar 2))))
    (tAsg (tTup (tCons (tVar 2) (tCons (tOp (rPlus K) (tOp (rIx K) (tOp (rIx K) (tVar 1) (tUn rNegI (tC (.int 1)))) (tC (.int 1))) (tVar 3)) tNil))) (gSub (tVar 1) (tUn rNegI (tC (.int 1))) rSetL))
    (tDrop (tBM K "list" rAppend (tVar 1) (tCons (tTup (tCons (tVar 2) (tCons (tVar 3) tNil))) tNil)))))
    (tRet (tVar 1))))
def W__law_turned (ds : List PyData) (R : PyData → Prop) : Prop := ∃ (rs : List Run) (z : Int), ds = [RD rs, .int z] ∧ rs ≠ [] ∧ rs.length < 45000 ∧ (∀ p ∈ rs, 1 ≤ p.2) ∧ R (RD (behindS rs (z % (rs.map (·.2)).sum) ++ aheadS rs (z % (rs.map (·.2)).sum)))
def t__law_turned (K : PySem.W.Frag) : TS :=
  (tSeq (tAsg (tCB (rSum K) (tCons (tLc (iList K (tVar 0)) (gTup K 2 (gNames [3, 4])) tYes (tVar 4) [3, 4]) tNil)) (gName 2))
    (tSeq (tPar3 5 6 7 (tCons (tOp rModI (tCB rIntA (tCons (tVar 1) tNil)) (tVar 2)) (tCons (tLst tNil) (tCons (tLst tNil) tNil))))
    (tSeq (tFor (iList K (tVar 0)) (gTup K 2 (gNames [3, 4]))
    (tSeq (tAsg (tCB rMin2A (tCons (tVar 4) (tCons (tVar 5) tNil))) (gName 8))
    (tSeq (tAsg (tOp rMinus (tVar 5) (tVar 8)) (gName 5))
    (tSeq (tIfS (tTest (tOp rGtI (tVar 8) (tC (.int 0))))
    (tDrop (tBM K "list" rAppend (tVar 6) (tCons (tTup (tCons (tVar 3) (tCons (tVar 8) tNil))) tNil)))
    tNext)
    (tIfS (tTest (tOp rGtI (tVar 4) (tVar 8)))
    (tDrop (tBM K "list" rAppend (tVar 7) (tCons (tTup (tCons (tVar 3) (tCons (tOp rMinus (tVar 4) (tVar 8)) tNil))) tNil)))
    tNext)))))
    (tRet (tOp (rPlus K) (tVar 7) (tVar 6))))))
def W__law_due (ds : List PyData) (R : PyData → Prop) : Prop := ∃ (s f : Int) (w : Nat) (T : List Int) (rs : List Run) (n : Nat), ds = [rlD s f w T, RD rs, .int n] ∧ Rl s f w T ∧ Ru s rs ∧ n ≤ 1000 ∧ rs.length * (n * (w - 1) + 2) ≤ 40000 ∧ (∀ p ∈ rs, p.2 < 2 ^ 1000) ∧ R (RD (runsTick s f w T rs n))
def t__law_due (K : PySem.W.Frag) : TS :=
  (tSeq (tAsg (tOp (rPlus K) (tOp rTimes (tVar 2) (tOp rMinus (tOp (rIx K) (tVar 0) (tC (.int 2))) (tC (.int 1)))) (tC (.int 2))) (gName 3))
    (tSeq (tAsg (tLc (iList K (tVar 1)) (gTup K 2 (gNames [5, 6])) tYes (tTup (tCons (tVar 5) (tCons (tCB rMin2A (tCons (tVar 6) (tCons (tVar 3) tNil))) tNil))) [5, 6]) (gName 4))
    (tSeq (tAsg (tCall (spP K W__law_rolled) [] E0 (tCons (tVar 4) tNil)) (gName 7))
    (tSeq (tFor (iRg1 (tCons (tVar 2) tNil)) (gName 8)
    (tAsg (tCall (spP K W__law_behind) [] E0 (tCons (tVar 0) (tCons (tVar 7) tNil))) (gName 7)))
    (tSeq (tPar 9 10 (tCons (tCB (rLenA K) (tCons (tVar 7) tNil)) (tCons (tOp rTimes (tVar 2) (tOp (rIx K) (tVar 0) (tC (.int 1)))) tNil)))
    (tSeq (tPar 11 12 (tCons (tLst tNil) (tCons (tC (.int 0)) tNil)))
    (tSeq (tFor (iZip K (tCons (tVar 1) (tCons (tVar 4) tNil))) (gTup K 2 (gNames [13, 14]))
    (tSeq (tFor (iRg1 (tCons (tOp (rIx K) (tVar 14) (tC (.int 1))) tNil)) (gName 8)
    (tSeq (tAsg (tOp (rPlus K) (tC (.int 1)) (tOp rTimes (tOp rMinus (tOp (rIx K) (tVar 13) (tC (.int 1))) (tOp (rIx K) (tVar 14) (tC (.int 1)))) (tCB rIntA (tCons (tOp (rEqU K) (tVar 8) (tC (.int 0))) tNil)))) (gName 6))
    (tDrop (tBM K "list" rAppend (tVar 11) (tCons (tTup (tCons (tOp (rIx K) (tVar 7) (tOp rModI (tCB rIntA (tCons (tOp rMinus (tOp (rPlus K) (tVar 12) (tVar 8)) (tVar 10)) tNil)) (tVar 9))) (tCons (tVar 6) tNil))) tNil)))))
    (tAsg (tOp (rPlus K) (tVar 12) (tOp (rIx K) (tVar 14) (tC (.int 1)))) (gName 12))))
    (tRet (tCall (spP K W__law_merged) [] E0 (tCons (tCall (spP K W__law_turned) [] E0 (tCons (tVar 11) (tCons (tVar 10) tNil))) tNil))))))))))
end Cf
namespace Cf
open PySem PySem.Spec PyProof.Rows L2
section
variable {M : Model} {A : Around} {E : Value → Shared → Prop}
end

/-- the iterators of a zip -/
def itRefs (z0 n : Nat) : List Value := (List.range n).map fun j => Value.ref (z0 + j)
end Cf
namespace Cf
open PySem PySem.Spec PyProof.Rows L2
section
variable {prog : Program} {w : World} {A : Around} {E : Value → Shared → Prop} {s : Shared}
abbrev IsZipN (h : Heap) (z TI TO : Addr) (f0 : Value) (f1 : Bool) : Prop := h.get? z = some { cls := .type "zip", dict := none, data := .fields #[f0, .bool f1, .bool false, .ref TI, .ref TO], slots := #[] }
abbrev IsTupN (h : Heap) (T : Addr) (vs : List Value) : Prop := h.get? T = some { cls := .type "tuple", data := .seq vs.toArray }
structure ZA (z TI TO : Addr) (is ls : List Addr) : Prop where
  TIz : TI ≠ z
  TOz : TO ≠ z
  TITO : TI ≠ TO
  iz : ∀ i ∈ is, i ≠ z ∧ i ≠ TI ∧ i ≠ TO
  nd : is.Nodup
  lz : ∀ l ∈ ls, l ≠ z ∧ l ≠ TO ∧ ∀ i ∈ is, l ≠ i
  len : is.length = ls.length
  ne : is ≠ []
/-- the lists and their iterators -/
structure ZL (h : Heap) (is ls : List Addr) (xss : List (Array Value)) (k : Nat) : Prop where
  it : ∀ (j : Nat) (i l : Addr), is[j]? = some i → ls[j]? = some l → h.IsListIter i l k
  ll : ∀ (j : Nat) (l : Addr) (xs : Array Value), ls[j]? = some l → xss[j]? = some xs → h.IsList l xs
end
end Cf
namespace Cf
open PySem PySem.Spec PyProof.Rows L2
section
variable {prog : Program} {w : World} {A : Around} {E : Value → Shared → Prop} {s : Shared}
end
end Cf
namespace Cf
open PySem PySem.Spec PyProof.Rows L2
section
variable {prog : Program} {w : World} {A : Around} {E : Value → Shared → Prop} {s : Shared}
/-- what a zip keeps of the tuple that it handed out -/
def F0 (f0 : Value) : Prop := f0 = .none ∨ ∃ T : Addr, f0 = rawInt T
end
/-- lists of values as they stand at ls -/
def RowsAt (K : PySem.W.Frag) (H : Hp) (ls : List Addr) (rows : List (List V)) : Prop := rows.length = ls.length ∧ ∀ (j : Nat) (l : Addr) (xs : List V), ls[j]? = some l → rows[j]? = some xs → SqL K H l xs
def ColAt (rows : List (List V)) (i : Nat) (us : List V) : Prop := us.length = rows.length ∧ ∀ (j : Nat) (xs : List V) (u : V), rows[j]? = some xs → us[j]? = some u → xs[i]? = some u
def ItzN (K : PySem.W.Frag) (ls : List Addr) : It :=
  ⟨fun i H => ∃ rows us, RowsAt K H ls rows ∧ ColAt rows i us,
    fun i H v H' => ∃ T us, v = .ref T ∧ H T = none ∧ H' = upd H T (.tup us) ∧ ∀ rows, RowsAt K H ls rows → ColAt rows i us,
    fun i H => ∃ rows, RowsAt K H ls rows ∧ ∀ xs, rows[0]? = some xs → xs.length ≤ i⟩
section
variable {X : Cx} {pins : List (Addr × Obj)} {σ : L2.St} {H : Hp} {s : Shared}
end
/-- zip(*e), e a list of lists -/
def iZipS (K : PySem.W.Frag) (te : TE) : TI := fun σ H R => te σ H fun x H1 => ∃ (a : Addr) (ls : List Addr) (rows : List (List V)), x = .ref a ∧ SqL K H1 a (ls.map V.ref) ∧ RowsAt K H1 ls rows ∧ ls ≠ [] ∧ ls.length ≤ 100000 ∧ R (ItzN K ls) H1
end Cf
namespace Cf
open PySem PySem.Spec PyProof.Rows L2
open Evl (Ex)
section
variable {K : PySem.W.Frag} {t : Option Addr} {ρ : Rho} {i : Nat} {te : TE}
/-- the k-th items of the rows -/
def colD (rows : List (List PyData)) (k : Nat) : List PyData := rows.map fun r => r.getD k .none
/-- a new tuple of the k-th items -/
def YCol (rows : List (List V)) : Nat → Hp → V → Hp → Prop := fun k H v H' => ∃ T us, v = .ref T ∧ H T = none ∧ H' = upd H T (.tup us) ∧ ColAt rows k us
theorem RowsAt.up {F F' : Hp} (e : Ex F F') {ls : List Addr} {rs : List (List V)} (h : RowsAt K F ls rs) : RowsAt K F' ls rs := ⟨h.1, fun j l xs hl hx => Evl.ex_l e (h.2 j l xs hl hx)⟩
end
end Cf
namespace Cf
open PySem PySem.Spec PyProof.Rows L2
open Evl (Ex)
/-! ### max, min of a list or a tuple of ints; gcd -/
def lmax : List Int → Int
  | [] => 0
  | x :: xs => xs.foldl max x
def lmin : List Int → Int
  | [] => 0
  | x :: xs => xs.foldl min x
theorem lmax_spec : ∀ (xs : List Int) (x : Int), xs.foldl max x ∈ x :: xs ∧ ∀ y ∈ x :: xs, y ≤ xs.foldl max x
  | [], x => ⟨List.mem_cons_self, fun y hy => by
    rw [List.mem_singleton.mp hy]
    exact Int.le_refl _⟩
  | z :: xs, x => by
    obtain ⟨h1, h2⟩ := lmax_spec xs (max x z)
    rw [List.foldl_cons]
    have hb : max x z = x ∨ max x z = z := by omega
    refine ⟨?_, fun y hy => ?_⟩
    · rcases List.mem_cons.mp h1 with q | q
      · rw [q]
        rcases hb with b | b <;> rw [b] <;> simp
      · exact List.mem_cons_of_mem _ (List.mem_cons_of_mem _ q)
    · have h0 := h2 _ List.mem_cons_self
      rcases List.mem_cons.mp hy with rfl | hy
      · omega
      · rcases List.mem_cons.mp hy with rfl | hy
        · omega
        · exact h2 y (List.mem_cons_of_mem _ hy)
theorem lmax_mem {xs : List Int} (h : xs ≠ []) : lmax xs ∈ xs := by
  cases xs with
  | nil => exact absurd rfl h
  | cons x xs => exact (lmax_spec xs x).1
def rMaxA (K : PySem.W.Frag) : List V → Hp → VK → Prop := fun vs H Q => ∃ (a : Addr) (ns : List Int), vs = [V.ref a] ∧ (SqL K H a (ns.map V.int) ∨ SqT K H a (ns.map V.int)) ∧ ns ≠ [] ∧ Q (.int (lmax ns)) H
def rMinA (K : PySem.W.Frag) : List V → Hp → VK → Prop := fun vs H Q => ∃ (a : Addr) (ns : List Int), vs = [V.ref a] ∧ (SqL K H a (ns.map V.int) ∨ SqT K H a (ns.map V.int)) ∧ ns ≠ [] ∧ Q (.int (lmin ns)) H
theorem alike_ints (ns : List Int) : PySem.W.AlikeAll (ns.map .int) := by
  refine ⟨fun x hx y hy => ?_, fun x hx => ?_⟩
  · obtain ⟨a, _, rfl⟩ := List.mem_map.mp hx
    obtain ⟨b, _, rfl⟩ := List.mem_map.mp hy
    rfl
  · obtain ⟨a, _, rfl⟩ := List.mem_map.mp hx
    exact fun h => nomatch h
theorem depth_ints : ∀ ns : List Int, PyData.depthAll (ns.map .int) = 0
  | [] => by simp only [List.map_nil, PyData.depthAll]
  | n :: ns => by simp only [List.map_cons, PyData.depthAll, PyData.depth, depth_ints ns, Nat.max_self]
theorem call_maxA {X : Cx} (hc : X.calm = true) (hu : X.A.units + 64 < cLine) : CallR X (.builtin "max") (rMaxA X.K) := by
  intro pins s σ H vs us Q I r h
  obtain ⟨a, ns, rfl, hq, hne, q⟩ := h
  obtain ⟨n, ns, rfl⟩ : ∃ n ns', ns = n :: ns' := by
    cases ns with
    | nil => exact absurd rfl hne
    | cons n ns => exact ⟨n, ns, rfl⟩
  rw [Vals.ref1 r]
  have hd : X.A.units + 1 + PyData.depthAll (PyData.int n :: ns.map .int) < cLine := by
    have := depth_ints (n :: ns)
    rw [List.map_cons] at this
    omega
  have fin : ∀ {v : Value} {h' : Heap} {tk : Tok} {bs : List Addr}, Reads h' v (PySem.W.maxD (.int n) (ns.map .int)) bs → (∀ b o, s.heap.get? b = some o → h'.get? b = some o) → EP X pins σ Q v { s with heap := h', toks := tk } := fun {v h' tk bs} hr hk => by
    rw [PySem.W.maxD_ints] at hr
    cases hr
    exact ⟨.int _, H, I.kept (t' := tk) hk, ⟨_, rfl⟩, q⟩
  rcases hq with hq | hq
  · obtain ⟨its, rv, p, _⟩ := I.list hq
    obtain ⟨as, hr⟩ := dqs_reads I ((n :: ns).map .int) _ its Dqs.ofInts rv
    exact PySem.W.max_list_data (I.ok.hd hc) p.isList (by simpa using hr) (alike_ints (n :: ns)) hd fun i v h' tk bs _ hr hk => fin hr hk
  · obtain ⟨its, rv, p, _⟩ := I.tuple hq
    obtain ⟨as, hr⟩ := dqs_reads I ((n :: ns).map .int) _ its Dqs.ofInts rv
    exact PySem.W.max_tuple_data (I.ok.hd hc) p (by simpa using hr) (alike_ints (n :: ns)) hd fun i v h' tk bs _ hr hk => fin hr hk
section
variable {K : PySem.W.Frag} {Q : PyData → Prop}
theorem DC_maxA {xs : List PyData} (h : ∃ ns : List Int, (xs = [.list (ns.map .int)] ∨ xs = [.tuple (ns.map .int)]) ∧ ns ≠ [] ∧ Q (.int (lmax ns))) : DC K (rMaxA K) xs Q := fun vs F H e z QK k => by
  obtain ⟨ns, h, hne, q⟩ := h
  rcases h with rfl | rfl
  · obtain ⟨v, rfl, zx⟩ := dqs1 z
    cases zx with
    | @lst a ws _ s1 s2 =>
      rw [Dqs.ints s2] at s1
      exact ⟨a, ns, rfl, .inl (Evl.ex_l e s1), hne, k _ _ F H q (Gr.refl e) (.int _)⟩
  · obtain ⟨v, rfl, zx⟩ := dqs1 z
    cases zx with
    | @tup a ws _ s1 s2 =>
      rw [Dqs.ints s2] at s1
      exact ⟨a, ns, rfl, .inr (Evl.ex_t e s1), hne, k _ _ F H q (Gr.refl e) (.int _)⟩
end
end Cf
namespace Cg
open PySem PySem.Spec PyProof.Rows L2 Cf
open Evl (Ex)
local macro_rules | `(tactic| walk_at "d") => `(tactic| first
  | (with_reducible refine DS_seq ?_)
  | (with_reducible refine DS_if ?_)
  | (with_reducible refine DS_ret ?_)
  | (with_reducible refine DS_next ?_)
  | (with_reducible refine DS_retN ?_)
  | (with_reducible refine DS_set ?_)
  | (with_reducible refine DS_drop ?_)
  | (with_reducible refine DS_unpack ?_)
  | (with_reducible refine DS_par ?_)
  | (with_reducible refine DE_int ?_)
  | (with_reducible refine DE_bl ?_)
  | (with_reducible refine DE_non ?_)
  | (with_reducible refine DE_str ?_)
  | (with_reducible refine DE_isi ?_)
  | (with_reducible refine DE_and ?_)
  | (with_reducible refine DE_or ?_)
  | (with_reducible refine DE_not ?_)
  | (with_reducible refine DE_if ?_)
  | (with_reducible refine DE_chain ?_)
  | (with_reducible refine DE_call ?_)
  | ((with_reducible refine' DE_lenOw ?k1 ?_); (case k1 => exact rfl))
  | ((with_reducible refine' DE_reprOw ?k1 ?_); (case k1 => exact rfl))
  | ((with_reducible refine' DE_ixOw ?k1 ?_); (case k1 => exact rfl))
  | ((with_reducible refine' DE_lenOw ?k1 ?_); (case k1 => exact rfl))
  | (with_reducible refine DE_cb ?_)
  | (with_reducible refine DE_new (DL_rep (DL_lst ?_)))
  | (with_reducible refine DE_op ?_)
  | (with_reducible refine DE_un ?_)
  | (with_reducible refine DE_tup ?_)
  | (with_reducible refine DT_test ?_)
  | (with_reducible refine DT_B ?_)
  | (with_reducible refine DT_and ?_)
  | (with_reducible refine DT_or ?_)
  | (with_reducible refine DT_not ?_)
  | (with_reducible refine DT_yes ?_)
  | (with_reducible refine DA_nil ?_)
  | (with_reducible refine DA_cons ?_)
  | (with_reducible refine DO_no ?_)
  | (with_reducible refine DO_at ?_)
  | (with_reducible refine DR_minus ?_)
  | (with_reducible refine DR_mod ?_)
  | (with_reducible refine DR_div ?_)
  | (with_reducible refine DR_pow ?_)
  | (with_reducible refine DR_lt ?_)
  | (with_reducible refine DR_le ?_)
  | (with_reducible refine DR_gt ?_)
  | (with_reducible refine DR_ge ?_)
  | (with_reducible refine DR_eq ?_)
  | (with_reducible refine DR_ne ?_)
  | (with_reducible refine DR_isN ?_)
  | (with_reducible refine DR_notN ?_)
  | (with_reducible refine DU_neg ?_)
  | (with_reducible refine DC_len ?_)
  | (with_reducible refine DC_int ?_)
  | (with_reducible refine DC_abs ?_)
  | (with_reducible refine DC_max2 ?_)
  | (with_reducible refine DC_min2 ?_)
  | (with_reducible refine DC_sum ?_)
  | (with_reducible refine DC_all ?_)
  | (with_reducible refine DC_any ?_)
  | (with_reducible refine DC_repr ?_)
  | (with_reducible refine ⟨_, kb_int _, ?_⟩)
  | (with_reducible refine ⟨_, kb_bool _, ?_⟩)
  | (with_reducible refine ⟨_, kb_list _, ?_⟩)
  | (with_reducible refine ⟨_, kb_tuple _, ?_⟩)
  | (with_reducible refine ⟨_, rfl, ?_⟩)
  | (with_reducible refine ⟨_, _, rfl, rfl, ?_⟩)
  | (with_reducible refine DR_notB ?_)
  | (with_reducible refine DE_emp ?_)
  | (with_reducible refine DE_new (DL_lst ?_))
  | (with_reducible refine DE_new (DL_callF ?_))
  | (with_reducible refine DE_new (DL_sl ?_))
  | (with_reducible refine DC_list ?_)
  | ((with_reducible refine' DE_callC ?hb ?hw ?k1 ?_); (case hb => exact rfl); (case hw => decide +kernel); (case k1 => exact rfl))
  | ((with_reducible refine' DE_var ?k1 ?_); (case k1 => exact rfl)))


abbrev w__law_table : Nat := 2 ^ 100
def W__law_table (ds : List PyData) (R : PyData → Prop) : Prop := ∃ (s : Int) (w : Nat), ds = [.int s, .int w] ∧ 2 ≤ s ∧ s ≤ 4 ∧ 1 ≤ w ∧ s ^ w ≤ 1024 ∧ ∀ T : List Int, Signs s T → s ^ w = (T.length : Int) → R (LI T)
def t__law_table (K : PySem.W.Frag) : TS :=
  (tSeq (tPar3 3 4 5 (tCons (tCall (spC K true w__law_coin W__law_coin) [] E0 (tCons (tVar 0) (tCons (tC (.int 5)) tNil))) (tCons (tCall (spC K true w__law_coin W__law_coin) [] E0 (tCons (tVar 0) (tCons (tVar 2) tNil))) (tCons (tLst tNil) tNil))))
    (tSeq (tFor (iRg1 (tCons (tCall (spP K W__law_power) [] E0 (tCons (tVar 1) (tCons (tVar 2) tNil))) tNil)) (gName 6)
    (tSeq (tAsg (tLc (iRg1 (tCons (tVar 2) tNil)) (gName 8) tYes (tOp rModI (tCB rIntA (tCons (tOp rDivI (tVar 6) (tCall (spP K W__law_power) [] E0 (tCons (tVar 1) (tCons (tVar 8) tNil)))) tNil)) (tVar 1)) [8]) (gName 7))
    (tSeq (tAsg (tLst (tCons (tCall (spC K true w__law_coin W__law_coin) [] E0 (tCons (tVar 0) (tCons (tVar 1) tNil))) (tCons (tC (.int 0)) (tCons (tOp (rIx K) (tVar 7) (tVar 4)) (tCons (tOp rModI (tCB rIntA (tCons (tCB (rSum K) (tCons (tVar 7) tNil)) tNil)) (tVar 1)) (tCons (tCB (rMaxA K) (tCons (tVar 7) tNil)) tNil)))))) (gName 9))
    (tSeq (tIfS (tAnd (tTest (tOp (rEqU K) (tVar 3) (tC (.int 1)))) (tTest (tOp (rEqU K) (tCall (spC K true w__law_coin W__law_coin) [] E0 (tCons (tVar 0) (tCons (tC (.int 4)) tNil))) (tC (.int 0)))))
    (tAsg (tCall (spC K true w__law_coin W__law_coin) [] E0 (tCons (tVar 0) (tCons (tVar 1) tNil))) (gSub (tVar 9) (tC (.int 1)) rSetL))
    tNext)
    (tDrop (tBM K "list" rAppend (tVar 5) (tCons (tOp (rIx K) (tVar 9) (tVar 3)) tNil)))))))
    (tRet (tVar 5))))
theorem ds__law_table : KeepsC true w__law_table W__law_table 10 t__law_table := by
  intro K a ds R h
  obtain ⟨s, w, rfl, s2, s4, w1, sw, q⟩ := h
  have hp : 0 < s := by omega
  have w10 := two_pow_le s2 w
  have ww : w ≤ 10 := by
    have : Wt s w (List.replicate (s ^ w).toNat 0) := ⟨s2, s4, w1, sw, by have := pow_pos' hp w; rw [List.length_replicate]; omega⟩
    exact this.small
  refine ⟨by simp, ?_⟩
  show DS K _ _ (t__law_table K) [.tp, .sh (.int s), .sh (.int w), .no, .no, .no, .no, .no, .no, .no] _ _ _ _
  unfold t__law_table
  refine DS_seq (DS_par3Ow ?_)
  repeat walk_at "d"
  refine ⟨5, rfl, by decide, big_lt (by decide), fun way y0 y1 => ?_⟩
  repeat walk_at "d"
  refine ⟨w, rfl, by omega, big_lt (by omega), fun spot p0 p1 => ?_⟩
  refine DL_lst (DA_nil ⟨by simp, ?_⟩)
  have pl := pow_pos' hp w
  refine DS_seq (DS_forR1 ?_)
  repeat walk_at "d"
  refine ⟨s, w, rfl, by omega, by omega, ?_⟩
  repeat walk_at "d"
  refine ⟨by omega, fun k ρ => ∃ (ns : List Int) (z6 z7 z8 z9 : Sl), ns.length = k ∧ Signs s ns ∧ ρ = [.tp, .sh (.int s), .sh (.int w), .sh (.int way), .sh (.int spot), .ow (ns.map .int), z6, z7, z8, z9], ⟨[], .no, .no, .no, .no, rfl, by simp [Signs], rfl⟩, ?_, ?_⟩
  · rintro k ρ hk ⟨ns, z6, z7, z8, z9, hn, hv, rfl⟩
    repeat walk_at "d"
    refine DE_new (DL_intsR1 (P := fun m => 0 ≤ m ∧ m < s) ?_)
    repeat walk_at "d"
    refine ⟨by omega, fun x hx => ?_, fun us ul up => ?_⟩
    · repeat walk_at "d"
      refine ⟨s, x, rfl, by omega, by omega, ?_⟩
      have px := pow_pos' hp x
      have pxm : s ^ x ≤ s ^ w := pow_mono (by omega) (by omega)
      refine DR_div ⟨_, _, rfl, rfl, wide_any px (big_lt (by omega)), ?_⟩
      repeat walk_at "d"
      refine .inl ⟨_, rfl, ?_⟩
      repeat walk_at "d"
      exact ⟨by omega, _, rfl, Int.emod_nonneg _ (by omega), Int.emod_lt_of_pos _ hp⟩
    · refine DS_seq (DS_setOw (DL_lst ?_))
      repeat walk_at "d"
      refine ⟨s, rfl, by omega, big_lt (by omega), fun c0 c00 c01 => ?_⟩
      repeat walk_at "d"
      refine DR_ix (.inl ⟨_, _, _, rfl, rfl, atI_ok p0 (by omega), ?_⟩)
      obtain ⟨d0, d1⟩ : 0 ≤ us.getD spot.toNat 0 ∧ us.getD spot.toNat 0 < s := by
        rw [List.getD_eq_getElem?_getD, List.getElem?_eq_getElem (show spot.toNat < us.length by omega)]
        exact up _ (List.getElem_mem _)
      generalize us.getD spot.toNat 0 = b at d0 d1 ⊢
      repeat walk_at "d"
      refine .inl ⟨_, rfl, ?_⟩
      repeat walk_at "d"
      refine ⟨hp, ?_⟩
      have c0' := Int.emod_nonneg us.sum (show s ≠ 0 by omega)
      have c1' := Int.emod_lt_of_pos us.sum hp
      generalize us.sum % s = c at c0' c1' ⊢
      have un : us ≠ [] := fun e => by
        rw [e] at ul
        simp at ul
        omega
      have um := up _ (lmax_mem un)
      repeat walk_at "d"
      refine DC_maxA ⟨us, .inl rfl, un, ?_⟩
      generalize lmax us = m at um ⊢
      repeat walk_at "d"
      refine ⟨by simp, ?_⟩
      have el : ([PyData.int c0, .int 0, .int b, .int c, .int m] : List PyData) = ([c0, 0, b, c, m] : List Int).map .int := rfl
      rw [el]
      have sg : Signs s [c0, 0, b, c, m] := fun d hd => by
        simp only [List.mem_cons, List.not_mem_nil, or_false] at hd
        rcases hd with rfl | rfl | rfl | rfl | rfl <;> omega
      have tail : ∀ (β : Nat) (vs : List Int) (z8 : Sl), vs.length = 5 → Signs s vs → DS K ⟨a, true⟩ β (tDrop (tBM K "list" rAppend (tVar 5) (tCons (tOp (rIx K) (tVar 9) (tVar 3)) tNil))) [.tp, .sh (.int s), .sh (.int w), .sh (.int way), .sh (.int spot), .ow (ns.map .int), .sh (.int (0 + (k : Int))), .sh (LI us), z8, .ow (vs.map .int)] (fun ρ => ∃ (ns : List Int) (z6 z7 z8 z9 : Sl), ns.length = k + 1 ∧ Signs s ns ∧ ρ = [.tp, .sh (.int s), .sh (.int w), .sh (.int way), .sh (.int spot), .ow (ns.map .int), z6, z7, z8, z9]) R (fun _ => False) (fun _ => False) := by
        intro β vs z8 vl vsg
        refine DS_append (i := 5) (by rfl) (by rw [List.length_map]; omega) ?_
        repeat walk_at "d"
        refine ⟨way, _, rfl, atI_ok y0 (by omega), ns ++ [vs.getD way.toNat 0], .sh (.int (0 + (k : Int))), .sh (LI us), z8, .ow (vs.map .int), by simp [hn], ?_, ?_⟩
        · intro d hd
          rcases List.mem_append.mp hd with h | h
          · exact hv d h
          · rw [List.mem_singleton.mp h, List.getD_eq_getElem?_getD, List.getElem?_eq_getElem (show way.toNat < vs.length by omega)]
            exact vsg _ (List.getElem_mem _)
        · rw [List.map_append]
          rfl
      repeat walk_at "d"
      refine ⟨shp_int _, shp_int _, _, rfl, ite2 (fun h => ?_) fun h => ?_⟩
      · repeat walk_at "d"
        refine ⟨4, rfl, by decide, big_lt (by decide), fun v v0 v1 => ?_⟩
        repeat walk_at "d"
        refine ⟨shp_int _, shp_int _, _, rfl, ite2 (fun h => ?_) fun h => ?_⟩
        · refine DS_putAt (i := 9) (by rfl) ?_
          repeat walk_at "d"
          refine ⟨s, rfl, by omega, big_lt (by omega), fun c1 c10 c11 => ?_⟩
          refine DE_int ⟨1, 1, rfl, by rw [List.length_map]; rfl, ?_⟩
          refine (tail _ [c0, c1, b, c, m] _ rfl fun d hd => ?_).mono (fun _ h => h) (fun _ h => h) (fun _ h => h.elim) fun _ h => h.elim
          simp only [List.mem_cons, List.not_mem_nil, or_false] at hd
          rcases hd with rfl | rfl | rfl | rfl | rfl <;> omega
        · exact DS_next ((tail _ _ _ rfl sg).mono (fun _ h => h) (fun _ h => h) (fun _ h => h.elim) fun _ h => h.elim)
      · exact DS_next ((tail _ _ _ rfl sg).mono (fun _ h => h) (fun _ h => h) (fun _ h => h.elim) fun _ h => h.elim)
  · rintro ρ ⟨ns, z6, z7, z8, z9, hn, hv, rfl⟩
    exact DS_retOw (i := 5) (by rfl) (q ns hv (by omega))

abbrev w__law_rule : Nat := 2 ^ 200
def W__law_rule (ds : List PyData) (R : PyData → Prop) : Prop := ∃ (s : Int) (v : Nat), ds = [.int s, .int v] ∧ 2 ≤ s ∧ s ≤ 4 ∧ 1 ≤ v ∧ s ^ v ≤ 1024 ∧ ∀ (f : Int) (w : Nat) (T : List Int), Rl s f w T → w ≤ v → R (rlD s f w T)
def t__law_rule (K : PySem.W.Frag) : TS :=
  (tSeq (tAsg (tOp (rPlus K) (tC (.int 1)) (tCall (spC K true w__law_coin W__law_coin) [] E0 (tCons (tVar 0) (tCons (tVar 2) tNil)))) (gName 3))
    (tSeq (tAsg (tOp rMinus (tCall (spC K true w__law_coin W__law_coin) [] E0 (tCons (tVar 0) (tCons (tOp rMinus (tC (.int 202)) (tVar 3)) tNil))) (tC (.int 100))) (gName 4))
    (tSeq (tAsg (tOp (rIx K) (tLst (tCons (tC (.int 0)) (tCons (tUn rNegI (tC (.int 1))) (tCons (tOp rMinus (tC (.int 1)) (tVar 3)) (tCons (tOp rMinus (tCall (spC K true w__law_coin W__law_coin) [] E0 (tCons (tVar 0) (tCons (tC (.int 7)) tNil))) (tC (.int 3))) (tCons (tVar 4) tNil)))))) (tCall (spC K true w__law_coin W__law_coin) [] E0 (tCons (tVar 0) (tCons (tC (.int 5)) tNil)))) (gName 5))
    (tRet (tTup (tCons (tVar 1) (tCons (tVar 5) (tCons (tVar 3) (tCons (tCall (spC K true w__law_table W__law_table) [] E0 (tCons (tVar 0) (tCons (tVar 1) (tCons (tVar 3) tNil)))) tNil)))))))))
theorem ds__law_rule : KeepsC true w__law_rule W__law_rule 6 t__law_rule := by
  intro K a ds R h
  obtain ⟨s, v, rfl, s2, s4, v1, sv, q⟩ := h
  have hp : 0 < s := by omega
  have v10 := two_pow_le s2 v
  refine ⟨by simp, ?_⟩
  show DS K _ _ (t__law_rule K) [.tp, .sh (.int s), .sh (.int v), .no, .no, .no] _ _ _ _
  unfold t__law_rule
  repeat walk_at "d"
  refine ⟨v, rfl, by omega, big_lt (by omega), fun r r0 r1 => DR_plusI ⟨_, _, rfl, rfl, ?_⟩⟩
  obtain ⟨w, ew⟩ : ∃ w : Nat, 1 + r = (w : Int) := ⟨(1 + r).toNat, by omega⟩
  rw [ew]
  have sw : s ^ w ≤ 1024 := Int.le_trans (pow_mono (by omega) (by omega)) sv
  have pw := pow_pos' hp w
  have ww : w ≤ 10 := by
    have : Wt s w (List.replicate (s ^ w).toNat 0) := ⟨s2, s4, by omega, sw, by rw [List.length_replicate]; omega⟩
    exact this.small
  repeat walk_at "d"
  refine ⟨_, rfl, by omega, big_lt (by omega), fun x x0 x1 => ?_⟩
  repeat walk_at "d"
  refine ⟨7, rfl, by decide, big_lt (by decide), fun y y0 y1 => ?_⟩
  repeat walk_at "d"
  refine ⟨by simp, ?_⟩
  repeat walk_at "d"
  refine ⟨5, rfl, by decide, big_lt (by decide), fun z z0 z1 => ?_⟩
  obtain ⟨f, hf, f0, f1⟩ : ∃ f : Int, atI [PyData.int 0, .int (-1), .int (1 - (w : Int)), .int (y - 3), .int (x - 100)] z = some (.int f) ∧ -100 ≤ f ∧ f + w ≤ 101 := by
    have : z = 0 ∨ z = 1 ∨ z = 2 ∨ z = 3 ∨ z = 4 := by omega
    rcases this with rfl | rfl | rfl | rfl | rfl
    · exact ⟨0, rfl, by omega, by omega⟩
    · exact ⟨-1, rfl, by omega, by omega⟩
    · exact ⟨_, rfl, by omega, by omega⟩
    · exact ⟨_, rfl, by omega, by omega⟩
    · exact ⟨_, rfl, by omega, by omega⟩
  refine DR_ix (.inl ⟨_, _, _, rfl, rfl, hf, ?_⟩)
  repeat walk_at "d"
  refine ⟨s, w, rfl, s2, s4, by omega, sw, fun T hT hl => ?_⟩
  repeat walk_at "d"
  exact ⟨by simp, q f w T ⟨s2, s4, by omega, sw, hl, hT, f0, f1⟩ (by omega)⟩

theorem shw_rl {s f : Int} {w : Nat} {T : List Int} (h : Rl s f w T) : Shw 300000 2 (rlD s f w T) := by
  have e : (10 : Nat) ^ 45 = 1000000000000000000000000000000000000000000000 := rfl
  have s2 := h.s2
  have s4 := h.s4
  have f0 := h.f0
  have f1 := h.f1
  have tl := rl_len h
  have ww : w ≤ 10 := h.wt.small
  refine (shw_tuple (n := 67590) (k := 1) (ds := [.int s, .int f, .int w, LI T]) fun d hd => ?_).up (by show 4 * 67592 + 3 ≤ 300000; decide) (by decide)
  simp only [List.mem_cons, List.not_mem_nil, or_false] at hd
  rcases hd with rfl | rfl | rfl | rfl
  · exact (shw_int (by omega)).up (by decide) (by decide)
  · exact (shw_int (by omega)).up (by decide) (by decide)
  · exact (shw_int (by omega)).up (by decide) (by decide)
  · exact (shw_ints fun v hv => by have := h.ok v hv; omega).up (by omega) (by decide)

end Cg
/-! a, b, c = x, [], [] where a name is a cell: through a tuple -/
namespace Cg
open PySem PySem.Spec PyProof.Rows L2 Cf
open Evl (Ex)
section
variable {K : PySem.W.Frag} {α : Al} {β γ : Nat} {ρ : Rho} {i j : Nat} {d : PyData} {te ta tb tl : TE} {t1 t2 : TS} {N B C : Rho → Prop} {R : PyData → Prop}
theorem DE_slT {tl th : TO} {Q : PyData → Prop} (h : DE K α (β / 2) te ρ fun x => ∃ ds, x = .tuple ds ∧ DO K α (β / 2 / 2) tl ρ fun lo => DO K α (β / 2 / 2) th ρ fun hi =>
    ¬ (HT.sIx ds.length 0 lo = 0 ∧ HT.sIx ds.length ds.length hi = ds.length) ∧ Q (.tuple (Cf.cutD ds lo hi))) : DE K α β (tSl (rSlT K) te tl th) ρ Q := fun F0 H0 F H σ A QK k =>
  h F0 H0 F H σ A.h _ fun x v F1 H1 hb e1 q1 => by
    have A1 := A.nx e1
    obtain ⟨ds, rfl, hb⟩ := hb
    refine hb F0 H0 F1 H1 σ A1.h _ fun lo F2 H2 hc e2 => have A2 := A1.nx e2;  hc F0 H0 F2 H2 σ A2 _ fun hi F3 H3 q e3 => ?_
    have A3 := (A1.nx e2).st e3
    have q2 := (q1.up e2.ff).up e3.ff
    cases q2 with
    | @tup a xs _ s1 s2 =>
      refine ⟨a, xs, rfl, Evl.ex_t A3.fh s1, by rw [s2.len]; exact q.1, fun p n => ?_⟩
      have g := Gr.new A3.fh (o := .tup (cutV xs lo hi)) n
      exact k _ _ _ _ q.2 ((e1.two (e2.two e3)).pure g A3.tp.2) (.tup (.inl (.inl upd_same)) ((cutV_dqs lo hi s2).up g.ff))
end
end Cg
/-! dicts of a def's own: keys that are ints, keys that are tuples of ints -/
namespace Cf
open PySem PySem.Spec PyProof.Rows L2
open Evl (Ex)
/-! ### {k: v} with a tuple as its key -/
def tDispT (tk tv : TE) : TE := fun σ H Q => ∀ p, H p = none → tPairs [(tk, tv)] σ (upd H p (.dT [])) fun ps H2 => H2 p = some (.dT []) ∧ ∃ (b : Addr) (k : List Key) (v : V), ps = [(.ref b, v)] ∧ H2 b = some (.tup (k.map kV)) ∧ Q (.ref p) (upd H2 p (.dT [(k, v)]))
section
variable {κ : Type} [DecidableEq κ]
def valD (kvs : List (κ × PyData)) (k : κ) : Option PyData := (kvs.find? fun kv => decide (kv.1 = k)).map (·.2)
def putD (kvs : List (κ × PyData)) (k : κ) (d : PyData) : List (κ × PyData) :=
  if (kvs.any fun kv => decide (kv.1 = k)) = true then kvs.map (fun kv => if kv.1 = k then (kv.1, d) else kv) else kvs ++ [(k, d)]
variable {K : PySem.W.Frag} {F : Hp}
theorem Dkv.val : ∀ {kvs : List (κ × PyData)} {xs : List (κ × V)} (k : κ), Dkv K F kvs xs → (valD kvs k = none ∧ valV xs k = none) ∨ ∃ d v, valD kvs k = some d ∧ valV xs k = some v ∧ Dq K F d v
  | [], _, k, .nil => .inl ⟨rfl, rfl⟩
  | (k', d) :: kvs, (_, v) :: xs, k, .cons h1 h2 => by
    by_cases e : k' = k
    · exact .inr ⟨d, v, by simp [valD, List.find?_cons, e], by simp [valV, List.find?_cons, e], h1⟩
    · rcases Dkv.val k h2 with ⟨a, b⟩ | ⟨d', v', a, b, c⟩
      · exact .inl ⟨by rw [← a]; simp [valD, List.find?_cons, e], by rw [← b]; simp [valV, List.find?_cons, e]⟩
      · exact .inr ⟨d', v', by rw [← a]; simp [valD, List.find?_cons, e], by rw [← b]; simp [valV, List.find?_cons, e], c⟩
theorem Dkv.len : ∀ {kvs : List (κ × PyData)} {xs : List (κ × V)}, Dkv K F kvs xs → xs.length = kvs.length
  | [], _, .nil => rfl
  | _ :: _, _ :: _, .cons _ h => congrArg (· + 1) (Dkv.len h)
theorem Dkv.any : ∀ {kvs : List (κ × PyData)} {xs : List (κ × V)} (k : κ), Dkv K F kvs xs → (xs.any fun kv => decide (kv.1 = k)) = kvs.any fun kv => decide (kv.1 = k)
  | [], _, k, .nil => rfl
  | (k', d) :: kvs, (_, v) :: xs, k, .cons _ h => by
    rw [List.any_cons, List.any_cons, Dkv.any k h]
theorem Dkv.snoc : ∀ {kvs : List (κ × PyData)} {xs : List (κ × V)} {k : κ} {d : PyData} {v : V}, Dkv K F kvs xs → Dq K F d v → Dkv K F (kvs ++ [(k, d)]) (xs ++ [(k, v)])
  | [], _, _, _, _, .nil, q => .cons q .nil
  | _ :: _, _ :: _, _, _, _, .cons h1 h2, q => .cons h1 (Dkv.snoc h2 q)
theorem Dkv.repl : ∀ {kvs : List (κ × PyData)} {xs : List (κ × V)} {k : κ} {d : PyData} {v : V}, Dkv K F kvs xs → Dq K F d v → Dkv K F (kvs.map fun kv => if kv.1 = k then (kv.1, d) else kv) (xs.map fun kv => if kv.1 = k then (kv.1, v) else kv)
  | [], _, _, _, _, .nil, _ => .nil
  | (k', d') :: kvs, (_, v') :: xs, k, d, v, .cons h1 h2, q => by
    rw [List.map_cons, List.map_cons]
    by_cases e : k' = k
    · rw [if_pos e, if_pos e]
      exact .cons q (Dkv.repl h2 q)
    · rw [if_neg e, if_neg e]
      exact .cons h1 (Dkv.repl h2 q)
theorem Dkv.put {kvs : List (κ × PyData)} {xs : List (κ × V)} {k : κ} {d : PyData} {v : V} (h : Dkv K F kvs xs) (q : Dq K F d v) : Dkv K F (putD kvs k d) (putK xs k v) := by
  unfold putD putK
  rw [h.any k]
  split
  · exact h.repl q
  · exact h.snoc q
theorem valD_put (kvs : List (κ × PyData)) (k k' : κ) (d : PyData) : valD (putD kvs k d) k' = if k' = k then some d else valD kvs k' := by
  unfold putD
  split
  · rename_i h
    by_cases e : k' = k
    · subst e
      rw [if_pos rfl]
      induction kvs with
      | nil => simp at h
      | cons p r ih =>
        rw [List.map_cons]
        by_cases e2 : p.1 = k'
        · simp [valD, List.find?_cons, e2]
        · rw [if_neg e2]
          have h' : (r.any fun kv => decide (kv.1 = k')) = true := by simpa [e2] using h
          have := ih h'
          simpa [valD, List.find?_cons, e2] using this
    · rw [if_neg e]
      clear h
      induction kvs with
      | nil => rfl
      | cons p r ih =>
        rw [List.map_cons]
        by_cases e2 : p.1 = k
        · have e3 : ¬ k = k' := fun z => e z.symm
          simp only [e2, if_true, valD, List.find?_cons, e3, decide_false]
          simpa [valD] using ih
        · rw [if_neg e2]
          by_cases e3 : p.1 = k'
          · simp [valD, List.find?_cons, e3]
          · simp only [valD, List.find?_cons, e3, decide_false]
            simpa [valD] using ih
  · rename_i h
    have hn : ∀ kv ∈ kvs, kv.1 ≠ k := fun kv hk e => by
      simp at h
      exact h kv.2 (by rw [← e]; exact hk)
    clear h
    induction kvs with
    | nil =>
      by_cases e : k' = k
      · subst e
        simp [valD]
      · have e3 : ¬ k = k' := fun z => e z.symm
        simp [valD, e, e3]
    | cons p r ih =>
      have ih := ih fun kv h => hn kv (List.mem_cons_of_mem _ h)
      by_cases e3 : p.1 = k'
      · have : ¬ k' = k := fun z => hn p List.mem_cons_self (e3.trans z)
        rw [if_neg this]
        simp [valD, List.find?_cons, e3]
      · simp only [List.cons_append, valD, List.find?_cons, e3, decide_false]
        simpa [valD] using ih
theorem putD_length (kvs : List (κ × PyData)) (k : κ) (d : PyData) : (putD kvs k d).length ≤ kvs.length + 1 := by
  unfold putD
  split <;> simp
end
section
variable {K : PySem.W.Frag} {t : Option Addr} {ρ : Rho} {i j : Nat} {d : PyData} {te ta tb tl : TE} {t1 t2 : TS} {N B C : Rho → Prop} {R : PyData → Prop}
end
end Cf
namespace Cf
open PySem PySem.Spec PyProof.Rows L2
open Evl (Ex)
local macro_rules | `(tactic| walk_at "d") => `(tactic| first
  | (with_reducible refine DS_seq ?_)
  | (with_reducible refine DS_if ?_)
  | (with_reducible refine DS_ret ?_)
  | (with_reducible refine DS_next ?_)
  | (with_reducible refine DS_retN ?_)
  | (with_reducible refine DS_set ?_)
  | (with_reducible refine DS_drop ?_)
  | (with_reducible refine DS_unpack ?_)
  | (with_reducible refine DS_par ?_)
  | (with_reducible refine DE_int ?_)
  | (with_reducible refine DE_bl ?_)
  | (with_reducible refine DE_non ?_)
  | (with_reducible refine DE_str ?_)
  | (with_reducible refine DE_isi ?_)
  | (with_reducible refine DE_and ?_)
  | (with_reducible refine DE_or ?_)
  | (with_reducible refine DE_not ?_)
  | (with_reducible refine DE_if ?_)
  | (with_reducible refine DE_chain ?_)
  | (with_reducible refine DE_tyIs ?_)
  | (with_reducible refine DE_tyNot ?_)
  | (with_reducible refine DE_call ?_)
  | ((with_reducible refine' DE_lenOw ?k1 ?_); (case k1 => exact rfl))
  | ((with_reducible refine' DE_reprOw ?k1 ?_); (case k1 => exact rfl))
  | ((with_reducible refine' DE_ixOw ?k1 ?_); (case k1 => exact rfl))
  | ((with_reducible refine' DE_lenOw ?k1 ?_); (case k1 => exact rfl))
  | (with_reducible refine DE_cb ?_)
  | (with_reducible refine DE_new (DL_rep (DL_lst ?_)))
  | (with_reducible refine DE_op ?_)
  | (with_reducible refine DE_un ?_)
  | (with_reducible refine DE_tup ?_)
  | (with_reducible refine DT_test ?_)
  | (with_reducible refine DT_B ?_)
  | (with_reducible refine DT_and ?_)
  | (with_reducible refine DT_or ?_)
  | (with_reducible refine DT_not ?_)
  | (with_reducible refine DT_yes ?_)
  | (with_reducible refine DA_nil ?_)
  | (with_reducible refine DA_cons ?_)
  | (with_reducible refine DO_no ?_)
  | (with_reducible refine DO_at ?_)
  | (with_reducible refine DR_minus ?_)
  | (with_reducible refine DR_mod ?_)
  | (with_reducible refine DR_div ?_)
  | (with_reducible refine DR_pow ?_)
  | (with_reducible refine DR_lt ?_)
  | (with_reducible refine DR_le ?_)
  | (with_reducible refine DR_gt ?_)
  | (with_reducible refine DR_ge ?_)
  | (with_reducible refine DR_eq ?_)
  | (with_reducible refine DR_ne ?_)
  | (with_reducible refine DR_isN ?_)
  | (with_reducible refine DR_notN ?_)
  | (with_reducible refine DU_neg ?_)
  | (with_reducible refine DC_len ?_)
  | (with_reducible refine DC_int ?_)
  | (with_reducible refine DC_abs ?_)
  | (with_reducible refine DC_max2 ?_)
  | (with_reducible refine DC_min2 ?_)
  | (with_reducible refine DC_sum ?_)
  | (with_reducible refine DC_all ?_)
  | (with_reducible refine DC_any ?_)
  | (with_reducible refine DC_repr ?_)
  | (with_reducible refine ⟨_, kb_int _, ?_⟩)
  | (with_reducible refine ⟨_, kb_bool _, ?_⟩)
  | (with_reducible refine ⟨_, kb_list _, ?_⟩)
  | (with_reducible refine ⟨_, kb_tuple _, ?_⟩)
  | (with_reducible refine ⟨_, rfl, ?_⟩)
  | (with_reducible refine ⟨_, _, rfl, rfl, ?_⟩)
  | (with_reducible refine DE_callN ?_)
  | (with_reducible refine DE_callX ?_)
  | (with_reducible refine DR_notB ?_)
  | (with_reducible refine DE_emp ?_)
  | (with_reducible refine DE_new (DL_lst ?_))
  | (with_reducible refine DE_new (DL_callF ?_))
  | (with_reducible refine DE_new (DL_sl ?_))
  | (with_reducible refine DE_slT ?_)
  | (with_reducible refine DC_list ?_)
  | ((with_reducible refine' DE_callT ?k1 ?_); (case k1 => exact rfl))
  | ((with_reducible refine' DE_var ?k1 ?_); (case k1 => exact rfl))
  | ((with_reducible refine' DE_varO ?k1 ?_); (case k1 => exact rfl))
  | ((with_reducible refine' DE_varN ?k1 ?_); (case k1 => exact rfl)))


/-! ticks: paths of rings -/
theorem tick_rg {s f : Int} {w : Nat} {T r : List Int} (hr : Rl s f w T) (h : Rg s r) : Rg s (tick s f w T r) :=
  ⟨fun e => h.ne (by
    have := tick_length s f w T r
    rw [e] at this
    exact List.length_eq_zero_iff.mp this.symm), by rw [tick_length]; exact h.le, tick_signs (by have := hr.s2; omega) hr.ok⟩
theorem tickI_rg {s f : Int} {w : Nat} {T r : List Int} (hr : Rl s f w T) (h : Rg s r) : ∀ n, Rg s (tickI s f w T n r)
  | 0 => h
  | n + 1 => tick_rg hr (tickI_rg hr h n)
def W_next_ring (ds : List PyData) (R : PyData → Prop) : Prop := ∃ (s f : Int) (w : Nat) (T r : List Int), ds = [rlD s f w T, LI r] ∧ Rl s f w T ∧ Rg s r ∧ R (LI (tick s f w T r))
def t_next_ring (K : PySem.W.Frag) : TS :=
  (tSeq (tAsg (tVar 0) (gTup K 4 (gNames [2, 3, 4, 5])))
    (tRet (tLc (iList K (tCall (spP K W_numbers_round) [] E0 (tCons (tVar 2) (tCons (tVar 4) (tCons (tVar 1) (tCons (tVar 3) tNil)))))) (gName 6) tYes (tOp (rIx K) (tVar 5) (tVar 6)) [6])))
def W_most_ticks (ds : List PyData) (R : PyData → Prop) : Prop := ∃ (s : Int) (r : List Int), ds = [.int s, LI r] ∧ 2 ≤ s ∧ s ≤ 4 ∧ R (.int (if s ^ r.length ≤ 65536 then 1000000000000000000000000000000 else 100))
def t_most_ticks (K : PySem.W.Frag) : TS :=
  (tSeq (tIfS (tTest (tOp rIsNone (tCall (spP K W_count_words) [] E0 (tCons (tVar 0) (tCons (tCB (rLenA K) (tCons (tVar 1) tNil)) (tCons (tC (.int 65536)) tNil)))) (tC .non)))
    (tRet (tC (.int 100)))
    tNext)
    (tRet (tC (.int 1000000000000000000000000000000))))
/-- the path of the rings behind 0 to m ticks -/
abbrev PT (s f : Int) (w : Nat) (T r : List Int) (m : Nat) : List PyData := (List.range (m + 1)).map fun i => LI (tickI s f w T i r)
/-- what a path's dict knows -/
def Seen (s f : Int) (w : Nat) (T r : List Int) (m : Nat) (kvs : List (List Key × PyData)) : Prop :=
  (∀ ks : List Int, (∃ j, j ≤ m ∧ valD kvs (ks.map Sum.inl) = some (.int (j : Int)) ∧ tickI s f w T j r = ks) ∨ (valD kvs (ks.map Sum.inl) = none ∧ ∀ j, j ≤ m → tickI s f w T j r ≠ ks)) ∧
  kvs.length ≤ m + 1 ∧ ∀ i j, i < j → j ≤ m → tickI s f w T i r ≠ tickI s f w T j r
theorem inl_inj {ks ks' : List Int} : ks.map (Sum.inl : Int → Key) = ks'.map Sum.inl ↔ ks = ks' := by
  constructor
  · intro h
    have := congrArg (List.map (fun k : Key => match k with | .inl z => z | .inr _ => 0)) h
    rw [List.map_map, List.map_map] at this
    simpa [Function.comp_def] using this
  · intro h
    rw [h]
theorem Seen.zero (s f : Int) (w : Nat) (T r : List Int) : Seen s f w T r 0 [(r.map Sum.inl, .int 0)] := by
  refine ⟨fun ks => ?_, by simp, fun i j h1 h2 => by omega⟩
  by_cases e : ks = r
  · subst e
    exact .inl ⟨0, Nat.le_refl _, by simp [valD], rfl⟩
  · refine .inr ⟨?_, fun j hj he => ?_⟩
    · have : ¬ r.map (Sum.inl : Int → Key) = ks.map Sum.inl := fun z => e (inl_inj.mp z).symm
      simp [valD, this]
    · obtain rfl : j = 0 := by omega
      exact e he.symm
theorem Seen.step {s f : Int} {w : Nat} {T r : List Int} {m : Nat} {kvs : List (List Key × PyData)} (h : Seen s f w T r m kvs) (hn : valD kvs ((tickI s f w T (m + 1) r).map Sum.inl) = none) : Seen s f w T r (m + 1) (putD kvs ((tickI s f w T (m + 1) r).map Sum.inl) (.int ((m + 1 : Nat) : Int))) := by
  obtain ⟨h1, h2, h3⟩ := h
  have hno : ∀ j, j ≤ m → tickI s f w T j r ≠ tickI s f w T (m + 1) r := by
    rcases h1 (tickI s f w T (m + 1) r) with ⟨j, _, e, _⟩ | ⟨_, e⟩
    · rw [hn] at e
      cases e
    · exact e
  refine ⟨fun ks => ?_, Nat.le_trans (putD_length _ _ _) (by omega), fun i j hi hj => ?_⟩
  · rw [valD_put]
    by_cases e : ks = tickI s f w T (m + 1) r
    · rw [if_pos (inl_inj.mpr e)]
      exact .inl ⟨m + 1, Nat.le_refl _, rfl, e.symm⟩
    · rw [if_neg fun z => e (inl_inj.mp z)]
      rcases h1 ks with ⟨j, hj, a, b⟩ | ⟨a, b⟩
      · exact .inl ⟨j, by omega, a, b⟩
      · refine .inr ⟨a, fun j hj => ?_⟩
        by_cases ej : j = m + 1
        · subst ej
          exact fun z => e z.symm
        · exact b j (by omega)
  · by_cases ej : j = m + 1
    · subst ej
      exact hno i (by omega)
    · exact h3 i j hi (by omega)
theorem pigeon' : ∀ (n : Nat) (f : Nat → Nat), (∀ i, i ≤ n → f i < n) → ∃ i j, i < j ∧ j ≤ n ∧ f i = f j
  | 0, f, h => absurd (h 0 (Nat.le_refl _)) (by omega)
  | n + 1, f, h => by
    by_cases hx : ∃ i, i ≤ n ∧ f i = f (n + 1)
    · obtain ⟨i, hi, e⟩ := hx
      exact ⟨i, n + 1, by omega, Nat.le_refl _, e⟩
    · have no : ∀ i, i ≤ n → f i ≠ f (n + 1) := fun i hi e => hx ⟨i, hi, e⟩
      have hv := h (n + 1) (Nat.le_refl _)
      obtain ⟨i, j, hij, hj, e⟩ := pigeon' n (fun i => if f i > f (n + 1) then f i - 1 else f i) fun i hi => by
        have h1 := h i (by omega)
        have h2 := no i hi
        show (if f i > f (n + 1) then f i - 1 else f i) < n
        split <;> omega
      refine ⟨i, j, hij, by omega, ?_⟩
      have h1 := no i (by omega)
      have h2 := no j hj
      have e : (if f i > f (n + 1) then f i - 1 else f i) = (if f j > f (n + 1) then f j - 1 else f j) := e
      split at e <;> split at e <;> omega
theorem Seen.small {s f : Int} {w : Nat} {T r : List Int} {m : Nat} {kvs : List (List Key × PyData)} (h : Seen s f w T r m kvs) (hr : Rl s f w T) (hg : Rg s r) (hb : s ^ r.length ≤ 65536) : m < 65536 := by
  have hs : 0 < s := by
    have := hr.s2
    omega
  apply Classical.byContradiction
  intro hm
  obtain ⟨i, j, hij, hj, e⟩ := pigeon' 65536 (fun i => (num s (tickI s f w T i r)).toNat) fun i hi => by
    have b := num_bound hs _ (tickI_rg hr hg i).ok
    rw [tickI_length] at b
    show (num s (tickI s f w T i r)).toNat < 65536
    omega
  have e : (num s (tickI s f w T i r)).toNat = (num s (tickI s f w T j r)).toNat := e
  have b1 := num_bound hs _ (tickI_rg hr hg i).ok
  have b2 := num_bound hs _ (tickI_rg hr hg j).ok
  have e : num s (tickI s f w T i r) = num s (tickI s f w T j r) := by omega
  have w1 := wordOf_num hs _ (tickI_rg hr hg i).ok
  have w2 := wordOf_num hs _ (tickI_rg hr hg j).ok
  rw [tickI_length] at w1 w2
  exact h.2.2 i j hij (by omega) (by rw [← w1, ← w2, e])

def W_ring_path (ds : List PyData) (R : PyData → Prop) : Prop := ∃ (s f : Int) (w : Nat) (T r : List Int) (n : Nat), ds = [rlD s f w T, LI r, .int n] ∧ Rl s f w T ∧ Rg s r ∧ (n ≤ 100 ∨ s ^ r.length ≤ 65536) ∧
  ∀ (m : Nat) (since : PyData), m ≤ 65536 → (∀ i j, i < j → j ≤ m → tickI s f w T i r ≠ tickI s f w T j r) → (since = .none ∧ m = n ∨ ∃ c : Nat, c ≤ m ∧ since = .int c ∧ m < n ∧ tickI s f w T (m + 1) r = tickI s f w T c r) → R (.tuple [.list (PT s f w T r m), since])
def t_ring_path (K : PySem.W.Frag) : TS :=
  (tSeq (tAsg (tLst (tCons (tCB (rListA K) (tCons (tVar 1) tNil)) tNil)) (gName 3))
    (tSeq (tAsg (tDispT (tThen (tVar 1) (kTup K)) (tC (.int 0))) (gName 4))
    (tSeq (tWhile (tTest (tOp rLeI (tCB (rLenA K) (tCons (tVar 3) tNil)) (tVar 2)))
    (tSeq (tAsg (tCall (spP K W_next_ring) [] E0 (tCons (tVar 0) (tCons (tOp (rIx K) (tVar 3) (tUn rNegI (tC (.int 1)))) tNil))) (gName 5))
    (tSeq (tAsg (tDGet1 (tVar 4) (tThen (tVar 5) (kTup K))) (gName 6))
    (tSeq (tIfS (tTest (tOp rNotNone (tVar 6) (tC .non)))
    (tRet (tTup (tCons (tVar 3) (tCons (tVar 6) tNil))))
    tNext)
    (tSeq (sDPut (tVar 4) (tThen (tVar 5) (kTup K)) (tCB (rLenA K) (tCons (tVar 3) tNil)))
    (tDrop (tBM K "list" rAppend (tVar 3) (tCons (tVar 5) tNil))))))))
    (tRet (tTup (tCons (tVar 3) (tCons (tC .non) tNil)))))))
def W_ring_on_path (ds : List PyData) (R : PyData → Prop) : Prop := ∃ (s f : Int) (w : Nat) (T r : List Int) (m n : Nat) (since : PyData), ds = [.list (PT s f w T r m), since, .int n] ∧ m ≤ 65536 ∧ (since = .none ∧ m = n ∨ ∃ c : Nat, c ≤ m ∧ since = .int c ∧ m < n ∧ tickI s f w T (m + 1) r = tickI s f w T c r) ∧ R (LI (tickI s f w T n r))
def t_ring_on_path (K : PySem.W.Frag) : TS :=
  (tSeq (tIfS (tTest (tOp rIsNone (tVar 1) (tC .non)))
    (tRet (tOp (rIx K) (tVar 0) (tVar 2)))
    tNext)
    (tRet (tOp (rIx K) (tVar 0) (tOp (rPlus K) (tVar 1) (tOp rModI (tOp rMinus (tVar 2) (tVar 1)) (tOp rMinus (tCB (rLenA K) (tCons (tVar 0) tNil)) (tVar 1)))))))
def W_ticked (ds : List PyData) (R : PyData → Prop) : Prop := ∃ (s f : Int) (w : Nat) (T r : List Int) (n : Nat), ds = [rlD s f w T, LI r, .int n] ∧ Rl s f w T ∧ Rg s r ∧ (n ≤ 100 ∨ s ^ r.length ≤ 65536 ∧ n ≤ 1000000000000000000000000000000) ∧ R (LI (tickI s f w T n r))
def t_ticked (K : PySem.W.Frag) : TS :=
  (tSeq (tDrop (tCall (spP K W_check_rule) [] E0 (tCons (tVar 0) tNil)))
    (tSeq (tDrop (tCall (spP K W_check_ring) [] E0 (tCons (tOp (rIx K) (tVar 0) (tC (.int 0))) (tCons (tVar 1) tNil))))
    (tSeq (tDrop (tCall (spP K W_check_ticks) [] E0 (tCons (tVar 2) (tCons (tCall (spP K W_most_ticks) [] E0 (tCons (tOp (rIx K) (tVar 0) (tC (.int 0))) (tCons (tVar 1) tNil))) tNil))))
    (tSeq (tAsg (tCall (spP K W_ring_path) [] E0 (tCons (tVar 0) (tCons (tVar 1) (tCons (tVar 2) tNil)))) (gTup K 2 (gNames [3, 4])))
    (tRet (tCall (spP K W_ring_on_path) [] E0 (tCons (tVar 3) (tCons (tVar 4) (tCons (tVar 2) tNil)))))))))
end Cf
namespace Cf
open PySem PySem.Spec PyProof.Rows L2
open Evl (Ex)
local macro_rules | `(tactic| walk_at "d") => `(tactic| first
  | (with_reducible refine DS_seq ?_)
  | (with_reducible refine DS_if ?_)
  | (with_reducible refine DS_ret ?_)
  | (with_reducible refine DS_next ?_)
  | (with_reducible refine DS_retN ?_)
  | (with_reducible refine DS_set ?_)
  | (with_reducible refine DS_drop ?_)
  | (with_reducible refine DS_unpack ?_)
  | (with_reducible refine DS_par ?_)
  | (with_reducible refine DE_int ?_)
  | (with_reducible refine DE_bl ?_)
  | (with_reducible refine DE_non ?_)
  | (with_reducible refine DE_str ?_)
  | (with_reducible refine DE_isi ?_)
  | (with_reducible refine DE_and ?_)
  | (with_reducible refine DE_or ?_)
  | (with_reducible refine DE_not ?_)
  | (with_reducible refine DE_if ?_)
  | (with_reducible refine DE_chain ?_)
  | (with_reducible refine DE_tyIs ?_)
  | (with_reducible refine DE_tyNot ?_)
  | (with_reducible refine DE_call ?_)
  | ((with_reducible refine' DE_lenOw ?k1 ?_); (case k1 => exact rfl))
  | ((with_reducible refine' DE_reprOw ?k1 ?_); (case k1 => exact rfl))
  | ((with_reducible refine' DE_ixOw ?k1 ?_); (case k1 => exact rfl))
  | ((with_reducible refine' DE_lenOw ?k1 ?_); (case k1 => exact rfl))
  | (with_reducible refine DE_cb ?_)
  | (with_reducible refine DE_new (DL_rep (DL_lst ?_)))
  | (with_reducible refine DE_op ?_)
  | (with_reducible refine DE_un ?_)
  | (with_reducible refine DE_tup ?_)
  | (with_reducible refine DT_test ?_)
  | (with_reducible refine DT_B ?_)
  | (with_reducible refine DT_and ?_)
  | (with_reducible refine DT_or ?_)
  | (with_reducible refine DT_not ?_)
  | (with_reducible refine DT_yes ?_)
  | (with_reducible refine DA_nil ?_)
  | (with_reducible refine DA_cons ?_)
  | (with_reducible refine DO_no ?_)
  | (with_reducible refine DO_at ?_)
  | (with_reducible refine DR_minus ?_)
  | (with_reducible refine DR_mod ?_)
  | (with_reducible refine DR_div ?_)
  | (with_reducible refine DR_pow ?_)
  | (with_reducible refine DR_lt ?_)
  | (with_reducible refine DR_le ?_)
  | (with_reducible refine DR_gt ?_)
  | (with_reducible refine DR_ge ?_)
  | (with_reducible refine DR_eq ?_)
  | (with_reducible refine DR_ne ?_)
  | (with_reducible refine DR_isN ?_)
  | (with_reducible refine DR_notN ?_)
  | (with_reducible refine DU_neg ?_)
  | (with_reducible refine DC_len ?_)
  | (with_reducible refine DC_int ?_)
  | (with_reducible refine DC_abs ?_)
  | (with_reducible refine DC_max2 ?_)
  | (with_reducible refine DC_min2 ?_)
  | (with_reducible refine DC_sum ?_)
  | (with_reducible refine DC_all ?_)
  | (with_reducible refine DC_any ?_)
  | (with_reducible refine DC_repr ?_)
  | (with_reducible refine ⟨_, kb_int _, ?_⟩)
  | (with_reducible refine ⟨_, kb_bool _, ?_⟩)
  | (with_reducible refine ⟨_, kb_list _, ?_⟩)
  | (with_reducible refine ⟨_, kb_tuple _, ?_⟩)
  | (with_reducible refine ⟨_, rfl, ?_⟩)
  | (with_reducible refine ⟨_, _, rfl, rfl, ?_⟩)
  | (with_reducible refine DE_callN ?_)
  | (with_reducible refine DE_callX ?_)
  | (with_reducible refine DR_notB ?_)
  | (with_reducible refine DE_emp ?_)
  | (with_reducible refine DE_new (DL_lst ?_))
  | (with_reducible refine DE_new (DL_callF ?_))
  | (with_reducible refine DE_new (DL_sl ?_))
  | (with_reducible refine DE_slT ?_)
  | (with_reducible refine DC_list ?_)
  | ((with_reducible refine' DE_callT ?k1 ?_); (case k1 => exact rfl))
  | ((with_reducible refine' DE_var ?k1 ?_); (case k1 => exact rfl))
  | ((with_reducible refine' DE_varO ?k1 ?_); (case k1 => exact rfl))
  | ((with_reducible refine' DE_varN ?k1 ?_); (case k1 => exact rfl)))


/-! runs of rings behind ticks -/
abbrev onesR (r : List Int) : List Run := r.map fun x => (x, 1)
def W__law_grouped (ds : List PyData) (R : PyData → Prop) : Prop := ∃ (r : List Int), ds = [LI r] ∧ r.length < 100000 ∧ R (RD (mrg (onesR r)))
def t__law_grouped (K : PySem.W.Frag) : TS :=
  (tSeq (tAsg (tLst tNil) (gName 1))
    (tSeq (tFor (iList K (tVar 0)) (gName 2)
    (tIfS (tAnd (tTest (tOp (rNeU K) (tVar 1) (tLst tNil))) (tTest (tOp (rEqU K) (tOp (rIx K) (tOp (rIx K) (tVar 1) (tUn rNegI (tC (.int 1)))) (tC (.int 0))) (tVar 2))))
    (tAsg (tTup (tCons (tVar 2) (tCons (tOp (rPlus K) (tOp (rIx K) (tOp (rIx K) (tVar 1) (tUn rNegI (tC (.int 1)))) (tC (.int 1))) (tC (.int 1))) tNil))) (gSub (tVar 1) (tUn rNegI (tC (.int 1))) rSetL))
    (tDrop (tBM K "list" rAppend (tVar 1) (tCons (tTup (tCons (tVar 2) (tCons (tC (.int 1)) tNil))) tNil)))))
    (tRet (tVar 1))))
end Cf
namespace Cf
open PySem PySem.Spec PyProof.Rows L2
open Evl (Ex)
local macro_rules | `(tactic| walk_at "d") => `(tactic| first
  | (with_reducible refine DS_seq ?_)
  | (with_reducible refine DS_if ?_)
  | (with_reducible refine DS_ret ?_)
  | (with_reducible refine DS_next ?_)
  | (with_reducible refine DS_retN ?_)
  | (with_reducible refine DS_set ?_)
  | (with_reducible refine DS_drop ?_)
  | (with_reducible refine DS_unpack ?_)
  | (with_reducible refine DS_par ?_)
  | (with_reducible refine DE_int ?_)
  | (with_reducible refine DE_bl ?_)
  | (with_reducible refine DE_non ?_)
  | (with_reducible refine DE_str ?_)
  | (with_reducible refine DE_isi ?_)
  | (with_reducible refine DE_and ?_)
  | (with_reducible refine DE_or ?_)
  | (with_reducible refine DE_not ?_)
  | (with_reducible refine DE_if ?_)
  | (with_reducible refine DE_chain ?_)
  | (with_reducible refine DE_tyIs ?_)
  | (with_reducible refine DE_tyNot ?_)
  | (with_reducible refine DE_call ?_)
  | ((with_reducible refine' DE_lenOw ?k1 ?_); (case k1 => exact rfl))
  | ((with_reducible refine' DE_reprOw ?k1 ?_); (case k1 => exact rfl))
  | ((with_reducible refine' DE_ixOw ?k1 ?_); (case k1 => exact rfl))
  | ((with_reducible refine' DE_lenOw ?k1 ?_); (case k1 => exact rfl))
  | (with_reducible refine DE_cb ?_)
  | (with_reducible refine DE_new (DL_rep (DL_lst ?_)))
  | (with_reducible refine DE_op ?_)
  | (with_reducible refine DE_un ?_)
  | (with_reducible refine DE_tup ?_)
  | (with_reducible refine DT_test ?_)
  | (with_reducible refine DT_B ?_)
  | (with_reducible refine DT_and ?_)
  | (with_reducible refine DT_or ?_)
  | (with_reducible refine DT_not ?_)
  | (with_reducible refine DT_yes ?_)
  | (with_reducible refine DA_nil ?_)
  | (with_reducible refine DA_cons ?_)
  | (with_reducible refine DO_no ?_)
  | (with_reducible refine DO_at ?_)
  | (with_reducible refine DR_minus ?_)
  | (with_reducible refine DR_mod ?_)
  | (with_reducible refine DR_div ?_)
  | (with_reducible refine DR_pow ?_)
  | (with_reducible refine DR_lt ?_)
  | (with_reducible refine DR_le ?_)
  | (with_reducible refine DR_gt ?_)
  | (with_reducible refine DR_ge ?_)
  | (with_reducible refine DR_eq ?_)
  | (with_reducible refine DR_ne ?_)
  | (with_reducible refine DR_isN ?_)
  | (with_reducible refine DR_notN ?_)
  | (with_reducible refine DU_neg ?_)
  | (with_reducible refine DC_len ?_)
  | (with_reducible refine DC_int ?_)
  | (with_reducible refine DC_abs ?_)
  | (with_reducible refine DC_max2 ?_)
  | (with_reducible refine DC_min2 ?_)
  | (with_reducible refine DC_sum ?_)
  | (with_reducible refine DC_all ?_)
  | (with_reducible refine DC_any ?_)
  | (with_reducible refine DC_repr ?_)
  | (with_reducible refine ⟨_, kb_int _, ?_⟩)
  | (with_reducible refine ⟨_, kb_bool _, ?_⟩)
  | (with_reducible refine ⟨_, kb_list _, ?_⟩)
  | (with_reducible refine ⟨_, kb_tuple _, ?_⟩)
  | (with_reducible refine ⟨_, rfl, ?_⟩)
  | (with_reducible refine ⟨_, _, rfl, rfl, ?_⟩)
  | (with_reducible refine DE_callN ?_)
  | (with_reducible refine DE_callX ?_)
  | (with_reducible refine DR_notB ?_)
  | (with_reducible refine DE_emp ?_)
  | (with_reducible refine DE_new (DL_lst ?_))
  | (with_reducible refine DE_new (DL_callF ?_))
  | (with_reducible refine DE_new (DL_sl ?_))
  | (with_reducible refine DE_slT ?_)
  | (with_reducible refine DC_list ?_)
  | ((with_reducible refine' DE_callT ?k1 ?_); (case k1 => exact rfl))
  | ((with_reducible refine' DE_var ?k1 ?_); (case k1 => exact rfl))
  | ((with_reducible refine' DE_varO ?k1 ?_); (case k1 => exact rfl))
  | ((with_reducible refine' DE_varN ?k1 ?_); (case k1 => exact rfl)))


/-! a ring unrolled, as a list of its own: the first of two new lists of a tuple -/
section
variable {K : PySem.W.Frag} {t : Option Addr} {ρ : Rho} {i j : Nat} {te : TE} {t1 t2 : TS}
/-- the promise of a def that returns a tuple whose first item is a new list of its own -/
def spU (K : PySem.W.Frag) (W : List PyData → (List PyData → Prop) → Prop) : Sp := fun vs H Q _ => ∃ F ds R, Ex F H ∧ Dqs K F ds vs ∧ W ds R ∧
  ∀ es p xs r y F' H', R es → Gr none F H F' H' → H p = none → F' p = none → H' p = some (.lst xs) → Dqs K F' es xs → H' r = some (.tup [.ref p, y]) → Q (.ref r) H'
def DSU (K : PySem.W.Frag) (ts : TS) (ρ : Rho) (R : List PyData → Prop) : Prop := ∀ (F0 H0 F H : Hp) (σ : L2.St) (D : Ends), At K none F0 H0 F H σ ρ →
  (∀ es p xs r y F' H', R es → Gr none F0 H0 F' H' → H0 p = none → F' p = none → H' p = some (.lst xs) → Dqs K F' es xs → H' r = some (.tup [.ref p, y]) → D.rt (.ref r) H') → ts D σ H
abbrev KeepsU (W : List PyData → (List PyData → Prop) → Prop) (n : Nat) (tb : PySem.W.Frag → TS) : Prop :=
  ∀ (K : PySem.W.Frag) (ds : List PyData) (R : List PyData → Prop), W ds R → ds.length ≤ n ∧ DSU K (tb K) (ds.map Sl.sh ++ List.replicate (n - ds.length) Sl.no) R
end
namespace Ur
def W_shortened (ds : List PyData) (R : List PyData → Prop) : Prop := ∃ (rs : List Run) (L : Nat), ds = [RD rs, .int L] ∧ 1 ≤ L ∧ L ≤ 512 ∧ (roll (cutS L rs)).length ≤ 90000 ∧ (∀ p ∈ rs, 1 ≤ p.2) ∧ R ((roll (cutS L rs)).map .int)
def t_shortened (K : PySem.W.Frag) : TS :=
  (tSeq (tAsg (tLst tNil) (gName 2))
    (tSeq (tAsg (tLst tNil) (gName 3))
    (tSeq (tFor (iList K (tVar 0)) (gTup K 2 (gNames [4, 5]))
    (tSeq (tAsg (tCB rMin2A (tCons (tVar 5) (tCons (tVar 1) tNil))) (gName 6))
    (tSeq (tDrop (tBM K "list" rExtend (tVar 2) (tCons (tOp rTimes (tLst (tCons (tVar 4) tNil)) (tVar 6)) tNil)))
    (tSeq (tDrop (tBM K "list" rAppend (tVar 3) (tCons (tOp (rPlus K) (tOp rMinus (tVar 5) (tVar 6)) (tC (.int 1))) tNil)))
    (tDrop (tBM K "list" rExtend (tVar 3) (tCons (tOp rTimes (tLst (tCons (tC (.int 1)) tNil)) (tOp rMinus (tVar 6) (tC (.int 1)))) tNil)))))))
    (tRet (tTup (tCons (tVar 2) (tCons (tVar 3) tNil)))))))
def W_unrolled (ds : List PyData) (R : List PyData → Prop) : Prop := ∃ (s : Int) (rs : List Run), ds = [.int s, RD rs] ∧ 2 ≤ s ∧ s ≤ 4 ∧ Ru s rs ∧ rs.length ≤ 512 ∧ (rs.map (·.2)).sum ≤ 512 ∧ R ((roll rs).map .int)
def t_unrolled (K : PySem.W.Frag) : TS :=
  (tSeq (tDrop (tCall (spP K W_check_runs) [] E0 (tCons (tVar 0) (tCons (tVar 1) tNil))))
    (tSeq (tIfS (tTest (tOp rGtI (tCall (spP K W_cells_in) [] E0 (tCons (tVar 1) tNil)) (tC (.int 512))))
    tNever
    tNext)
    (tRet (tOp (rIx K) (tCall (spU K Ur.W_shortened) [] E0 (tCons (tVar 1) (tCons (tC (.int 512)) tNil))) (tC (.int 0))))))
end Ur
def W_runs_of (ds : List PyData) (R : List PyData → Prop) : Prop := ∃ (s : Int) (r : List Int), ds = [.int s, LI r] ∧ 2 ≤ s ∧ s ≤ 4 ∧ Rg s r ∧ R ((mrg (onesR r)).map runD)
def t_runs_of (K : PySem.W.Frag) : TS :=
  (tSeq (tDrop (tCall (spP K W_check_ring) [] E0 (tCons (tVar 0) (tCons (tVar 1) tNil))))
    (tRet (tCall (spF K W_merged) [] E0 (tCons (tLc (iList K (tVar 1)) (gName 2) tYes (tTup (tCons (tVar 2) (tCons (tC (.int 1)) tNil))) [2]) tNil))))
end Cf
namespace Cf
open PySem PySem.Spec PyProof.Rows L2
open Evl (Ex)
local macro_rules | `(tactic| walk_at "d") => `(tactic| first
  | (with_reducible refine DS_seq ?_)
  | (with_reducible refine DS_if ?_)
  | (with_reducible refine DS_ret ?_)
  | (with_reducible refine DS_next ?_)
  | (with_reducible refine DS_retN ?_)
  | (with_reducible refine DS_set ?_)
  | (with_reducible refine DS_drop ?_)
  | (with_reducible refine DS_unpack ?_)
  | (with_reducible refine DS_par ?_)
  | (with_reducible refine DE_int ?_)
  | (with_reducible refine DE_bl ?_)
  | (with_reducible refine DE_non ?_)
  | (with_reducible refine DE_str ?_)
  | (with_reducible refine DE_isi ?_)
  | (with_reducible refine DE_and ?_)
  | (with_reducible refine DE_or ?_)
  | (with_reducible refine DE_not ?_)
  | (with_reducible refine DE_if ?_)
  | (with_reducible refine DE_chain ?_)
  | (with_reducible refine DE_tyIs ?_)
  | (with_reducible refine DE_tyNot ?_)
  | (with_reducible refine DE_call ?_)
  | (with_reducible refine DE_cb ?_)
  | (with_reducible refine DE_op ?_)
  | (with_reducible refine DE_un ?_)
  | (with_reducible refine DE_tup ?_)
  | (with_reducible refine DT_test ?_)
  | (with_reducible refine DT_B ?_)
  | (with_reducible refine DT_and ?_)
  | (with_reducible refine DT_or ?_)
  | (with_reducible refine DT_not ?_)
  | (with_reducible refine DT_yes ?_)
  | (with_reducible refine DA_nil ?_)
  | (with_reducible refine DA_cons ?_)
  | (with_reducible refine DO_no ?_)
  | (with_reducible refine DO_at ?_)
  | (with_reducible refine DR_minus ?_)
  | (with_reducible refine DR_mod ?_)
  | (with_reducible refine DR_div ?_)
  | (with_reducible refine DR_pow ?_)
  | (with_reducible refine DR_lt ?_)
  | (with_reducible refine DR_le ?_)
  | (with_reducible refine DR_gt ?_)
  | (with_reducible refine DR_ge ?_)
  | (with_reducible refine DR_eq ?_)
  | (with_reducible refine DR_ne ?_)
  | (with_reducible refine DR_isN ?_)
  | (with_reducible refine DR_notN ?_)
  | (with_reducible refine DU_neg ?_)
  | (with_reducible refine DC_len ?_)
  | (with_reducible refine DC_int ?_)
  | (with_reducible refine DC_abs ?_)
  | (with_reducible refine DC_max2 ?_)
  | (with_reducible refine DC_min2 ?_)
  | (with_reducible refine DC_sum ?_)
  | (with_reducible refine DC_all ?_)
  | (with_reducible refine DC_any ?_)
  | (with_reducible refine DC_repr ?_)
  | (with_reducible refine ⟨_, kb_int _, ?_⟩)
  | (with_reducible refine ⟨_, kb_bool _, ?_⟩)
  | (with_reducible refine ⟨_, kb_list _, ?_⟩)
  | (with_reducible refine ⟨_, kb_tuple _, ?_⟩)
  | (with_reducible refine ⟨_, rfl, ?_⟩)
  | (with_reducible refine ⟨_, _, rfl, rfl, ?_⟩)
  | (with_reducible refine DE_emp ?_)
  | (with_reducible refine DE_new (DL_lst ?_))
  | (with_reducible refine DE_new (DL_sl ?_))
  | (with_reducible refine DE_slT ?_)
  | (with_reducible refine DC_list ?_)
  | ((with_reducible refine' DE_callT ?k1 ?_); (case k1 => exact rfl))
  | ((with_reducible refine' DE_var ?k1 ?_); (case k1 => exact rfl)))


theorem lay_ints : ∀ ns : List Int, PyData.canLayAll0 (ns.map .int) = true
  | [] => by simp only [List.map_nil, PyData.canLayAll0]
  | n :: ns => by simp only [List.map_cons, PyData.canLayAll0, PyData.canLay0, lay_ints ns, Bool.and_self]
theorem dep_ints : ∀ ns : List Int, PyData.depthAll (ns.map .int) = 0
  | [] => by simp only [List.map_nil, PyData.depthAll]
  | n :: ns => by simp only [List.map_cons, PyData.depthAll, PyData.depth, dep_ints ns, Nat.max_self]
theorem shp_LI (ns : List Int) : SeqAt.shaped (LI ns) = true := by
  unfold SeqAt.shaped
  simp only [PyData.canLay0, PyData.depth, lay_ints, dep_ints]
  decide
theorem eqv_shaped {d : PyData} (h : SeqAt.shaped d = true) : PyData.eqv d d = true := SeqAt.eqv_refl d (SeqAt.canLay_of_shaped h)
theorem cutD_to {r : List Int} {p : Nat} : cutD (r.map .int) none (some (p : Int)) = (r.take p).map .int := by
  unfold cutD
  rw [HT.sIx_nat, HT.sIx_none, List.map_take, List.drop_zero, Nat.sub_zero]
  by_cases h : p ≤ (r.map PyData.int).length
  · rw [Nat.min_eq_left h]
  · rw [Nat.min_eq_right (by omega), List.take_of_length_le (Nat.le_refl _), List.take_of_length_le (by omega)]
end Cf
namespace Cg
open PySem PySem.Spec PyProof.Rows L2 Cf
open Evl (Ex)
local macro_rules | `(tactic| walk_at "d") => `(tactic| first
  | (with_reducible refine DS_seq ?_)
  | (with_reducible refine DS_if ?_)
  | (with_reducible refine DS_ret ?_)
  | (with_reducible refine DS_next ?_)
  | (with_reducible refine DS_retN ?_)
  | (with_reducible refine DS_set ?_)
  | (with_reducible refine DS_drop ?_)
  | (with_reducible refine DS_unpack ?_)
  | (with_reducible refine DS_par ?_)
  | (with_reducible refine DE_int ?_)
  | (with_reducible refine DE_bl ?_)
  | (with_reducible refine DE_non ?_)
  | (with_reducible refine DE_str ?_)
  | (with_reducible refine DE_isi ?_)
  | (with_reducible refine DE_and ?_)
  | (with_reducible refine DE_or ?_)
  | (with_reducible refine DE_not ?_)
  | (with_reducible refine DE_if ?_)
  | (with_reducible refine DE_chain ?_)
  | (with_reducible refine DE_call ?_)
  | ((with_reducible refine' DE_lenOw ?k1 ?_); (case k1 => exact rfl))
  | ((with_reducible refine' DE_reprOw ?k1 ?_); (case k1 => exact rfl))
  | ((with_reducible refine' DE_ixOw ?k1 ?_); (case k1 => exact rfl))
  | ((with_reducible refine' DE_lenOw ?k1 ?_); (case k1 => exact rfl))
  | (with_reducible refine DE_cb ?_)
  | (with_reducible refine DE_new (DL_rep (DL_lst ?_)))
  | (with_reducible refine DE_op ?_)
  | (with_reducible refine DE_un ?_)
  | (with_reducible refine DE_tup ?_)
  | (with_reducible refine DT_test ?_)
  | (with_reducible refine DT_B ?_)
  | (with_reducible refine DT_and ?_)
  | (with_reducible refine DT_or ?_)
  | (with_reducible refine DT_not ?_)
  | (with_reducible refine DT_yes ?_)
  | (with_reducible refine DA_nil ?_)
  | (with_reducible refine DA_cons ?_)
  | (with_reducible refine DO_no ?_)
  | (with_reducible refine DO_at ?_)
  | (with_reducible refine DR_minus ?_)
  | (with_reducible refine DR_mod ?_)
  | (with_reducible refine DR_div ?_)
  | (with_reducible refine DR_pow ?_)
  | (with_reducible refine DR_lt ?_)
  | (with_reducible refine DR_le ?_)
  | (with_reducible refine DR_gt ?_)
  | (with_reducible refine DR_ge ?_)
  | (with_reducible refine DR_eq ?_)
  | (with_reducible refine DR_ne ?_)
  | (with_reducible refine DR_isN ?_)
  | (with_reducible refine DR_notN ?_)
  | (with_reducible refine DU_neg ?_)
  | (with_reducible refine DC_len ?_)
  | (with_reducible refine DC_int ?_)
  | (with_reducible refine DC_abs ?_)
  | (with_reducible refine DC_max2 ?_)
  | (with_reducible refine DC_min2 ?_)
  | (with_reducible refine DC_sum ?_)
  | (with_reducible refine DC_all ?_)
  | (with_reducible refine DC_any ?_)
  | (with_reducible refine DC_repr ?_)
  | (with_reducible refine ⟨_, kb_int _, ?_⟩)
  | (with_reducible refine ⟨_, kb_bool _, ?_⟩)
  | (with_reducible refine ⟨_, kb_list _, ?_⟩)
  | (with_reducible refine ⟨_, kb_tuple _, ?_⟩)
  | (with_reducible refine ⟨_, rfl, ?_⟩)
  | (with_reducible refine ⟨_, _, rfl, rfl, ?_⟩)
  | (with_reducible refine DR_notB ?_)
  | (with_reducible refine DE_emp ?_)
  | (with_reducible refine DE_new (DL_lst ?_))
  | (with_reducible refine DE_new (DL_callF ?_))
  | (with_reducible refine DE_new (DL_sl ?_))
  | (with_reducible refine DC_list ?_)
  | ((with_reducible refine' DE_callC ?hb ?hw ?k1 ?_); (case hb => exact rfl); (case hw => decide +kernel); (case k1 => exact rfl))
  | ((with_reducible refine' DE_var ?k1 ?_); (case k1 => exact rfl)))


/-! k41: rings of draws, values near to runs -/
section
variable {K : PySem.W.Frag} {α : Al} {β : Nat} {ρ : Rho} {te : TE} {Q : PyData → Prop}
end
abbrev w__law_ring : Nat := 2 ^ 100
def W__law_ring (ds : List PyData) (R : PyData → Prop) : Prop := ∃ (s m : Int), ds = [.int s, .int m] ∧ 2 ≤ s ∧ s ≤ 4 ∧ 1 ≤ m ∧ m ≤ 512 ∧ ∀ r : List Int, Rg s r → (r.length : Int) = m → R (LI r)
def t__law_ring (K : PySem.W.Frag) : TS :=
  (tSeq (tPar 3 4 (tCons (tLst tNil) (tCons (tOp (rIx K) (tLst (tCons (tC (.int 1)) (tCons (tC (.int 1)) (tCons (tC (.int 3)) (tCons (tVar 2) tNil))))) (tCall (spC K true w__law_coin W__law_coin) [] E0 (tCons (tVar 0) (tCons (tC (.int 4)) tNil)))) tNil)))
    (tSeq (tWhile (tTest (tOp rLtI (tCB (rLenA K) (tCons (tVar 3) tNil)) (tVar 2)))
    (tAsg (tOp (rPlus K) (tVar 3) (tOp rTimes (tLst (tCons (tCall (spC K true w__law_coin W__law_coin) [] E0 (tCons (tVar 0) (tCons (tVar 1) tNil))) tNil)) (tOp (rPlus K) (tC (.int 1)) (tCall (spC K true w__law_coin W__law_coin) [] E0 (tCons (tVar 0) (tCons (tVar 4) tNil)))))) (gName 3)))
    (tRet (tSl (rSlL K) (tVar 3) tNoPart (tPart (tVar 2))))))
theorem rep_ints (x : Int) (n : Nat) : (List.replicate n [PyData.int x]).flatten = (List.replicate n x).map PyData.int := by
  rw [rep_one, List.map_replicate]
theorem ds__law_ring : KeepsC true w__law_ring W__law_ring 5 t__law_ring := by
  intro K a ds R h
  obtain ⟨s, m, rfl, s2, s4, m1, m5, q⟩ := h
  refine ⟨by simp, ?_⟩
  show DS K _ _ (t__law_ring K) [.tp, .sh (.int s), .sh (.int m), .no, .no] _ _ _ _
  unfold t__law_ring
  refine DS_seq (DS_par ?_)
  refine DA_cons (DE_new (DL_lst (DA_nil ⟨by simp, ?_⟩)))
  repeat walk_at "d"
  refine ⟨by simp, ?_⟩
  repeat walk_at "d"
  refine ⟨4, rfl, by decide, big_lt (by decide), fun z z0 z1 => ?_⟩
  obtain ⟨v, hv, v1, v5⟩ : ∃ v : Int, atI [PyData.int 1, .int 1, .int 3, .int m] z = some (.int v) ∧ 1 ≤ v ∧ v ≤ 512 := by
    have : z = 0 ∨ z = 1 ∨ z = 2 ∨ z = 3 := by omega
    rcases this with rfl | rfl | rfl | rfl
    · exact ⟨1, rfl, by decide, by decide⟩
    · exact ⟨1, rfl, by decide, by decide⟩
    · exact ⟨3, rfl, by decide, by decide⟩
    · exact ⟨_, rfl, by omega, by omega⟩
  refine DR_ix (.inl ⟨_, _, _, rfl, rfl, hv, ?_⟩)
  refine DA_nil ⟨_, _, rfl, ?_⟩
  show DS K _ _ _ [.tp, .sh (.int s), .sh (.int m), .sh (.list []), .sh (.int v)] _ _ _ _
  refine DS_seq (DS_while (fun k ρ => ∃ r : List Int, k = (m - r.length).toNat ∧ Signs s r ∧ (r.length : Int) ≤ m + 511 ∧ ρ = [.tp, .sh (.int s), .sh (.int m), .sh (LI r), .sh (.int v)]) m.toNat (by omega) ⟨[], by simp, fun d hd => absurd hd (by simp), by simp; omega, rfl⟩ fun k ρ hI => ?_)
  obtain ⟨r, rfl, hr, hl, rfl⟩ := hI
  repeat walk_at "d"
  rw [List.length_map]
  refine ite2 (fun h => ?_) fun h => ?_
  · have h := of_decide_eq_true h
    refine DS_set (DE_op (DE_var (by rfl) (DE_new (DL_rep (DL_lst ?_)))))
    repeat walk_at "d"
    refine ⟨s, rfl, by omega, big_lt (by omega), fun x x0 x1 => ?_⟩
    repeat walk_at "d"
    refine ⟨by simp, ?_⟩
    repeat walk_at "d"
    refine ⟨v, rfl, by omega, big_lt (by omega), fun y y0 y1 => DR_plusI ⟨_, _, rfl, rfl, _, rfl, by omega, by omega, by simp; omega, ?_⟩⟩
    rw [rep_ints]
    refine DR_catL ⟨_, _, rfl, rfl, by simp; omega, ?_⟩
    rw [← List.map_append]
    refine ⟨_, ?_, r ++ List.replicate (1 + y).toNat x, rfl, fun d hd => ?_, ?_, rfl⟩
    · rw [List.length_append, List.length_replicate]
      omega
    · rcases List.mem_append.mp hd with h | h
      · exact hr d h
      · rw [List.eq_of_mem_replicate h]
        exact ⟨x0, x1⟩
    · rw [List.length_append, List.length_replicate]
      omega
  · have h : ¬ (r.length : Int) < m := fun z => h (decide_eq_true z)
    obtain ⟨n, rfl⟩ := Int.eq_ofNat_of_zero_le (show 0 ≤ m by omega)
    refine DS_ret (DE_new (DL_sl ?_))
    repeat walk_at "d"
    have e : Cf.cutD (r.map PyData.int) none (some (n : Int)) = (r.take n).map .int := cutD_to

    rw [e]
    have ln : (r.take n).length = n := by rw [List.length_take]; omega
    exact q (r.take n) ⟨fun e => by rw [e] at ln; simp at ln; omega, by omega, fun d hd => hr d (List.mem_of_mem_take hd)⟩ (by omega)

def NearD (d : PyData) : Prop := shortD d = true ∧ Shw 30000 6 d
abbrev w__law_near : Nat := 2 ^ 100
def W__law_near (ds : List PyData) (R : PyData → Prop) : Prop := ∃ (s : Int) (rs : List Cf.Run), ds = [.int s, RD rs] ∧ 2 ≤ s ∧ s ≤ 4 ∧ Ru s rs ∧ rs.length ≤ 40 ∧ (∀ p ∈ rs, p.2 ≤ thirty) ∧ ∀ rows : List PyData, rows.length ≤ 40 → (∀ x ∈ rows, NearD x) → R (.list rows)
def t__law_near (K : PySem.W.Frag) : TS :=
  (tSeq (tAsg (tCall (spC K true w__law_coin W__law_coin) [] E0 (tCons (tVar 0) (tCons (tCB (rLenA K) (tCons (tVar 2) tNil)) tNil))) (gName 3))
    (tSeq (tAsg (tOp (rIx K) (tVar 2) (tVar 3)) (gTup K 2 (gNames [4, 5])))
    (tSeq (tAsg (tLst (tCons (tC .non) (tCons (tC (.int 0)) (tCons (tTup tNil) (tCons (tLst tNil) (tCons (tTup (tCons (tVar 4) tNil)) (tCons (tLst (tCons (tVar 4) (tCons (tVar 5) tNil))) (tCons (tTup (tCons (tVar 4) (tCons (tVar 5) (tCons (tC (.int 1)) tNil)))) (tCons (tTup (tCons (tVar 4) (tCons (tC (.int 0)) tNil))) (tCons (tTup (tCons (tVar 4) (tCons (tUn rNegI (tC (.int 1))) tNil))) (tCons (tTup (tCons (tVar 1) (tCons (tVar 5) tNil))) tNil))))))))))) (gName 6))
    (tSeq (tAsg (tOp (rPlus K) (tVar 6) (tLst (tCons (tTup (tCons (tUn rNegI (tC (.int 1))) (tCons (tVar 5) tNil))) (tCons (tTup (tCons (tC (.bl true)) (tCons (tVar 5) tNil))) (tCons (tTup (tCons (tVar 4) (tCons (tC (.bl true)) tNil))) (tCons (tTup (tCons (tC .non) (tCons (tVar 5) tNil))) (tCons (tTup (tCons (tVar 4) (tCons (tC (.str "1")) tNil))) (tCons (tTup (tCons (tC (.str "0")) (tCons (tC (.int 1)) tNil))) (tCons tDNewK (tCons (tC (.str "00")) tNil)))))))))) (gName 6))
    (tSeq (tAsg (tOp (rPlus K) (tVar 6) (tLst (tCons (tTup (tCons (tVar 4) (tCons (tLst (tCons (tVar 5) tNil)) tNil))) (tCons (tTup (tCons (tC (.int 0)) (tCons (tC (.bl false)) tNil))) tNil)))) (gName 6))
    (tSeq (tAsg (tLc (iList K (tVar 6)) (gName 8) tYes (tOp (rPlus K) (tOp (rPlus K) (tSl (rSlL K) (tVar 2) tNoPart (tPart (tVar 3))) (tLst (tCons (tVar 8) tNil))) (tSl (rSlL K) (tVar 2) (tPart (tOp (rPlus K) (tVar 3) (tC (.int 1)))) tNoPart)) [8]) (gName 7))
    (tRet (tOp (rPlus K) (tVar 7) (tLst (tCons (tThen (tVar 2) (kTup K)) (tCons (tC .non) (tCons (tC (.int 0)) (tCons (tC (.bl true)) (tCons (tC (.str "")) (tCons tDNewK (tCons (tLst tNil) (tCons (tTup tNil) (tCons (tLst (tCons (tLst tNil) tNil)) (tCons (tLst (tCons (tTup tNil) tNil)) (tCons (tOp (rIx K) (tVar 2) (tVar 3)) (tCons (tLst (tCons (tVar 2) tNil)) (tCons (tDisp [((tC (.int 0)), (tVar 5))]) tNil))))))))))))))))))))))
end Cg
/-! texts: what str, join, split, startswith, slices, int and walks over texts do to data -/
namespace Cf
open PySem PySem.Spec PyProof.Rows L2
open Evl (Ex)
/-- the decimal text of an integer -/
def tx (i : Int) : Str := Str.ofString (toString i)
def rStrI : List V → Hp → VK → Prop := fun xs H Q => ∃ i, xs = [.int i] ∧ i.natAbs.log2 < 1920 ∧ Q (.str (Str.ofString (toString i))) H
theorem call_strI {X : Cx} : CallR X (.type "str") rStrI := call_str_int
def rIntS : List V → Hp → VK → Prop := fun xs H Q => ∃ a n, xs = [V.str a] ∧ intText? a = some n ∧ a.length ≤ 640 ∧ Q (V.int n) H
theorem call_intS {X : Cx} : CallR X (.type "int") rIntS := call_int_str
def rJoin (K : PySem.W.Frag) : V → List V → Hp → VK → Prop := fun x xs H Q => ∃ a p, ∃ ys : List Str, x = .str a ∧ xs = [.ref p] ∧ (SqL K H p (ys.map V.str) ∨ SqT K H p (ys.map V.str)) ∧ (ys.map (·.length)).sum + ys.length * a.length ≤ 16777216 ∧ Q (.str (Txt.join a ys)) H
def rSplit : V → List V → Hp → VK → Prop := fun x xs H Q => ∃ a b, x = V.str a ∧ xs = [V.str b] ∧ (b.length == 0) = false ∧ a.length + 2 ≤ sizeLine ∧ rNewStrs (Txt.split a b) H Q
def rStarts : V → List V → Hp → VK → Prop := fun x xs H Q => ∃ a b, x = V.str a ∧ xs = [V.str b] ∧ Q (V.bl (Txt.startswith a b)) H
def rInS : R2 := fun x y H Q => ∃ i j, x = V.str i ∧ y = V.str j ∧ Q (V.bl !(Builtin.Str.occurrences j i 0 j.length 1).isEmpty) H
theorem op_inS {X : Cx} : OpR X (compareOp .In) rInS := op_in_str
def rSlS : V → Option Int → Option Int → Hp → VK → Prop := fun x lo hi H Q => ∃ z, x = .str z ∧ z.length ≤ sizeLine ∧ Q (.str (Txt.slice z lo hi)) H
theorem sl_S {X : Cx} : SlR X rSlS := C8.sl_txt
section
variable {K : PySem.W.Frag} {t : Option Addr} {ρ : Rho} {i : Nat} {te tl to : TE} {tr : TA}
theorem Dqs.strs {F : Hp} : ∀ {ns : List Str} {vs : List V}, Dqs K F (ns.map .str) vs → vs = ns.map V.str
  | [], _, .nil => rfl
  | _ :: ns, _, .cons h1 h2 => by
    cases h1
    rw [Dqs.strs (ns := ns) h2]
    rfl
theorem Dqs.ofStrs {F : Hp} : ∀ {ns : List Str}, Dqs K F (ns.map .str) (ns.map V.str)
  | [] => .nil
  | n :: ns => .cons (.str n) Dqs.ofStrs
theorem DC_strI {xs : List PyData} {Q : PyData → Prop} (h : ∃ i : Int, xs = [.int i] ∧ i.natAbs < 10 ^ 500 ∧ Q (.str (tx i))) : DC K rStrI xs Q := fun vs F H e z QK k => by
  obtain ⟨i, rfl, hi, q⟩ := h
  obtain ⟨v, rfl, zx⟩ := dqs1 z
  cases zx
  refine ⟨i, rfl, ?_, k _ _ F H q (Gr.refl e) (.str _)⟩
  by_cases h0 : i.natAbs = 0
  · rw [h0]
    decide
  · rw [Nat.log2_lt h0]
    exact Nat.lt_trans hi (by decide +kernel)
theorem DC_intS {xs : List PyData} {Q : PyData → Prop} (h : ∃ a n, xs = [.str a] ∧ intText? a = some n ∧ a.length ≤ 640 ∧ Q (.int n)) : DC K rIntS xs Q := fun vs F H e z QK k => by
  obtain ⟨a, n, rfl, h1, h2, q⟩ := h
  obtain ⟨v, rfl, zx⟩ := dqs1 z
  cases zx
  exact ⟨a, n, rfl, h1, h2, k _ _ F H q (Gr.refl e) (.int _)⟩
theorem DE_join {Q : PyData → Prop} (h : DE K t to ρ fun x => ∃ a, x = .str a ∧ DE K t te ρ fun y => ∃ ys : List Str, y = .list (ys.map .str) ∧ (ys.map (·.length)).sum + ys.length * a.length ≤ 16777216 ∧ Q (.str (Txt.join a ys))) : DE K t (tM1 (rJoin K) to te) ρ Q := fun F0 H0 F H σ A QK k =>
  h F0 H0 F H σ A _ fun x v F1 H1 hq e1 z => by
    have A1 := A.step e1
    obtain ⟨a, rfl, hq⟩ := hq
    cases z
    refine ⟨⟨a, rfl⟩, hq F0 H0 F1 H1 σ A1 _ fun y w F2 H2 hy e2 zy => ?_⟩
    have A2 := A1.step e2
    obtain ⟨ys, rfl, hs, q⟩ := hy
    cases zy with
    | @lst p xs _ s1 s2 =>
      have es := s2.strs
      subst es
      exact ⟨a, p, ys, rfl, rfl, .inl (Evl.ex_l A2.fh s1), hs, k _ _ F2 H2 q (e1.trans e2) (.str _)⟩
theorem DL_split {Q : List PyData → Prop} (h : DE K t to ρ fun x => ∃ a, x = .str a ∧ DE K t te ρ fun y => ∃ b : Str, y = .str b ∧ b.length ≠ 0 ∧ a.length ≤ 99990 ∧ Q ((Txt.split a b).map .str)) : DL K t (tM1 rSplit to te) ρ Q := fun F0 H0 F H σ A QK k =>
  h F0 H0 F H σ A _ fun x v F1 H1 hq e1 z => by
    have A1 := A.step e1
    obtain ⟨a, rfl, hq⟩ := hq
    cases z
    refine ⟨⟨a, rfl⟩, hq F0 H0 F1 H1 σ A1 _ fun y w F2 H2 hy e2 zy => ?_⟩
    have A2 := A1.step e2
    obtain ⟨b, rfl, hb, hs, q⟩ := hy
    cases zy
    refine ⟨a, b, rfl, rfl, by simpa using hb, by have : (99990 : Nat) + 2 ≤ sizeLine := by decide
                                                  omega, fun p n => ?_⟩
    have g := Gr.free A2.fh (o := .lst ((Txt.split a b).map V.str)) n
    exact k _ p _ _ _ q ((e1.trans e2).trans (A2.stp g)) ((e1.trans e2).back n) (ex_none A2.fh n) upd_same Dqs.ofStrs
theorem DE_starts {Q : PyData → Prop} (h : DE K t to ρ fun x => ∃ a, x = .str a ∧ DE K t te ρ fun y => ∃ b : Str, y = .str b ∧ Q (.bool (Txt.startswith a b))) : DE K t (tM1 rStarts to te) ρ Q := fun F0 H0 F H σ A QK k =>
  h F0 H0 F H σ A _ fun x v F1 H1 hq e1 z => by
    have A1 := A.step e1
    obtain ⟨a, rfl, hq⟩ := hq
    cases z
    refine ⟨⟨a, rfl⟩, hq F0 H0 F1 H1 σ A1 _ fun y w F2 H2 hy e2 zy => ?_⟩
    obtain ⟨b, rfl, q⟩ := hy
    cases zy
    exact ⟨a, b, rfl, rfl, k _ _ F2 H2 q (e1.trans e2) (.bl _)⟩
theorem DR_inS {x y : PyData} {Q : PyData → Prop} (h : ∃ a b, x = .str a ∧ y = .str b ∧ Q (.bool !(Builtin.Str.occurrences b a 0 b.length 1).isEmpty)) : DR K rInS x y Q := fun v w F H e q1 q2 QK k => by
  obtain ⟨a, b, rfl, rfl, q⟩ := h
  cases q1
  cases q2
  exact ⟨a, b, rfl, rfl, k _ _ F H q (Gr.refl e) (.bl _)⟩
theorem DE_slS {tl th : TO} {Q : PyData → Prop} (h : DE K t te ρ fun x => ∃ a, x = .str a ∧ a.length ≤ 100000 ∧ DO K t tl ρ fun lo => DO K t th ρ fun hi => Q (.str (Txt.slice a lo hi))) : DE K t (tSl rSlS te tl th) ρ Q := fun F0 H0 F H σ A QK k =>
  h F0 H0 F H σ A _ fun x v F1 H1 hb e1 q1 => by
    have A1 := A.step e1
    obtain ⟨a, rfl, hl, hb⟩ := hb
    cases q1
    refine hb F0 H0 F1 H1 σ A1 _ fun lo F2 H2 hc e2 => have A2 := A1.step e2;  hc F0 H0 F2 H2 σ A2 _ fun hi F3 H3 q e3 => ?_
    exact ⟨a, rfl, Nat.le_trans hl (by decide), k _ _ F3 H3 q ((e1.trans e2).trans e3) (.str _)⟩
/-- [e for c in text] -/
theorem DL_lcS {tl : TE} {tt : TT} {Q : List PyData → Prop} (h : DE K t tl ρ fun x => ∃ a : Str, x = .str a ∧ ∃ I : Nat → List PyData → Prop, I 0 [] ∧
      (∀ (k : Nat) c acc, a.cps[k]? = some c → I k acc → acc.length < 100000 ∧ DT K t tt (ρ.set i (.sh (.str ⟨#[c]⟩))) fun b => if b = true then DE K t te (ρ.set i (.sh (.str ⟨#[c]⟩))) (fun y => I (k + 1) (acc ++ [y])) else I (k + 1) acc) ∧ ∀ acc, I a.cps.size acc → Q acc) :
    DL K t (tLc (iStr tl) (gName i) tt te [i]) ρ Q := fun F0 H0 F H σ A QK k =>
  h F0 H0 F H σ A _ fun x v F1 H1 hq e1 z => by
    have A1 := A.step e1
    obtain ⟨a, rfl, I, h0, hs, hd⟩ := hq
    cases z
    refine ⟨a, rfl, fun D nD => ?_⟩
    refine DL_lc (own := [i]) (g := gName i) (walk_str (z := a)) I A1 nD h0 (fun F' H' e e' => trivial) (fun m x F2 H2 H3 hm A2 e2 y => ?_) fun ds' ys F' H' q e n1 n2 z => k ds' D ys F' H' (hd ds' q) (e1.trans e) (e1.back nD) n1 n2 z
    obtain ⟨rfl, c, hc, rfl⟩ := y
    exact ⟨F2, _, tn_name (.str _) A2.rfl, fun acc q => hs m c acc hc q⟩
theorem DL_mapS {f : Nat → PyData} {Q : List PyData → Prop} (h : DE K t tl ρ fun x => ∃ a : Str, x = .str a ∧ a.length < 100000 ∧ (∀ c ∈ a.cps.toList, DE K t te (ρ.set i (.sh (.str ⟨#[c]⟩))) fun y => y = f c) ∧ Q (a.cps.toList.map f)) : DL K t (tLc (iStr tl) (gName i) tYes te [i]) ρ Q := by
  refine DL_lcS (h.mono fun x hx => ?_)
  obtain ⟨a, rfl, hl, hs, q⟩ := hx
  refine ⟨a, rfl, fun k acc => acc = (a.cps.toList.take k).map f, rfl, fun k c acc hd e => ?_, fun acc e => ?_⟩
  · subst e
    have hd' : a.cps.toList[k]? = some c := by simpa using hd
    have hk : k < a.cps.toList.length := (List.getElem?_eq_some_iff.mp hd').1
    have hz : a.cps.toList.length = a.length := by simp [Str.length]
    refine ⟨by rw [List.length_map, List.length_take]; omega, DT_yes (iteT ?_)⟩
    refine (hs c (List.mem_of_getElem? hd')).mono fun y e => ?_
    subst e
    try dsimp only
    rw [take_snoc hd', List.map_append]
    rfl
  · subst e
    rw [List.take_of_length_le (by simp)]
    exact q
end
end Cf
/-! decimal texts of integers -/
namespace Cf
open PySem PySem.Spec PyProof.Rows L2
def dg (n : Nat) : List Nat := (Nat.toDigits 10 n).map Char.toNat
theorem dg_all (n : Nat) : NumText.AllDigits (dg n) := by
  intro c hc
  obtain ⟨d, hd, rfl⟩ := List.mem_map.mp hc
  have h := Nat.isDigit_of_mem_toDigits (by decide) (by decide) hd
  unfold Char.isDigit at h
  simp only [Bool.and_eq_true, decide_eq_true_eq] at h
  have h1 : (48 : UInt32).toNat ≤ d.val.toNat := UInt32.le_iff_toNat_le.mp h.1
  have h2 : d.val.toNat ≤ (57 : UInt32).toNat := UInt32.le_iff_toNat_le.mp h.2
  exact ⟨h1, h2⟩
theorem dg_val (n : Nat) : NumText.digitsVal (dg n) = n := by
  have h := @Nat.ofDigitChars_ten_toDigits n
  unfold Nat.ofDigitChars at h
  unfold NumText.digitsVal dg
  rw [List.foldl_map]
  have e : (fun (x : Nat) (y : Char) => x * 10 + (y.toNat - 48)) = fun sofar c => 10 * sofar + (c.toNat - '0'.toNat) := by
    funext x y
    rw [Nat.mul_comm]
    rfl
  rw [e]
  exact h
theorem dg_ne (n : Nat) : dg n ≠ [] := by
  unfold dg
  intro h
  exact Nat.toDigits_ne_nil (List.map_eq_nil_iff.mp h)
theorem dg_len {n k : Nat} (hk : 1 ≤ k) (h : n < 10 ^ k) : (dg n).length ≤ k := by
  unfold dg
  rw [List.length_map]
  exact toDigits_len_pow (by decide) hk h
theorem dg_head {n : Nat} (h : n ≠ 0) (r : List Nat) : dg n ≠ 48 :: r := by
  intro e
  have q := NumText.toDigits_all (dg n) (dg_all n)
  rw [dg_val, e] at q
  rw [List.dropWhile_cons_of_pos (by rfl)] at q
  have l : (Nat.toDigits 10 n).length = r.length + 1 := by
    have := congrArg List.length e
    unfold dg at this
    rw [List.length_map] at this
    simpa using this
  have le : (List.dropWhile (fun x => x == 48) r).length ≤ r.length := (List.dropWhile_sublist (l := r) _).length_le
  generalize hd : List.dropWhile (fun x => x == 48) r = z at q le
  cases z with
  | nil =>
    have : r = [] := by
      have := congrArg List.length q
      rw [l] at this
      simp at this
      exact this
    subst this
    have v := dg_val n
    rw [e] at v
    exact h v.symm
  | cons c t =>
    have := congrArg List.length q
    simp only [List.length_map, l] at this
    omega
/-- the signs of the text of an integer -/
def tc (i : Int) : List Nat := if i < 0 then 45 :: dg i.natAbs else dg i.natAbs
theorem tx_S (i : Int) : tx i = ⟨(tc i).toArray⟩ := by
  unfold tx tc
  cases i with
  | ofNat n =>
    rw [PyProof.Rows.text_ofNat, if_neg (by simp)]
    rfl
  | negSucc n =>
    rw [if_pos (Int.negSucc_lt_zero n)]
    rw [Str.ofString_eq_toList]
    show (⟨_⟩ : Str) = _
    congr 2
    show List.map Char.toNat (toString (Int.negSucc n)).toList = 45 :: dg (n + 1)
    have e : toString (Int.negSucc n) = "-" ++ Nat.repr (n + 1) := rfl
    rw [e, String.toList_append, List.map_append, Nat.repr_eq_ofList_toDigits]
    show List.map Char.toNat ['-'] ++ List.map Char.toNat (String.ofList (Nat.toDigits 10 (n + 1))).toList = 45 :: dg (n + 1)
    rw [String.toList_ofList]
    rfl
theorem tx_cps (i : Int) : (tx i).cps.toList = tc i := by rw [tx_S]
theorem tx_len (i : Int) : (tx i).length = (tc i).length := by
  rw [tx_S]
  show (tc i).toArray.size = _
  simp
theorem tc_len {i : Int} {k : Nat} (hk : 1 ≤ k) (h : i.natAbs < 10 ^ k) : (tc i).length ≤ k + 1 := by
  have := dg_len hk h
  unfold tc
  split
  · simp only [List.length_cons]; omega
  · omega
theorem tc_ne (i : Int) : tc i ≠ [] := by
  unfold tc
  split
  · simp
  · exact dg_ne _
theorem tc_mem {i : Int} {c : Nat} (h : c ∈ tc i) : c = 45 ∨ 48 ≤ c ∧ c ≤ 57 := by
  unfold tc at h
  split at h
  · rcases List.mem_cons.mp h with rfl | h
    · exact .inl rfl
    · exact .inr (dg_all _ c h)
  · exact .inr (dg_all _ c h)
theorem tx_int {i : Int} (h : i.natAbs < 10 ^ 600) : intText? (tx i) = some i := by
  have hl : (tx i).length ≤ 4300 := by
    rw [tx_len]
    have := tc_len (by decide) h
    omega
  by_cases hi : i < 0
  · rw [intText_neg (x := tx i) (cs := dg i.natAbs) (by rw [tx_cps]; unfold tc; rw [if_pos hi]) (dg_all _) (dg_ne _) hl, dg_val]
    congr 1
    omega
  · have e : tc i = dg i.natAbs := by
      unfold tc
      rw [if_neg hi]
    rw [intText_digits (x := tx i) (by rw [tx_cps, e]; exact dg_all _) (by rw [tx_cps]; exact tc_ne _) hl, tx_cps, e, dg_val]
    congr 1
    omega
/-- one sign at the beginning -/
theorem starts_one (l : List Nat) (c : Nat) : Txt.startswith ⟨l.toArray⟩ ⟨#[c]⟩ = decide (l[0]? = some c) := by
  have h := StrLaws.subAt_one ⟨l.toArray⟩ c 0
  unfold Txt.startswith
  by_cases e : l[0]? = some c
  · obtain ⟨h1, h2⟩ := h.mpr (by simpa using e)
    rw [h2, decide_eq_true h1, decide_eq_true e]
    rfl
  · rw [decide_eq_false e]
    cases hb : decide (0 + Str.length ⟨#[c]⟩ ≤ Str.length ⟨l.toArray⟩) with
    | false => rfl
    | true =>
      cases hs : Builtin.Str.subAt ⟨l.toArray⟩ ⟨#[c]⟩ 0 with
      | false => rfl
      | true => exact absurd (by simpa using h.mp ⟨of_decide_eq_true hb, hs⟩) e
/-- one sign within -/
theorem in_one (l : List Nat) (c : Nat) : (!(Builtin.Str.occurrences ⟨l.toArray⟩ ⟨#[c]⟩ 0 (Str.length ⟨l.toArray⟩) 1).isEmpty) = decide (c ∈ l) := by
  have h := StrLaws.found_iff ⟨l.toArray⟩ ⟨#[c]⟩
  by_cases e : c ∈ l
  · rw [decide_eq_true e]
    obtain ⟨i, hi, hc⟩ := List.getElem_of_mem e
    refine h.mpr ⟨i, (StrLaws.subAt_one ⟨l.toArray⟩ c i).mpr ?_⟩
    show l.toArray.toList[i]? = some c
    rw [List.getElem?_eq_getElem (by simpa using hi)]
    simpa using hc
  · rw [decide_eq_false e]
    cases hs : (!(Builtin.Str.occurrences ⟨l.toArray⟩ ⟨#[c]⟩ 0 (Str.length ⟨l.toArray⟩) 1).isEmpty) with
    | false => rfl
    | true =>
      obtain ⟨i, q⟩ := h.mp hs
      have := (StrLaws.subAt_one ⟨l.toArray⟩ c i).mp q
      exact absurd (List.mem_of_getElem? (by simpa using this)) e
theorem slice_one (l : List Nat) : Txt.slice ⟨l.toArray⟩ (some 1) none = ⟨(l.drop 1).toArray⟩ := by
  have := SX.slice_from (a := l) (i := 1) (by decide)
  exact this
/-- texts joined by blanks, and what stands between -/
theorem split_blank {ys : List Str} (h : ys ≠ []) (hb : ∀ y ∈ ys, 32 ∉ y.cps.toList) : Txt.split (Txt.join (Str.ofString " ") ys) (Str.ofString " ") = ys :=
  TL.split_join (y := Str.ofString " ") (s := 32) (S := []) (by decide +kernel) (by decide +kernel) h hb
theorem tx_noblank (i : Int) : 32 ∉ (tx i).cps.toList := by
  rw [tx_cps]
  intro h
  rcases tc_mem h with h | h
  · omega
  · omega
theorem tx_inj {i j : Int} (hi : i.natAbs < 10 ^ 600) (hj : j.natAbs < 10 ^ 600) (h : tx i = tx j) : i = j := by
  have a := tx_int hi
  rw [h, tx_int hj] at a
  exact (Option.some.inj a).symm
end Cf
/-! k51: a def handed to a def, new lists in pairs and tuples, a sign put behind a new list, one of some texts -/
namespace Cf
open PySem PySem.Spec PyProof.Rows L2
open Evl (Ex)
section
variable {X : Cx} {CX : CXT} {k i : Nat} {f : Addr} {fd : FuncData} {ps : List Str} {sp : Sp} {E : XK} {x : Str} {p pos : Pos} {e : Expr} {es : List Expr} {t : TA}
/-- a call by a name of the def's own that holds a def -/
theorem pe_callLG (F : FnG X.prog X.w X.K X.mg X.base CX k f fd ps sp) (hgu : X.A.guards = some []) (hr : Room k X.A) (hv : PE X (.Name x p) (tVar i)) (hk : PySem.W.keepIn X.K (.ref f) = true) (hb : Binds X.K fd ps []) (hx : Passes CX X E) (ha : PA X (e :: es) t)
    (he : starEach (e :: es) X.env = (false, eval e X.env) :: starEach es X.env := by rfl) (hpl : (backTo pos (starEach es X.env)).any (·.1) = false := by rfl) :
    PE X (.Call (.Name x p) (e :: es) [] pos) (tCallL i f sp [] E t) := by
  constructor
  intro pins s σ H Q I h
  obtain ⟨hs, ht⟩ := h
  refine wpAny_Call_Name_kw (thn (hv.run pins s σ H (fun v H1 => v = V.ref f ∧ H1 = H) I ⟨V.ref f, hs, rfl, rfl⟩) fun u s1 q => ?_)
  obtain ⟨v, H1, I1, r1, rfl, rfl⟩ := q
  cases r1
  exact PySem.W.callWith_K (h₀ := X.base) I1.ok.mod.kin hk (thn (ha.run pos pins s1 σ H1 _ I1 ht) fun us s2 ⟨vs, H2, I2, r, q⟩ => ⟨I2.kIn, go_fn F hgu hr hb hx I2 r q⟩) he hpl
end
section
variable {K : PySem.W.Frag} {t : Option Addr} {ρ : Rho} {i j : Nat} {te tl : TE} {tr : TA} {t1 t2 : TS} {N B C : Rho → Prop} {R : PyData → Prop}
theorem DE_callL {g : Addr} {W : List PyData → (PyData → Prop) → Prop} {E : XK} {Q : PyData → Prop} (hg : ρ[i]? = some (.vl (.ref g))) (h : DA K t tr ρ fun ds => W ds Q) : DE K t (tCallL i g (spP K W) [] E tr) ρ Q := fun F0 H0 F H σ A QK k => by
  obtain ⟨o, e, rfl⟩ := A.slot hg
  exact ⟨e, DE_call h F0 H0 F H σ A QK k⟩
/-- the promise of a def that asks the def at g at each place of a list -/
def spCW (K : PySem.W.Frag) (g : Addr) (W : List PyData → (PyData → Prop) → Prop) : Sp := fun vs H Q _ => ∃ (F : Hp) (v : V) (ws : List PyData), vs = [v, .ref g] ∧ Ex F H ∧ Dq K F (.list ws) v ∧ ws.length < 100000 ∧
  (∀ (k : Nat) (Q : PyData → Prop), k < ws.length → Q (.bool true) → W [.list ws, .int (k : Int)] Q) ∧ ∀ F' H', Gr none F H F' H' → Q .non H'
/-- a statement that calls it -/
theorem DS_callCW {g : Addr} {W : List PyData → (PyData → Prop) → Prop} {E : XK} (h : DE K t te ρ fun x => ∃ ws, x = .list ws ∧ ws.length < 100000 ∧ (∀ (k : Nat) (Q : PyData → Prop), k < ws.length → Q (.bool true) → W [.list ws, .int (k : Int)] Q) ∧ N ρ) : DS K t (tDrop (tCall (spCW K g W) [] E (tCons te (tCons (tC (.ref g)) tNil)))) ρ N R B C := fun F0 H0 F H σ D A kn kr kb kc =>
  h F0 H0 F H σ A _ fun x v F1 H1 hq e1 z => by
    have A1 := A.step e1
    obtain ⟨ws, rfl, hl, hw, q⟩ := hq
    exact ⟨F1, v, ws, rfl, A1.fh, z, hl, hw, fun F' H' g => kn _ F' H' _ q (A1.call g) (e1.ff.trans g.ff)⟩
def t_check_words (K : PySem.W.Frag) (g : Addr) (W : List PyData → (PyData → Prop) → Prop) : TS :=
  (tFor (iRg1 (tCons (tCB (rLenA K) (tCons (tVar 0) tNil)) tNil)) (gName 2)
    (tIfS (tNot (tB (tCallL 1 g (spP K W) [] E0 (tCons (tVar 0) (tCons (tVar 2) tNil)))))
    tNever
    tNext))
theorem run_CW {g : Addr} {W : List PyData → (PyData → Prop) → Prop} {vs : List V} {H : Hp} {Q : VK} {E : XK} (h : spCW K g W vs H Q E) : t_check_words K g W { nx := fun _ H' => Q .non H', rt := Q } (L2.start ["words", "can_stand", "place"] vs) H := by
  obtain ⟨F, v, ws, rfl, e, z, hl, hw, k⟩ := h
  have A : At K none F H F H (L2.start ["words", "can_stand", "place"] [v, .ref g]) [.sh (.list ws), .vl (.ref g), .no] := by
    refine ⟨Gr.refl e, rfl, fun i o s h1 h2 => ?_, fun i j p es fs n h1 => ?_, fun a q => by cases q⟩
    · match i with
      | 0 => cases h1; cases h2; exact ⟨v, rfl, z⟩
      | 1 => cases h1; cases h2; exact rfl
      | 2 => cases h1; cases h2; trivial
      | i + 3 => cases h2
    · match i with
      | 0 => cases h1
      | 1 => cases h1
      | 2 => cases h1
      | i + 3 => cases h1
  have d : DS K none (t_check_words K g W) [.sh (.list ws), .vl (.ref g), .no] (fun _ => True) (fun _ => False) NoR NoR := by
    unfold t_check_words
    refine DS_forR1 (DA_cons (DE_cb (DA_cons (DE_var (by rfl) (DA_nil (DC_len ⟨_, _, rfl, rfl, DA_nil ⟨_, rfl, fun _ ρ => ∃ s, ρ = [.sh (.list ws), .vl (.ref g), s], ⟨_, rfl⟩, fun k ρ' hk hI => ?_, fun _ _ => trivial⟩⟩)))))) 
    obtain ⟨s, rfl⟩ := hI
    refine DS_if (DT_not (DT_B (DE_callL (g := g) (by rfl) (DA_cons (DE_var (by rfl) (DA_cons (DE_var (by rfl) (DA_nil ?_))))))))
    have hk' : k < ws.length := by simpa using hk
    rw [Int.zero_add]
    refine hw k _ hk' ⟨true, rfl, iteF ?_⟩
    exact DS_next ⟨_, rfl⟩
  refine d F H F H _ _ A (fun ρ' F' H' σ' _ A' _ => k F' H' A'.gr) (fun _ _ _ _ q => q.elim) (fun _ _ _ _ q => q.elim) fun _ _ _ _ q => q.elim
theorem DR_inT {x y : PyData} {Q : PyData → Prop} (h : ∃ (a : Str) (bs : List Str), x = .str a ∧ y = .tuple (bs.map .str) ∧ Q (.bool (decide (a ∈ bs)))) : DR K (rIn K false) x y Q := fun v w F H e q1 q2 QK k => by
  obtain ⟨a, bs, rfl, rfl, q⟩ := h
  cases q1
  cases q2 with
  | @tup p xs _ s1 s2 =>
    have es := s2.strs
    subst es
    refine ⟨p, _, rfl, .inr (Evl.ex_t e s1), rfl, by simp [flatV], ?_⟩
    have : (if false = true then !inV (V.str a) (bs.map V.str) else inV (V.str a) (bs.map V.str)) = decide (a ∈ bs) := by
      rw [if_neg (by simp)]
      unfold inV
      rw [List.any_map]
      by_cases hm : a ∈ bs
      · rw [decide_eq_true hm, List.any_eq_true]
        exact ⟨a, hm, by simp [eqV]⟩
      · rw [decide_eq_false hm, List.any_eq_false]
        intro b hb
        have : b ≠ a := fun e => hm (e ▸ hb)
        simp [eqV, this]
    rw [this]
    exact k _ _ F H q (Gr.refl e) (.bl _)
/-- a, b = x, a new list that is kept as new -/
theorem DS_parNw (h : DE K t te ρ fun d => DL K t tl ρ fun ds => ds.length < 100000 ∧ N ((ρ.set i (.sh d)).set j (.nw (.list ds)))) : DS K t (tPar i j (tCons te (tCons tl tNil))) ρ N R B C := fun F0 H0 F H σ D A kn kr kb kc =>
  h F0 H0 F H σ A _ fun d v F1 H1 q e1 z1 => by
    have A1 := A.step e1
    refine q F0 H0 F1 H1 σ A1 _ fun ds p xs F2 H2 q2 e2 n n1 n2 z2 => ?_
    obtain ⟨e3, z3⟩ := e2.ice A1 n n1 n2 z2
    have A2 := (A1.step e3).set (i := i) (s := .sh d) ⟨v, rfl, z1.up e3.ff⟩ fun _ e => by cases e
    refine ⟨v, .ref p, rfl, kn _ _ H2 _ q2.2 (A2.set (i := j) (s := .nw (.list ds)) ⟨.ref p, rfl, z3, p, xs, upd_same, (A1.fs n).old, base_none A1 (ex_none A1.fh n), by rw [z2.len]; exact q2.1, fun _ _ => rfl, fun _ e => by cases e⟩ fun _ e => by cases e) (e1.ff.trans e3.ff)⟩
/-- a = (.., a new list) -/
theorem DS_setTupNw (h : DAN K t tr ρ fun xs => xs.length ≤ 100000 ∧ N (ρ.set i (.nw (.tuple xs)))) : DS K t (tAsg (tTup tr) (gName i)) ρ N R B C := fun F0 H0 F H σ D A kn kr kb kc =>
  h F0 H0 F H σ A _ fun ds vs p xs F1 H1 hq e1 z hp hh hf hl => ⟨Evl.sz_of (by rw [z.len]; exact hq.1), fun q n => by
    have A1 := A.step e1
    have g := Gr.new A1.fh (o := .tup (vs ++ [.ref p])) n
    refine kn _ _ _ _ hq.2 ((A1.call g).set (i := i) (s := .nw (.tuple ds)) (o := some (.ref q)) ⟨.ref q, rfl, .tup (.inl (.inl upd_same)) (z.up g.ff), p, xs, g.ff _ _ hp, hh, hf, hl, (fun _ e => by cases e), fun es e => ?_⟩ fun _ e => by cases e) (e1.ff.trans g.ff)
    cases e
    refine ⟨q, vs, rfl, upd_same, ?_⟩
    have := z.len
    rw [List.length_append] at this
    exact this⟩
theorem DSN_retVar {d : PyData} (h : ρ[i]? = some (.nw d)) (q : R d) : DSN K (tRet (tVar i)) ρ R := fun F0 H0 F H σ D A k => by
  obtain ⟨o, e, v, rfl, z, n⟩ := A.slot h
  exact ⟨v, e, k d v F H q A.gr z n⟩
/-- found[k].append(c), the last of a turn -/
theorem DSW_appEnd {ds : List PyData} {m : Int} {c : V} (h : ρ[i]? = some (.nw (.tuple ds))) (hm : m + 1 = ds.length ∧ 0 ≤ m) (q : N (ρ.map Sl.keep)) :
    DSW K t (tDrop (tBM K "list" rAppend (tOp (rIx K) (tVar i) (tC (.int m))) (tCons (tC c) tNil))) ρ N R B C := fun F0 H0 F H σ D A kn kr kb kc => by
  obtain ⟨o, e, v, rfl, zd, p, xs, hp, hh, hf, hl, _, ht⟩ := A.slot h
  obtain ⟨r, vs, rfl, hr, hv⟩ := ht ds rfl
  have hat : atI (vs ++ [V.ref p]) m = some (.ref p) := by
    obtain ⟨n, rfl⟩ := Int.eq_ofNat_of_zero_le hm.2
    refine atI_nat ?_
    rw [List.getElem?_append_right (by omega), show n - vs.length = 0 by omega]
    rfl
  refine ⟨.ref r, e, .inr (.inl ⟨r, _, m, .ref p, rfl, rfl, .inl (.inl (A.fh _ _ hr)), hat, .inl ⟨rfl, xs, .inl (.inl (A.fh _ _ hp))⟩, ?_⟩)⟩
  refine ⟨p, xs, c, rfl, rfl, A.fh _ _ hp, Evl.sz_lt hl, ?_⟩
  refine kn _ F0 _ σ q ⟨⟨Ex.refl F0, fun a o n w => ?_, fun a o w => ?_, fun a o w u => by rw [u] at w; cases w⟩, by rw [List.length_map, A.len], fun j o s h1 h2 => ?_, fun a b p ds es n h1 h2 => ?_, fun a w => ?_⟩
  · rw [upd_ne (fun y => by rw [y, hh] at w; cases w)]
    exact A.gr.hh a o n w
  · rw [upd_ne (fun y => by rw [y, hf] at w; cases w)]
    exact A.fh _ _ (A.gr.ff _ _ w)
  · obtain ⟨s', h3, rfl⟩ := map_slot h2
    have w := A.sl j o s' h1 h3
    cases s' with
    | od d => exact w
    | tp => exact w
    | vl v => exact w
    | _ => trivial
  · obtain ⟨s', h3, e⟩ := map_slot h1
    cases s' <;> cases e
  · obtain ⟨w1, x, y, u, w2, w3⟩ := A.tp a w
    refine ⟨base_none A w1, x, y, u, ?_, w3⟩
    rw [upd_ne (fun y => by rw [y, hp] at w1; cases w1)]
    exact w2
end
end Cf
namespace Cf
open PySem PySem.Spec PyProof.Rows L2
open Evl (Ex)
local macro_rules | `(tactic| walk_at "d") => `(tactic| first
  | (with_reducible refine DS_seq ?_)
  | (with_reducible refine DS_if ?_)
  | (with_reducible refine DS_ret ?_)
  | (with_reducible refine DS_next ?_)
  | (with_reducible refine DS_retN ?_)
  | (with_reducible refine DS_set ?_)
  | (with_reducible refine DS_drop ?_)
  | (with_reducible refine DS_unpack ?_)
  | (with_reducible refine DS_par ?_)
  | (with_reducible refine DE_int ?_)
  | (with_reducible refine DE_bl ?_)
  | (with_reducible refine DE_non ?_)
  | (with_reducible refine DE_str ?_)
  | (with_reducible refine DE_isi ?_)
  | (with_reducible refine DE_and ?_)
  | (with_reducible refine DE_or ?_)
  | (with_reducible refine DE_not ?_)
  | (with_reducible refine DE_if ?_)
  | (with_reducible refine DE_chain ?_)
  | (with_reducible refine DE_tyIs ?_)
  | (with_reducible refine DE_tyNot ?_)
  | (with_reducible refine DE_call ?_)
  | (with_reducible refine DE_cb ?_)
  | (with_reducible refine DE_op ?_)
  | (with_reducible refine DE_un ?_)
  | (with_reducible refine DE_tup ?_)
  | (with_reducible refine DT_test ?_)
  | (with_reducible refine DT_B ?_)
  | (with_reducible refine DT_and ?_)
  | (with_reducible refine DT_or ?_)
  | (with_reducible refine DT_not ?_)
  | (with_reducible refine DT_yes ?_)
  | (with_reducible refine DA_nil ?_)
  | (with_reducible refine DA_cons ?_)
  | (with_reducible refine DO_no ?_)
  | (with_reducible refine DO_at ?_)
  | (with_reducible refine DR_minus ?_)
  | (with_reducible refine DR_mod ?_)
  | (with_reducible refine DR_div ?_)
  | (with_reducible refine DR_pow ?_)
  | (with_reducible refine DR_lt ?_)
  | (with_reducible refine DR_le ?_)
  | (with_reducible refine DR_gt ?_)
  | (with_reducible refine DR_ge ?_)
  | (with_reducible refine DR_eq ?_)
  | (with_reducible refine DR_ne ?_)
  | (with_reducible refine DR_isN ?_)
  | (with_reducible refine DR_notN ?_)
  | (with_reducible refine DU_neg ?_)
  | (with_reducible refine DC_len ?_)
  | (with_reducible refine DC_int ?_)
  | (with_reducible refine DC_abs ?_)
  | (with_reducible refine DC_max2 ?_)
  | (with_reducible refine DC_min2 ?_)
  | (with_reducible refine DC_sum ?_)
  | (with_reducible refine DC_all ?_)
  | (with_reducible refine DC_any ?_)
  | (with_reducible refine DC_repr ?_)
  | (with_reducible refine ⟨_, kb_int _, ?_⟩)
  | (with_reducible refine ⟨_, kb_bool _, ?_⟩)
  | (with_reducible refine ⟨_, kb_list _, ?_⟩)
  | (with_reducible refine ⟨_, kb_tuple _, ?_⟩)
  | (with_reducible refine ⟨_, rfl, ?_⟩)
  | (with_reducible refine ⟨_, _, rfl, rfl, ?_⟩)
  | (with_reducible refine DE_callN ?_)
  | (with_reducible refine DR_notB ?_)
  | (with_reducible refine DE_emp ?_)
  | (with_reducible refine DE_new (DL_lst ?_))
  | (with_reducible refine DE_new (DL_sl ?_))
  | (with_reducible refine DE_slT ?_)
  | (with_reducible refine DC_list ?_)
  | ((with_reducible refine' DE_callT ?k1 ?_); (case k1 => exact rfl))
  | ((with_reducible refine' DE_var ?k1 ?_); (case k1 => exact rfl))
  | ((with_reducible refine' DE_varO ?k1 ?_); (case k1 => exact rfl))
  | ((with_reducible refine' DE_varN ?k1 ?_); (case k1 => exact rfl)))


abbrev KeepsN (W : List PyData → (PyData → Prop) → Prop) (n : Nat) (tb : PySem.W.Frag → TS) : Prop :=
  ∀ (K : PySem.W.Frag) (ds : List PyData) (R : PyData → Prop), W ds R → ds.length ≤ n ∧ DSN K (tb K) (ds.map Sl.sh ++ List.replicate (n - ds.length) Sl.no) R

def itD (T : List Int) : PyData → PyData | .int n => .int (itm T n) | _ => .none
def W_composed (ds : List PyData) (R : PyData → Prop) : Prop := ∃ (s f1 : Int) (w1 : Nat) (T1 : List Int) (f2 : Int) (w2 : Nat) (T2 : List Int), ds = [rlD s f1 w1 T1, rlD s f2 w2 T2] ∧ Rl s f1 w1 T1 ∧ Rl s f2 w2 T2 ∧ s ^ (w1 + w2 - 1) ≤ 1024 ∧
  -100 ≤ f1 + f2 ∧ f1 + f2 + ((w1 + w2 - 1 : Nat) : Int) ≤ 101 ∧ R (rlD s (f1 + f2) (w1 + w2 - 1) (compT s w1 T1 w2 T2))
def t_composed (K : PySem.W.Frag) : TS :=
  (tSeq (tDrop (tCall (spP K W_check_rule) [] E0 (tCons (tVar 0) tNil)))
    (tSeq (tDrop (tCall (spP K W_check_rule) [] E0 (tCons (tVar 1) tNil)))
    (tSeq (tDrop (tCall (spP K W_check_like_signs) [] E0 (tCons (tVar 0) (tCons (tVar 1) tNil))))
    (tSeq (tAsg (tOp (rPlus K) (tOp (rIx K) (tVar 0) (tC (.int 1))) (tOp (rIx K) (tVar 1) (tC (.int 1)))) (gName 2))
    (tSeq (tAsg (tOp rMinus (tOp (rPlus K) (tOp (rIx K) (tVar 0) (tC (.int 2))) (tOp (rIx K) (tVar 1) (tC (.int 2)))) (tC (.int 1))) (gName 3))
    (tSeq (tIfS (tTest (tOp rIsNone (tCall (spP K W_count_words) [] E0 (tCons (tOp (rIx K) (tVar 0) (tC (.int 0))) (tCons (tVar 3) (tCons (tC (.int 1024)) tNil)))) (tC .non)))
    tNever
    tNext)
    (tSeq (tIfS (tNot (tB (tCall (spP K W_is_reached) [] E0 (tCons (tVar 2) (tCons (tVar 3) tNil)))))
    tNever
    tNext)
    (tSeq (tAsg (tLc (iList K (tCall (spP K W_made_numbers) [] E0 (tCons (tVar 0) (tCons (tOp (rIx K) (tVar 1) (tC (.int 2))) tNil)))) (gName 5) tYes (tOp (rIx K) (tOp (rIx K) (tVar 1) (tC (.int 3))) (tVar 5)) [5]) (gName 4))
    (tRet (tTup (tCons (tOp (rIx K) (tVar 0) (tC (.int 0))) (tCons (tVar 2) (tCons (tVar 3) (tCons (tVar 4) tNil))))))))))))))
def W_mirrored (ds : List PyData) (R : PyData → Prop) : Prop := ∃ (s f : Int) (w : Nat) (T : List Int), ds = [rlD s f w T] ∧ Rl s f w T ∧ R (rlD s (1 - f - w) w (mirT s w T))
def t_mirrored (K : PySem.W.Frag) : TS :=
  (tSeq (tDrop (tCall (spP K W_check_rule) [] E0 (tCons (tVar 0) tNil)))
    (tSeq (tAsg (tVar 0) (gTup K 4 (gNames [1, 2, 3, 4])))
    (tSeq (tAsg (tLc (iRg1 (tCons (tCB (rLenA K) (tCons (tVar 4) tNil)) tNil)) (gName 6) tYes (tCall (spP K W_word_at) [] E0 (tCons (tVar 1) (tCons (tVar 3) (tCons (tVar 6) tNil)))) [6]) (gName 5))
    (tSeq (tAsg (tLc (iList K (tVar 5)) (gName 8) tYes (tOp (rIx K) (tVar 4) (tCall (spP K W_number_of) [] E0 (tCons (tVar 1) (tCons (tRevL K (tVar 8)) tNil)))) [8]) (gName 7))
    (tRet (tTup (tCons (tVar 1) (tCons (tOp rMinus (tOp rMinus (tC (.int 1)) (tVar 2)) (tVar 3)) (tCons (tVar 3) (tCons (tVar 7) tNil))))))))))
end Cf
namespace Cf
open PySem PySem.Spec PyProof.Rows L2
open Evl (Ex)
local macro_rules | `(tactic| walk_at "d") => `(tactic| first
  | (with_reducible refine DS_seq ?_)
  | (with_reducible refine DS_if ?_)
  | (with_reducible refine DS_ret ?_)
  | (with_reducible refine DS_next ?_)
  | (with_reducible refine DS_retN ?_)
  | (with_reducible refine DS_set ?_)
  | (with_reducible refine DS_drop ?_)
  | (with_reducible refine DS_unpack ?_)
  | (with_reducible refine DS_par ?_)
  | (with_reducible refine DE_int ?_)
  | (with_reducible refine DE_bl ?_)
  | (with_reducible refine DE_non ?_)
  | (with_reducible refine DE_str ?_)
  | (with_reducible refine DE_isi ?_)
  | (with_reducible refine DE_and ?_)
  | (with_reducible refine DE_or ?_)
  | (with_reducible refine DE_not ?_)
  | (with_reducible refine DE_if ?_)
  | (with_reducible refine DE_chain ?_)
  | (with_reducible refine DE_tyIs ?_)
  | (with_reducible refine DE_tyNot ?_)
  | (with_reducible refine DE_call ?_)
  | ((with_reducible refine' DE_lenOw ?k1 ?_); (case k1 => exact rfl))
  | ((with_reducible refine' DE_reprOw ?k1 ?_); (case k1 => exact rfl))
  | ((with_reducible refine' DE_ixOw ?k1 ?_); (case k1 => exact rfl))
  | ((with_reducible refine' DE_lenOw ?k1 ?_); (case k1 => exact rfl))
  | (with_reducible refine DE_cb ?_)
  | (with_reducible refine DE_new (DL_rep (DL_lst ?_)))
  | (with_reducible refine DE_op ?_)
  | (with_reducible refine DE_un ?_)
  | (with_reducible refine DE_tup ?_)
  | (with_reducible refine DT_test ?_)
  | (with_reducible refine DT_B ?_)
  | (with_reducible refine DT_and ?_)
  | (with_reducible refine DT_or ?_)
  | (with_reducible refine DT_not ?_)
  | (with_reducible refine DT_yes ?_)
  | (with_reducible refine DA_nil ?_)
  | (with_reducible refine DA_cons ?_)
  | (with_reducible refine DO_no ?_)
  | (with_reducible refine DO_at ?_)
  | (with_reducible refine DR_minus ?_)
  | (with_reducible refine DR_mod ?_)
  | (with_reducible refine DR_div ?_)
  | (with_reducible refine DR_pow ?_)
  | (with_reducible refine DR_lt ?_)
  | (with_reducible refine DR_le ?_)
  | (with_reducible refine DR_gt ?_)
  | (with_reducible refine DR_ge ?_)
  | (with_reducible refine DR_eq ?_)
  | (with_reducible refine DR_ne ?_)
  | (with_reducible refine DR_isN ?_)
  | (with_reducible refine DR_notN ?_)
  | (with_reducible refine DU_neg ?_)
  | (with_reducible refine DC_len ?_)
  | (with_reducible refine DC_int ?_)
  | (with_reducible refine DC_abs ?_)
  | (with_reducible refine DC_max2 ?_)
  | (with_reducible refine DC_min2 ?_)
  | (with_reducible refine DC_sum ?_)
  | (with_reducible refine DC_all ?_)
  | (with_reducible refine DC_any ?_)
  | (with_reducible refine DC_repr ?_)
  | (with_reducible refine ⟨_, kb_int _, ?_⟩)
  | (with_reducible refine ⟨_, kb_bool _, ?_⟩)
  | (with_reducible refine ⟨_, kb_list _, ?_⟩)
  | (with_reducible refine ⟨_, kb_tuple _, ?_⟩)
  | (with_reducible refine ⟨_, rfl, ?_⟩)
  | (with_reducible refine ⟨_, _, rfl, rfl, ?_⟩)
  | (with_reducible refine DE_callN ?_)
  | (with_reducible refine DE_callX ?_)
  | (with_reducible refine DR_notB ?_)
  | (with_reducible refine DE_emp ?_)
  | (with_reducible refine DE_new (DL_lst ?_))
  | (with_reducible refine DE_new (DL_callF ?_))
  | (with_reducible refine DE_new (DL_sl ?_))
  | (with_reducible refine DE_slT ?_)
  | (with_reducible refine DC_list ?_)
  | ((with_reducible refine' DE_callT ?k1 ?_); (case k1 => exact rfl))
  | ((with_reducible refine' DE_var ?k1 ?_); (case k1 => exact rfl))
  | ((with_reducible refine' DE_varO ?k1 ?_); (case k1 => exact rfl))
  | ((with_reducible refine' DE_varN ?k1 ?_); (case k1 => exact rfl)))


local macro_rules | `(tactic| walk_at "d") => `(tactic| first
  | (with_reducible refine DE_starts ?_)
  | (with_reducible refine DE_join ?_)
  | (with_reducible refine DE_new (DL_split ?_))
  | (with_reducible refine DE_slS ?_)
  | (with_reducible refine DC_strI ?_)
  | (with_reducible refine DC_intS ?_)
  | (with_reducible refine DR_inS ?_)
  | (with_reducible refine DR_inT ?_))
/-! ### joined texts -/
theorem join_snoc (a : Str) (y : Str) (ys : List Str) (z : Str) : Txt.join a (y :: ys ++ [z]) = Txt.join a (y :: ys) ++ a ++ z := by
  unfold Txt.join Builtin.Str.glued
  simp only [List.cons_append, List.drop_succ_cons, List.drop_zero, List.headD_cons, List.foldl_append, List.foldl_cons, List.foldl_nil]
  rfl
theorem join_one (a y : Str) : Txt.join a [y] = y := rfl
theorem str_app_len (a b : Str) : (a ++ b).length = a.length + b.length := by
  show (a.cps ++ b.cps).size = _
  simp [Str.length]
def blank : Str := Str.ofString " "
theorem blank_len : blank.length = 1 := by decide +kernel
/-- the text of a list of integers -/
def itx (ns : List Int) : Str := Txt.join blank (ns.map tx)
def Num (v : Int) : Prop := v.natAbs < 10 ^ 40
theorem Num.t {v : Int} (h : Num v) : v.natAbs < 10 ^ 500 := Nat.lt_trans h (by decide +kernel)
theorem Num.t6 {v : Int} (h : Num v) : v.natAbs < 10 ^ 600 := Nat.lt_trans h (by decide +kernel)
theorem Num.len {v : Int} (h : Num v) : (tx v).length ≤ 41 := by
  rw [tx_len]
  exact tc_len (by decide) h
theorem num_small {s : Int} (h : s.natAbs < 1000) : Num s := Nat.lt_trans h (by decide)
theorem sum_le {ns : List Int} (h : ∀ v ∈ ns, Num v) : ((ns.map tx).map (·.length)).sum ≤ ns.length * 41 := by
  induction ns with
  | nil => simp
  | cons n ns ih =>
    have a := (h n List.mem_cons_self).len
    have b := ih fun v hv => h v (List.mem_cons_of_mem _ hv)
    simp only [List.map_cons, List.sum_cons, List.length_cons]
    omega
theorem itx_split {ns : List Int} (h : ns ≠ []) : Txt.split (itx ns) blank = ns.map tx := split_blank (by simpa using h) fun y hy => by
  obtain ⟨n, _, rfl⟩ := List.mem_map.mp hy
  exact tx_noblank n
/-! ### words of a text -/
def W_is_number (ds : List PyData) (R : PyData → Prop) : Prop := ∃ i : Int, ds = [.str (tx i)] ∧ Num i ∧ R (.bool true)
def t_is_number (K : PySem.W.Frag) : TS :=
  (tSeq (tAsg (tIf (tB (tM1 rStarts (tVar 0) (tC (.str "-")))) (tSl rSlS (tVar 0) (tPart (tC (.int 1))) tNoPart) (tVar 0)) (gName 1))
    (tSeq (tIfS (tOr (tTest (tOp rLtI (tCB (rLenA K) (tCons (tVar 1) tNil)) (tC (.int 1)))) (tOr (tTest (tOp rGtI (tCB (rLenA K) (tCons (tVar 1) tNil)) (tC (.int 40)))) (tNot (tB (tCB (rAll K) (tCons (tLc (iStr (tVar 1)) (gName 2) tYes (tOp rInS (tVar 2) (tC (.str "0123456789"))) [2]) tNil))))))
    (tRet (tC (.bl false)))
    tNext)
    (tRet (tOrV (tOp (rEqU K) (tVar 0) (tC (.str "0"))) (tNotV (tM1 rStarts (tVar 1) (tC (.str "0"))))))))
theorem dig_in {n c : Nat} (h : c ∈ dg n) : (!(Builtin.Str.occurrences (Str.ofString "0123456789") ⟨#[c]⟩ 0 (Str.ofString "0123456789").length 1).isEmpty) = true := by
  have e : Str.ofString "0123456789" = ⟨([48, 49, 50, 51, 52, 53, 54, 55, 56, 57] : List Nat).toArray⟩ := by decide +kernel
  have := dg_all n c h
  rw [e, in_one]
  refine decide_eq_true ?_
  have : c = 48 ∨ c = 49 ∨ c = 50 ∨ c = 51 ∨ c = 52 ∨ c = 53 ∨ c = 54 ∨ c = 55 ∨ c = 56 ∨ c = 57 := by omega
  simpa using this
theorem ds_is_number : Keeps W_is_number 3 t_is_number := by
  intro K ds R h
  obtain ⟨i, rfl, hi, q⟩ := h
  refine ⟨by simp, ?_⟩
  show DS K _ (t_is_number K) [.sh (.str (tx i)), .no, .no] _ _ _ _
  unfold t_is_number
  have em : Str.ofString "-" = ⟨#[45]⟩ := by decide +kernel
  have ez : Str.ofString "0" = ⟨#[48]⟩ := by decide +kernel
  have hl : (dg i.natAbs).length ≤ 40 := dg_len (by decide) hi
  have hn : 1 ≤ (dg i.natAbs).length := List.length_pos_iff.mpr (dg_ne _)
  have d0 : ∀ c, (dg i.natAbs)[0]? = some c → 48 ≤ c ∧ c ≤ 57 := fun c hc => dg_all _ c (List.mem_of_getElem? hc)
  -- behind the first statement
  have back : DS K none (tSeq (tIfS (tOr (tTest (tOp rLtI (tCB (rLenA K) (tCons (tVar 1) tNil)) (tC (.int 1)))) (tOr (tTest (tOp rGtI (tCB (rLenA K) (tCons (tVar 1) tNil)) (tC (.int 40)))) (tNot (tB (tCB (rAll K) (tCons (tLc (iStr (tVar 1)) (gName 2) tYes (tOp rInS (tVar 2) (tC (.str "0123456789"))) [2]) tNil))))))
      (tRet (tC (.bl false)))
      tNext)
      (tRet (tOrV (tOp (rEqU K) (tVar 0) (tC (.str "0"))) (tNotV (tM1 rStarts (tVar 1) (tC (.str "0")))))))
      [.sh (.str (tx i)), .sh (.str ⟨(dg i.natAbs).toArray⟩), .no] (fun _ => R .none) R NoR NoR := by
    have lz : Str.length ⟨(dg i.natAbs).toArray⟩ = (dg i.natAbs).length := by simp [Str.length]
    repeat walk_at "d"
    refine ⟨_, (dg i.natAbs).length, rfl, by show (if Str.length _ ≤ 100000 then some (Str.length _) else none) = some _; rw [if_pos (by omega), lz], ?_⟩
    repeat walk_at "d"
    rw [decide_eq_false (show ¬ (((dg i.natAbs).length : Nat) : Int) < 1 by omega)]
    refine iteF ?_
    repeat walk_at "d"
    refine ⟨_, (dg i.natAbs).length, rfl, by show (if Str.length _ ≤ 100000 then some (Str.length _) else none) = some _; rw [if_pos (by omega), lz], ?_⟩
    repeat walk_at "d"
    rw [decide_eq_false (show ¬ (40 : Int) < (((dg i.natAbs).length : Nat) : Int) by omega)]
    refine iteF ?_
    repeat walk_at "d"
    refine DE_new (DL_mapS (f := fun _ => .bool true) (DE_var (by rfl) ⟨_, rfl, by omega, fun c hc => ?_, ?_⟩))
    · refine DE_op (DE_var (by rfl) (DE_str (DR_inS ⟨_, _, rfl, rfl, ?_⟩)))
      rw [dig_in (by simpa using hc)]
    · refine DA_nil (DC_all ⟨(dg i.natAbs).map fun _ => true, by simp [List.map_map], ?_⟩)
      have ea : ((dg i.natAbs).map fun _ => true).all id = true := by simp
      rw [ea]
      refine ⟨true, rfl, iteF ?_⟩
      refine DS_next (DS_ret (DE_or (DE_op (DE_var (by rfl) (DE_str (DR_eqS ⟨_, _, rfl, rfl, ?_⟩))))))
      by_cases i0 : i = 0
      · subst i0
        have : tx 0 = Str.ofString "0" := by decide +kernel
        rw [decide_eq_true this]
        exact ⟨true, rfl, iteT q⟩
      · have : tx i ≠ Str.ofString "0" := fun e => by
          have e2 : tx 0 = Str.ofString "0" := by decide +kernel
          exact i0 (tx_inj hi.t6 (by decide +kernel) (e.trans e2.symm))
        rw [decide_eq_false this]
        refine ⟨false, rfl, iteF ?_⟩
        repeat walk_at "d"
        rw [ez, starts_one, decide_eq_false (show ¬ (dg i.natAbs)[0]? = some 48 from fun e => by
          generalize hd : dg i.natAbs = l at e
          cases l with
          | nil => cases e
          | cons c r =>
            cases e
            exact dg_head (by omega) r hd)]
        exact q
  refine DS_seq (DS_set (DE_if (DT_B (DE_starts (DE_var (by rfl) ⟨_, rfl, DE_str ⟨_, rfl, ?_⟩⟩)))))
  rw [em, tx_S, starts_one]
  by_cases hi0 : i < 0
  · have e1 : (tc i)[0]? = some 45 := by unfold tc; rw [if_pos hi0]; rfl
    rw [decide_eq_true e1]
    refine ⟨true, rfl, iteT (DE_slS (DE_var (by rfl) ⟨_, rfl, ?_, DO_at (DE_int ⟨1, rfl, DO_no ?_⟩)⟩))⟩
    · rw [← tx_S, tx_len]
      have := tc_len (k := 40) (by decide) hi
      omega
    · rw [slice_one]
      have e2 : (tc i).drop 1 = dg i.natAbs := by unfold tc; rw [if_pos hi0]; rfl
      rw [e2, ← tx_S]
      exact back
  · have et : tc i = dg i.natAbs := by unfold tc; rw [if_neg hi0]
    have e1 : ¬ (tc i)[0]? = some 45 := fun e => by
      rw [et] at e
      have := d0 _ e
      omega
    rw [decide_eq_false e1]
    refine ⟨false, rfl, iteF (DE_var (by rfl) ?_)⟩
    rw [← tx_S]
    have e3 : tx i = ⟨(dg i.natAbs).toArray⟩ := by rw [tx_S, et]
    show DS K none _ [.sh (.str (tx i)), .sh (.str (tx i)), .no] _ _ _ _
    rw [← e3] at back
    exact back
def W_is_sign_count_word (ds : List PyData) (R : PyData → Prop) : Prop := ∃ s : Int, ds = [.str (tx s)] ∧ 2 ≤ s ∧ s ≤ 4 ∧ R (.bool true)
def t_is_sign_count_word (K : PySem.W.Frag) : TS :=
  (tRet (tOp (rIn K false) (tVar 0) (tTup (tCons (tC (.str "2")) (tCons (tC (.str "3")) (tCons (tC (.str "4")) tNil))))))
theorem ds_is_sign_count_word : Keeps W_is_sign_count_word 1 t_is_sign_count_word := by
  intro K ds R h
  obtain ⟨s, rfl, s2, s4, q⟩ := h
  refine ⟨by simp, ?_⟩
  show DS K _ (t_is_sign_count_word K) [.sh (.str (tx s))] _ _ _ _
  unfold t_is_sign_count_word
  repeat walk_at "d"
  refine ⟨by simp, ?_⟩
  refine DR_inT ⟨tx s, [Str.ofString "2", Str.ofString "3", Str.ofString "4"], rfl, rfl, ?_⟩
  have : tx s ∈ [Str.ofString "2", Str.ofString "3", Str.ofString "4"] := by
    have : s = 2 ∨ s = 3 ∨ s = 4 := by omega
    rcases this with rfl | rfl | rfl <;> decide +kernel
  rw [decide_eq_true this]
  exact q
def W_words_of (ds : List PyData) (R : PyData → Prop) : Prop := ∃ ns : List Int, ds = [.str (itx ns)] ∧ ns ≠ [] ∧ (itx ns).length ≤ 99990 ∧ R (.list (ns.map fun n => .str (tx n)))
def t_words_of (K : PySem.W.Frag) : TS :=
  (tSeq (tIfS (tNot (tB (tCB (rIsi K) (tCons (tVar 0) (tCons (tC (.ty "str")) tNil)))))
    tNever
    tNext)
    (tRet (tM1 rSplit (tVar 0) (tC (.str " ")))))
theorem ds_words_of : Keeps W_words_of 1 t_words_of := by
  intro K ds R h
  obtain ⟨ns, rfl, h0, hl, q⟩ := h
  refine ⟨by simp, ?_⟩
  show DS K _ (t_words_of K) [.sh (.str (itx ns))] _ _ _ _
  unfold t_words_of
  refine DS_seq (DS_if (DT_not (DT_B (DE_isi (DE_var (by rfl) ⟨true, by rfl, true, rfl, iteF (DS_next ?_)⟩)))))
  refine DS_ret (DE_new (DL_split (DE_var (by rfl) ⟨_, rfl, DE_str ⟨_, rfl, by decide +kernel, hl, ?_⟩⟩)))
  have e := itx_split h0
  unfold blank at e
  rw [e, List.map_map]
  exact q
abbrev txs (ns : List Int) : List PyData := ns.map fun n => .str (tx n)
theorem eqvI (a b : Int) : PyData.eqv (.int a) (.int b) = decide (a = b) := by
  simp [PyData.eqv]
  rfl
def W_stands_in_weight (ds : List PyData) (R : PyData → Prop) : Prop := ∃ (s : Int) (vs : List Int) (k : Nat), ds = [.list (txs (s :: vs)), .int (k : Int)] ∧ 2 ≤ s ∧ s ≤ 4 ∧ (∀ v ∈ vs, Num v) ∧ k < vs.length + 1 ∧ R (.bool true)
def t_stands_in_weight (K : PySem.W.Frag) : TS :=
  (tSeq (tIfS (tTest (tOp (rEqU K) (tVar 1) (tC (.int 0))))
    (tRet (tCall (spP K W_is_sign_count_word) [] E0 (tCons (tOp (rIx K) (tVar 0) (tC (.int 0))) tNil)))
    tNext)
    (tRet (tCall (spP K W_is_number) [] E0 (tCons (tOp (rIx K) (tVar 0) (tVar 1)) tNil))))
def W_span_of (ds : List PyData) (R : PyData → Prop) : Prop := ∃ (s : Int) (l : Nat), ds = [.int s, .int (s ^ (l + 1))] ∧ 2 ≤ s ∧ s ≤ 4 ∧ s ^ (l + 1) ≤ 1024 ∧ R (.int ((l + 1 : Nat) : Int))
def t_span_of (K : PySem.W.Frag) : TS :=
  (tSeq (tAsg (tC (.int 1)) (gName 2))
    (tSeq (tAsg (tVar 0) (gName 3))
    (tSeq (tWhile (tTest (tOp rLtI (tVar 3) (tVar 1)))
    (tSeq (tAsg (tOp rTimes (tVar 3) (tVar 0)) (gName 3))
    (tAsg (tOp (rPlus K) (tVar 2) (tC (.int 1))) (gName 2))))
    (tRet (tVar 2)))))
theorem ds_span_of : Keeps W_span_of 4 t_span_of := by
  intro K ds R h
  obtain ⟨s, l, rfl, s2, s4, hm, q⟩ := h
  refine ⟨by simp, ?_⟩
  show DS K _ (t_span_of K) [.sh (.int s), .sh (.int (s ^ (l + 1))), .no, .no] _ _ _ _
  unfold t_span_of
  repeat walk_at "d"
  have mono : ∀ {a b : Nat}, a ≤ b → s ^ a ≤ s ^ b := fun h => pow_mono (by omega) h
  refine DS_while (fun m ρ => ∃ j, j + m = l ∧ ρ = [.sh (.int s), .sh (.int (s ^ (l + 1))), .sh (.int ((j + 1 : Nat) : Int)), .sh (.int (s ^ (j + 1)))]) l ⟨0, by omega, by rw [show s ^ (0 + 1) = s by rw [Int.pow_succ]; simp]; rfl⟩ fun m ρ' hI => ?_
  obtain ⟨j, hj, rfl⟩ := hI
  have hjl : s ^ (j + 1) ≤ 1024 := Int.le_trans (mono (by omega)) hm
  have hp : 1 ≤ s ^ (j + 1) := by
    have := mono (Nat.zero_le (j + 1))
    rw [Int.pow_zero] at this
    exact this
  repeat walk_at "d"
  by_cases hlt : s ^ (j + 1) < s ^ (l + 1)
  · rw [decide_eq_true hlt]
    have jl : j < l := by
      apply Classical.byContradiction
      intro hn
      have : j = l := by omega
      subst this
      omega
    refine iteT ?_
    repeat walk_at "d"
    refine DR_timesI ⟨_, _, rfl, rfl, .inr ⟨by omega, by omega⟩, ?_⟩
    repeat walk_at "d"
    refine DR_plusI ⟨_, _, rfl, rfl, ?_⟩
    refine ⟨m - 1, by omega, j + 1, by omega, ?_⟩
    rw [← Int.pow_succ]
    rfl
  · rw [decide_eq_false hlt]
    have jl : j = l := by
      apply Classical.byContradiction
      intro hn
      have h1 : s ^ (j + 1) * s ≤ s ^ (l + 1) := by
        rw [← Int.pow_succ]
        exact mono (by omega)
      have h2 : s ^ (j + 1) * 2 ≤ s ^ (j + 1) * s := Int.mul_le_mul_of_nonneg_left s2 (by omega)
      omega
    subst jl
    refine iteF ?_
    repeat walk_at "d"
    exact q
def W_show_weight (ds : List PyData) (R : PyData → Prop) : Prop := ∃ (s : Int) (l : Nat) (vs : List Int), ds = [wtD s l vs] ∧ Wt s l vs ∧ (∀ v ∈ vs, Num v) ∧ R (.str (itx (s :: vs)))
def t_show_weight (K : PySem.W.Frag) : TS :=
  (tSeq (tDrop (tCall (spP K W_check_weight) [] E0 (tCons (tVar 0) tNil)))
    (tSeq (tAsg (tVar 0) (gTup K 3 (gNames [1, 2, 3])))
    (tRet (tM1 (rJoin K) (tC (.str " ")) (tLc (iList K (tOp (rPlus K) (tLst (tCons (tVar 1) tNil)) (tVar 3))) (gName 4) tYes (tCB rStrI (tCons (tVar 4) tNil)) [4])))))
def W_read_weight (ds : List PyData) (R : PyData → Prop) : Prop := ∃ (s : Int) (l : Nat) (vs : List Int), ds = [.str (itx (s :: vs))] ∧ Wt s (l + 1) vs ∧ (∀ v ∈ vs, Num v) ∧ R (wtD s (l + 1) vs)
def t_read_weight (g : Addr) (K : PySem.W.Frag) : TS :=
  (tSeq (tAsg (tCall (spP K W_words_of) [] E0 (tCons (tVar 0) tNil)) (gName 1))
    (tSeq (tDrop (tCall (spCW K g W_stands_in_weight) [] E0 (tCons (tVar 1) (tCons (tC (.ref g)) tNil))))
    (tSeq (tPar 2 3 (tCons (tCB rIntS (tCons (tOp (rIx K) (tVar 1) (tC (.int 0))) tNil)) (tCons (tLc (iList K (tSl (rSlL K) (tVar 1) (tPart (tC (.int 1))) tNoPart)) (gName 4) tYes (tCB rIntS (tCons (tVar 4) tNil)) [4]) tNil)))
    (tSeq (tAsg (tTup (tCons (tVar 2) (tCons (tCall (spP K W_span_of) [] E0 (tCons (tVar 2) (tCons (tCB (rLenA K) (tCons (tVar 3) tNil)) tNil))) (tCons (tVar 3) tNil)))) (gName 5))
    (tSeq (tIfS (tNot (tB (tCall (spP K W_is_weight) [] E0 (tCons (tVar 5) tNil))))
    tNever
    tNext)
    (tRet (tVar 5)))))))
end Cf
/-! an own list is only looked at within an expression whose value is a number -/
namespace Cf
open PySem PySem.Spec PyProof.Rows L2
open Evl (Ex)
section
variable {K : PySem.W.Frag} {t : Option Addr} {ρ : Rho} {i : Nat} {te : TE}
/-- numbers, texts, True and False, None: what lies in no frozen part -/
def flatD : PyData → Bool
  | .int _ => true
  | .str _ => true
  | .bool _ => true
  | .none => true
  | _ => false
theorem flat_dq {d : PyData} {v : V} {F F' : Hp} (hf : flatD d = true) (h : Dq K F d v) : Dq K F' d v := by
  cases h with
  | int => exact .int _
  | str => exact .str _
  | bl => exact .bl _
  | non => exact .non
  | _ => exact absurd hf (by simp [flatD])
theorem DE_thawF {ds : List PyData} {Q : PyData → Prop} (h : ρ[i]? = some (.ow ds)) (he : DE K t te (ρ.set i (.sh (.list ds))) fun d => flatD d = true ∧ Q d) : DE K t te ρ Q := fun F0 H0 F H σ A QK k => by
  obtain ⟨F', A', e⟩ := A.freeze h
  refine he F0 H0 F' H σ A' _ fun d v F2 H2 hq s z => ?_
  obtain ⟨hf, q⟩ := hq
  have ex : Ex F H2 := fun a o w => s.g.fh a o (s.g.ff a o (e a o w))
  refine k d v F H2 q ⟨⟨Ex.refl F, s.g.hh, ex, fun a o h1 h2 => by rw [h2] at h1; cases h1⟩, fun a w => ?_⟩ (flat_dq hf z)
  obtain ⟨w1, x, y, u, w2, w3⟩ := s.tp a w
  refine ⟨?_, x, y, u, w2, w3⟩
  cases f : F a with
  | none => rfl
  | some o =>
    have := s.g.ff a o (e a o f)
    rw [w1] at this
    cases this
end
end Cf
namespace Cf
open PySem PySem.Spec PyProof.Rows L2
open Evl (Ex)
local macro_rules | `(tactic| walk_at "d") => `(tactic| first
  | (with_reducible refine DS_seq ?_)
  | (with_reducible refine DS_if ?_)
  | (with_reducible refine DS_ret ?_)
  | (with_reducible refine DS_next ?_)
  | (with_reducible refine DS_retN ?_)
  | (with_reducible refine DS_set ?_)
  | (with_reducible refine DS_drop ?_)
  | (with_reducible refine DS_unpack ?_)
  | (with_reducible refine DS_par ?_)
  | (with_reducible refine DE_int ?_)
  | (with_reducible refine DE_bl ?_)
  | (with_reducible refine DE_non ?_)
  | (with_reducible refine DE_str ?_)
  | (with_reducible refine DE_isi ?_)
  | (with_reducible refine DE_and ?_)
  | (with_reducible refine DE_or ?_)
  | (with_reducible refine DE_not ?_)
  | (with_reducible refine DE_if ?_)
  | (with_reducible refine DE_chain ?_)
  | (with_reducible refine DE_tyIs ?_)
  | (with_reducible refine DE_tyNot ?_)
  | (with_reducible refine DE_call ?_)
  | ((with_reducible refine' DE_lenOw ?k1 ?_); (case k1 => exact rfl))
  | ((with_reducible refine' DE_reprOw ?k1 ?_); (case k1 => exact rfl))
  | ((with_reducible refine' DE_ixOw ?k1 ?_); (case k1 => exact rfl))
  | ((with_reducible refine' DE_lenOw ?k1 ?_); (case k1 => exact rfl))
  | (with_reducible refine DE_cb ?_)
  | (with_reducible refine DE_new (DL_rep (DL_lst ?_)))
  | (with_reducible refine DE_op ?_)
  | (with_reducible refine DE_un ?_)
  | (with_reducible refine DE_tup ?_)
  | (with_reducible refine DT_test ?_)
  | (with_reducible refine DT_B ?_)
  | (with_reducible refine DT_and ?_)
  | (with_reducible refine DT_or ?_)
  | (with_reducible refine DT_not ?_)
  | (with_reducible refine DT_yes ?_)
  | (with_reducible refine DA_nil ?_)
  | (with_reducible refine DA_cons ?_)
  | (with_reducible refine DO_no ?_)
  | (with_reducible refine DO_at ?_)
  | (with_reducible refine DR_minus ?_)
  | (with_reducible refine DR_mod ?_)
  | (with_reducible refine DR_div ?_)
  | (with_reducible refine DR_pow ?_)
  | (with_reducible refine DR_lt ?_)
  | (with_reducible refine DR_le ?_)
  | (with_reducible refine DR_gt ?_)
  | (with_reducible refine DR_ge ?_)
  | (with_reducible refine DR_eq ?_)
  | (with_reducible refine DR_ne ?_)
  | (with_reducible refine DR_isN ?_)
  | (with_reducible refine DR_notN ?_)
  | (with_reducible refine DU_neg ?_)
  | (with_reducible refine DC_len ?_)
  | (with_reducible refine DC_int ?_)
  | (with_reducible refine DC_abs ?_)
  | (with_reducible refine DC_max2 ?_)
  | (with_reducible refine DC_min2 ?_)
  | (with_reducible refine DC_sum ?_)
  | (with_reducible refine DC_all ?_)
  | (with_reducible refine DC_any ?_)
  | (with_reducible refine DC_repr ?_)
  | (with_reducible refine ⟨_, kb_int _, ?_⟩)
  | (with_reducible refine ⟨_, kb_bool _, ?_⟩)
  | (with_reducible refine ⟨_, kb_list _, ?_⟩)
  | (with_reducible refine ⟨_, kb_tuple _, ?_⟩)
  | (with_reducible refine ⟨_, rfl, ?_⟩)
  | (with_reducible refine ⟨_, _, rfl, rfl, ?_⟩)
  | (with_reducible refine DE_callN ?_)
  | (with_reducible refine DE_callX ?_)
  | (with_reducible refine DR_notB ?_)
  | (with_reducible refine DE_emp ?_)
  | (with_reducible refine DE_new (DL_lst ?_))
  | (with_reducible refine DE_new (DL_callF ?_))
  | (with_reducible refine DE_new (DL_sl ?_))
  | (with_reducible refine DE_slT ?_)
  | (with_reducible refine DC_list ?_)
  | ((with_reducible refine' DE_callT ?k1 ?_); (case k1 => exact rfl))
  | ((with_reducible refine' DE_var ?k1 ?_); (case k1 => exact rfl))
  | ((with_reducible refine' DE_varO ?k1 ?_); (case k1 => exact rfl))
  | ((with_reducible refine' DE_varN ?k1 ?_); (case k1 => exact rfl)))


local macro_rules | `(tactic| walk_at "d") => `(tactic| first
  | (with_reducible refine DE_starts ?_)
  | (with_reducible refine DE_join ?_)
  | (with_reducible refine DC_strI ?_)
  | (with_reducible refine DC_intS ?_)
  | (with_reducible refine DR_inS ?_))
/-! k50: put together texts, signs as texts -/
def tJoined (ts : List TE) : TE := fun σ H Q => tJs ts Str.empty σ H fun out H1 => Q (.str out) H1
theorem pe_joinedJ {X : Cx} {v1 v2 : Expr} {rest : List Expr} {ts : List TE} {pos : Pos} (h : PJ X (v1 :: v2 :: rest) ts) : PE X (.JoinedStr (v1 :: v2 :: rest) pos) (tJoined ts) := pe_joined h
section
variable {K : PySem.W.Frag} {t : Option Addr} {ρ : Rho} {i j : Nat} {te tl : TE} {tr : TA} {c : TT} {t1 t2 : TS} {R : PyData → Prop}
def DJ (K : PySem.W.Frag) (t : Option Addr) (ρ : Rho) : List TE → Str → (Str → Prop) → Prop
  | [], acc, Q => Q acc
  | te :: ts, acc, Q => DE K t te ρ fun x => ∃ y : Str, x = .str y ∧ (acc ++ y).length ≤ 100000 ∧ DJ K t ρ ts (acc ++ y) Q
theorem js_run {P : Str → Prop} : ∀ (ts : List TE) (acc : Str) (F0 H0 F H : Hp) (σ : L2.St), At K t F0 H0 F H σ ρ → DJ K t ρ ts acc P → ∀ k : Str → Hp → Prop, (∀ s F' H', P s → Stp t F H F' H' → k s H') → tJs ts acc σ H k
  | [], acc, F0, H0, F, H, σ, A, h, k, kk => kk acc F H h A.rfl
  | te :: ts, acc, F0, H0, F, H, σ, A, h, k, kk => by
    refine h F0 H0 F H σ A _ fun x v F1 H1 hq e1 z => ?_
    obtain ⟨y, rfl, hl, hr⟩ := hq
    cases z
    exact ⟨y, rfl, Nat.le_trans hl (by decide), js_run ts (acc ++ y) F0 H0 F1 H1 σ (A.step e1) hr k fun s F' H' p e => kk s F' H' p (e1.trans e)⟩
theorem DE_joined {ts : List TE} {Q : PyData → Prop} (h : DJ K t ρ ts Str.empty fun s => Q (.str s)) : DE K t (tJoined ts) ρ Q := fun F0 H0 F H σ A QK k =>
  js_run ts Str.empty F0 H0 F H σ A h _ fun s F' H' q e => k _ _ F' H' q e (.str _)
theorem DE_fmtI {Q : PyData → Prop} (h : DE K t te ρ fun x => ∃ i : Int, x = .int i ∧ i.natAbs < 10 ^ 500 ∧ Q (.str (tx i))) : DE K t (tFmt te) ρ Q := fun F0 H0 F H σ A QK k =>
  h F0 H0 F H σ A _ fun x v F1 H1 hq e1 z => by
    obtain ⟨i, rfl, hi, q⟩ := hq
    cases z
    refine .inr ⟨i, rfl, ?_, k _ _ F1 H1 q e1 (.str _)⟩
    by_cases h0 : i.natAbs = 0
    · rw [h0]
      decide
    · rw [Nat.log2_lt h0]
      exact Nat.lt_trans hi (by decide +kernel)
theorem DE_fmtS {Q : PyData → Prop} (h : DE K t te ρ fun x => ∃ y : Str, x = .str y ∧ y.length ≤ 100000 ∧ Q (.str y)) : DE K t (tFmt te) ρ Q := fun F0 H0 F H σ A QK k =>
  h F0 H0 F H σ A _ fun x v F1 H1 hq e1 z => by
    obtain ⟨y, rfl, hl, q⟩ := hq
    cases z
    exact .inl ⟨y, rfl, Nat.le_trans hl (by decide), k _ _ F1 H1 q e1 (.str _)⟩
theorem DSN_first (h : DSN K t1 ρ R) : DSN K (tSeq t1 t2) ρ R := fun F0 H0 F H σ D A k => h F0 H0 F H σ { D with nx := t2 D } A k
theorem DSN_if (h : DT K none c ρ fun b => if b = true then DSN K t1 ρ R else DSN K t2 ρ R) : DSN K (tIfS c t1 t2) ρ R := fun F0 H0 F H σ D A k =>
  h F0 H0 F H σ A _ fun b F1 H1 hb e1 => by
    have A1 := A.step e1
    show if b = true then t1 D σ H1 else t2 D σ H1
    cases b with
    | true =>
      rw [if_pos rfl] at hb ⊢
      exact hb F0 H0 F1 H1 σ D A1 k
    | false =>
      rw [if_neg (by simp)] at hb ⊢
      exact hb F0 H0 F1 H1 σ D A1 k
end
/-! ### signs as texts -/
def one (d : Int) : Nat := 48 + d.toNat
/-- the text of some signs -/
def sgt (T : List Int) : Str := ⟨(T.map one).toArray⟩
theorem sgt_len (T : List Int) : (sgt T).length = T.length := by
  unfold sgt Str.length
  simp
theorem tx_one {d : Int} (h0 : 0 ≤ d) (h4 : d < 4) : tx d = ⟨#[one d]⟩ := by
  have : d = 0 ∨ d = 1 ∨ d = 2 ∨ d = 3 := by omega
  rcases this with rfl | rfl | rfl | rfl <;> decide +kernel
theorem int_one {d : Int} (h0 : 0 ≤ d) (h4 : d < 4) : intText? ⟨#[one d]⟩ = some d := by
  rw [← tx_one h0 h4]
  exact tx_int (Nat.lt_of_le_of_lt (show d.natAbs ≤ 4 by omega) (by decide +kernel))
theorem glue_none : ∀ (ys : List Str) (acc : Array Nat), (ys.foldl (fun acc p => acc ++ (Str.ofString "").cps ++ p.cps) acc).toList = acc.toList ++ (ys.map fun y => y.cps.toList).flatten
  | [], acc => by simp
  | y :: ys, acc => by
    rw [List.foldl_cons, glue_none ys]
    have : (Str.ofString "").cps.toList = [] := by decide +kernel
    simp [this]
theorem join_none (ys : List Str) : Txt.join (Str.ofString "") ys = ⟨((ys.map fun y => y.cps.toList).flatten).toArray⟩ := by
  unfold Txt.join Builtin.Str.glued
  congr 1
  apply Array.toList_inj.mp
  cases ys with
  | nil => simp [Str.empty]
  | cons y ys =>
    rw [List.drop_succ_cons, List.drop_zero, glue_none]
    simp
theorem join_sgt {T : List Int} (h : Signs 4 T) : Txt.join (Str.ofString "") (T.map tx) = sgt T := by
  rw [join_none]
  unfold sgt
  congr 2
  induction T with
  | nil => rfl
  | cons d T ih =>
    have hd := h d List.mem_cons_self
    rw [List.map_cons, List.map_cons, List.flatten_cons, ih fun x hx => h x (List.mem_cons_of_mem _ hx), tx_one hd.1 hd.2]
    rfl
theorem signs4 {s : Int} {T : List Int} (h : Signs s T) (s4 : s ≤ 4) : Signs 4 T := fun d hd => ⟨(h d hd).1, by have := (h d hd).2; omega⟩
theorem sgt_noblank (T : List Int) : 32 ∉ (sgt T).cps.toList := by
  unfold sgt
  intro h
  obtain ⟨d, _, e⟩ := List.mem_map.mp (show 32 ∈ T.map one by simpa using h)
  unfold one at e
  omega
namespace Tr
def W_words_of (ds : List PyData) (R : PyData → Prop) : Prop := ∃ ys : List Str, ds = [.str (Txt.join blank ys)] ∧ ys ≠ [] ∧ (∀ y ∈ ys, 32 ∉ y.cps.toList) ∧ (Txt.join blank ys).length ≤ 99990 ∧ R (.list (ys.map .str))
def t_words_of (K : PySem.W.Frag) : TS :=
  (tSeq (tIfS (tNot (tB (tCB (rIsi K) (tCons (tVar 0) (tCons (tC (.ty "str")) tNil)))))
    tNever
    tNext)
    (tRet (tM1 rSplit (tVar 0) (tC (.str " ")))))
theorem ds_words_of : Keeps W_words_of 1 t_words_of := by
  intro K ds R h
  obtain ⟨ys, rfl, h0, hb, hl, q⟩ := h
  refine ⟨by simp, ?_⟩
  show DS K _ (t_words_of K) [.sh (.str (Txt.join blank ys))] _ _ _ _
  unfold t_words_of
  refine DS_seq (DS_if (DT_not (DT_B (DE_isi (DE_var (by rfl) ⟨true, by rfl, true, rfl, iteF (DS_next ?_)⟩)))))
  refine DS_ret (DE_new (DL_split (DE_var (by rfl) ⟨_, rfl, DE_str ⟨_, rfl, by decide +kernel, hl, ?_⟩⟩)))
  have e := split_blank h0 hb
  unfold blank
  rw [e]
  exact q
end Tr
def W_are_signs (ds : List PyData) (R : PyData → Prop) : Prop := ∃ (s : Int) (T : List Int), ds = [.int s, .str (sgt T)] ∧ 2 ≤ s ∧ s ≤ 4 ∧ T ≠ [] ∧ Signs s T ∧ T.length ≤ 2000 ∧ R (.bool true)
def t_are_signs (K : PySem.W.Frag) : TS :=
  (tRet (tAndV (tOp rGeI (tCB (rLenA K) (tCons (tVar 1) tNil)) (tC (.int 1))) (tCB (rAll K) (tCons (tLc (iStr (tVar 1)) (gName 2) tYes (tOp rInS (tVar 2) (tSl rSlS (tC (.str "0123456789")) tNoPart (tPart (tVar 0)))) [2]) tNil))))
theorem ds_are_signs : Keeps W_are_signs 3 t_are_signs := by
  intro K ds R h
  obtain ⟨s, T, rfl, s2, s4, h0, hT, hl, q⟩ := h
  have hn : 1 ≤ T.length := List.length_pos_iff.mpr h0
  have lz := sgt_len T
  refine ⟨by simp, ?_⟩
  show DS K _ (t_are_signs K) [.sh (.int s), .sh (.str (sgt T)), .no] _ _ _ _
  unfold t_are_signs
  refine DS_ret (DE_and (DE_op (DE_cb (DA_cons (DE_var (by rfl) (DA_nil (DC_len ⟨_, T.length, rfl, by show (if Str.length _ ≤ 100000 then some (Str.length _) else none) = some _; rw [if_pos (by omega), lz], DE_int (DR_ge ⟨_, _, rfl, rfl, ?_⟩)⟩)))))))
  rw [decide_eq_true (show (1 : Int) ≤ ((T.length : Nat) : Int) by omega)]
  refine ⟨true, rfl, iteT ?_⟩
  refine DE_cb (DA_cons (DE_new (DL_mapS (f := fun _ => .bool true) (DE_var (by rfl) ⟨_, rfl, by omega, fun c hc => ?_, ?_⟩))))
  · refine DE_op (DE_var (by rfl) (DE_slS (DE_str ⟨_, rfl, by decide +kernel, DO_no (DO_at (DE_var (by rfl) ⟨s, rfl, DR_inS ⟨_, _, rfl, rfl, ?_⟩⟩))⟩)))
    have es : Txt.slice (Str.ofString "0123456789") none (some s) = ⟨(([48, 49, 50, 51, 52, 53, 54, 55, 56, 57] : List Nat).take s.toNat).toArray⟩ := by
      have : s = 2 ∨ s = 3 ∨ s = 4 := by omega
      rcases this with rfl | rfl | rfl <;> decide +kernel
    rw [es, in_one]
    congr 1
    refine decide_eq_true ?_
    obtain ⟨d, hd, rfl⟩ := List.mem_map.mp (show c ∈ T.map one by unfold sgt at hc; simpa using hc)
    have hd := hT d hd
    unfold one
    have hs : s = 2 ∨ s = 3 ∨ s = 4 := by omega
    have hd4 : d = 0 ∨ d = 1 ∨ d = 2 ∨ d = 3 := by omega
    rcases hs with rfl | rfl | rfl <;> rcases hd4 with rfl | rfl | rfl | rfl <;> first | decide | omega
  · refine DA_nil (DC_all ⟨(T.map one).map fun _ => true, by simp [sgt, List.map_map], ?_⟩)
    have ea : ((T.map one).map fun _ => true).all id = true := by simp
    rw [ea]
    exact q
def W_signs_in (ds : List PyData) (R : List PyData → Prop) : Prop := ∃ T : List Int, ds = [.str (sgt T)] ∧ Signs 4 T ∧ T.length ≤ 2000 ∧ R (T.map .int)
def t_signs_in (K : PySem.W.Frag) : TS :=
  (tRet (tLc (iStr (tVar 0)) (gName 1) tYes (tCB rIntS (tCons (tVar 1) tNil)) [1]))
theorem ds_signs_in : KeepsF W_signs_in 2 t_signs_in := by
  intro K ds R h
  obtain ⟨T, rfl, hT, hl, q⟩ := h
  have lz := sgt_len T
  refine ⟨by simp, ?_⟩
  show DSF K (t_signs_in K) [.sh (.str (sgt T)), .no] _
  unfold t_signs_in
  refine DSF_ret (DL_mapS (f := fun c => .int ((intText? ⟨#[c]⟩).getD 0)) (DE_var (by rfl) ⟨_, rfl, by omega, fun c hc => ?_, ?_⟩))
  · obtain ⟨d, hd, rfl⟩ := List.mem_map.mp (show c ∈ T.map one by unfold sgt at hc; simpa using hc)
    have hd := hT d hd
    refine DE_cb (DA_cons (DE_var (by rfl) (DA_nil (DC_intS ⟨_, d, rfl, int_one hd.1 hd.2, by show (1 : Nat) ≤ 640; decide, ?_⟩))))
    rw [int_one hd.1 hd.2]
    rfl
  · have e : (sgt T).cps.toList.map (fun c => PyData.int ((intText? ⟨#[c]⟩).getD 0)) = T.map .int := by
      unfold sgt
      show List.map _ (T.map one) = _
      rw [List.map_map]
      refine List.map_congr_left fun d hd => ?_
      have hd := hT d hd
      show PyData.int ((intText? ⟨#[one d]⟩).getD 0) = .int d
      rw [int_one hd.1 hd.2]
      rfl
    rw [e]
    exact q
def W_signs_text (ds : List PyData) (R : PyData → Prop) : Prop := ∃ T : List Int, ds = [LI T] ∧ Signs 4 T ∧ T.length ≤ 2000 ∧ R (.str (sgt T))
def t_signs_text (K : PySem.W.Frag) : TS :=
  (tRet (tM1 (rJoin K) (tC (.str "")) (tLc (iList K (tVar 0)) (gName 1) tYes (tCB rStrI (tCons (tVar 1) tNil)) [1])))
theorem ds_signs_text : Keeps W_signs_text 2 t_signs_text := by
  intro K ds R h
  obtain ⟨T, rfl, hT, hl, q⟩ := h
  refine ⟨by simp, ?_⟩
  show DS K _ (t_signs_text K) [.sh (LI T), .no] _ _ _ _
  unfold t_signs_text
  refine DS_ret (DE_join (DE_str ⟨_, rfl, DE_new (DL_mapL (f := fun d => match d with | .int i => .str (tx i) | _ => .none) (DE_var (by rfl) ⟨_, rfl, by simp; omega, fun d hd => ?_, ?_⟩))⟩))
  · obtain ⟨v, hm, rfl⟩ := List.mem_map.mp hd
    have hv := hT v hm
    exact DE_cb (DA_cons (DE_var (by rfl) (DA_nil (DC_strI ⟨v, rfl, Nat.lt_of_le_of_lt (show v.natAbs ≤ 4 by omega) (by decide +kernel), rfl⟩))))
  · refine ⟨T.map tx, by simp [List.map_map, Function.comp_def], ?_, ?_⟩
    · have := sum_le (ns := T) fun v hv => num_small (by have := hT v hv; omega)
      have e : (Str.ofString "").length = 0 := by decide +kernel
      rw [e, List.length_map]
      omega
    · rw [join_sgt hT]
      exact q
def W__law_signs (ds : List PyData) (R : PyData → Prop) : Prop := W_signs_text ds R
def t__law_signs (K : PySem.W.Frag) : TS :=
  (tRet (tM1 (rJoin K) (tC (.str "")) (tLc (iList K (tVar 0)) (gName 1) tYes (tCB rStrI (tCons (tVar 1) tNil)) [1])))
theorem ds__law_signs : Keeps W__law_signs 2 t__law_signs := ds_signs_text

end Cf
namespace Cf
open PySem PySem.Spec PyProof.Rows L2
open Evl (Ex)
local macro_rules | `(tactic| walk_at "d") => `(tactic| first
  | (with_reducible refine DS_seq ?_)
  | (with_reducible refine DS_if ?_)
  | (with_reducible refine DS_ret ?_)
  | (with_reducible refine DS_next ?_)
  | (with_reducible refine DS_retN ?_)
  | (with_reducible refine DS_set ?_)
  | (with_reducible refine DS_drop ?_)
  | (with_reducible refine DS_unpack ?_)
  | (with_reducible refine DS_par ?_)
  | (with_reducible refine DE_int ?_)
  | (with_reducible refine DE_bl ?_)
  | (with_reducible refine DE_non ?_)
  | (with_reducible refine DE_str ?_)
  | (with_reducible refine DE_isi ?_)
  | (with_reducible refine DE_and ?_)
  | (with_reducible refine DE_or ?_)
  | (with_reducible refine DE_not ?_)
  | (with_reducible refine DE_if ?_)
  | (with_reducible refine DE_chain ?_)
  | (with_reducible refine DE_tyIs ?_)
  | (with_reducible refine DE_tyNot ?_)
  | (with_reducible refine DE_call ?_)
  | ((with_reducible refine' DE_lenOw ?k1 ?_); (case k1 => exact rfl))
  | ((with_reducible refine' DE_reprOw ?k1 ?_); (case k1 => exact rfl))
  | ((with_reducible refine' DE_ixOw ?k1 ?_); (case k1 => exact rfl))
  | ((with_reducible refine' DE_lenOw ?k1 ?_); (case k1 => exact rfl))
  | (with_reducible refine DE_cb ?_)
  | (with_reducible refine DE_new (DL_rep (DL_lst ?_)))
  | (with_reducible refine DE_op ?_)
  | (with_reducible refine DE_un ?_)
  | (with_reducible refine DE_tup ?_)
  | (with_reducible refine DT_test ?_)
  | (with_reducible refine DT_B ?_)
  | (with_reducible refine DT_and ?_)
  | (with_reducible refine DT_or ?_)
  | (with_reducible refine DT_not ?_)
  | (with_reducible refine DT_yes ?_)
  | (with_reducible refine DA_nil ?_)
  | (with_reducible refine DA_cons ?_)
  | (with_reducible refine DO_no ?_)
  | (with_reducible refine DO_at ?_)
  | (with_reducible refine DR_minus ?_)
  | (with_reducible refine DR_mod ?_)
  | (with_reducible refine DR_div ?_)
  | (with_reducible refine DR_pow ?_)
  | (with_reducible refine DR_lt ?_)
  | (with_reducible refine DR_le ?_)
  | (with_reducible refine DR_gt ?_)
  | (with_reducible refine DR_ge ?_)
  | (with_reducible refine DR_eq ?_)
  | (with_reducible refine DR_ne ?_)
  | (with_reducible refine DR_isN ?_)
  | (with_reducible refine DR_notN ?_)
  | (with_reducible refine DU_neg ?_)
  | (with_reducible refine DC_len ?_)
  | (with_reducible refine DC_int ?_)
  | (with_reducible refine DC_abs ?_)
  | (with_reducible refine DC_max2 ?_)
  | (with_reducible refine DC_min2 ?_)
  | (with_reducible refine DC_sum ?_)
  | (with_reducible refine DC_all ?_)
  | (with_reducible refine DC_any ?_)
  | (with_reducible refine DC_repr ?_)
  | (with_reducible refine ⟨_, kb_int _, ?_⟩)
  | (with_reducible refine ⟨_, kb_bool _, ?_⟩)
  | (with_reducible refine ⟨_, kb_list _, ?_⟩)
  | (with_reducible refine ⟨_, kb_tuple _, ?_⟩)
  | (with_reducible refine ⟨_, rfl, ?_⟩)
  | (with_reducible refine ⟨_, _, rfl, rfl, ?_⟩)
  | (with_reducible refine DE_callN ?_)
  | (with_reducible refine DE_callX ?_)
  | (with_reducible refine DR_notB ?_)
  | (with_reducible refine DE_emp ?_)
  | (with_reducible refine DE_new (DL_lst ?_))
  | (with_reducible refine DE_new (DL_callF ?_))
  | (with_reducible refine DE_new (DL_sl ?_))
  | (with_reducible refine DE_slT ?_)
  | (with_reducible refine DC_list ?_)
  | ((with_reducible refine' DE_callT ?k1 ?_); (case k1 => exact rfl))
  | ((with_reducible refine' DE_var ?k1 ?_); (case k1 => exact rfl))
  | ((with_reducible refine' DE_varO ?k1 ?_); (case k1 => exact rfl))
  | ((with_reducible refine' DE_varN ?k1 ?_); (case k1 => exact rfl)))


/-! k50: show_rule, read_rule, show_ring, read_ring -/
/-- the text of a rule -/
def r3 (s f : Int) (T : List Int) : Str := tx s ++ blank ++ tx f ++ blank ++ sgt T
theorem r3_join (s f : Int) (T : List Int) : Txt.join blank [tx s, tx f, sgt T] = r3 s f T := by
  have a := join_snoc blank (tx s) [tx f] (sgt T)
  have b := join_snoc blank (tx s) [] (tx f)
  have c := join_one blank (tx s)
  rw [List.cons_append, List.singleton_append] at a
  rw [List.singleton_append] at b
  rw [a, b, c]
  rfl
theorem emp_app (x : Str) : Str.empty ++ x = x := by
  show (⟨Str.empty.cps ++ x.cps⟩ : Str) = x
  have : Str.empty.cps = #[] := rfl
  rw [this, Array.empty_append]
theorem numF {f : Int} (h0 : -100 ≤ f) (h1 : f ≤ 101) : Num f := num_small (by omega)
theorem r3_len {s f : Int} {T : List Int} (hs : Num s) (hf : Num f) (hl : T.length ≤ 1024) : (r3 s f T).length ≤ 1108 := by
  unfold r3
  rw [str_app_len, str_app_len, str_app_len, str_app_len, sgt_len, blank_len]
  have := hs.len
  have := hf.len
  omega
theorem rl_f {s f : Int} {w : Nat} {T : List Int} (h : Rl s f w T) : Num f := by
  have := h.f0
  have := h.f1
  have := h.w1
  exact numF (by omega) (by omega)
theorem rl_ok {s f : Int} {w : Nat} {T : List Int} (h : Rl s f w T) : Signs 4 T := signs4 h.ok h.s4
theorem rl_ne {s f : Int} {w : Nat} {T : List Int} (h : Rl s f w T) : T ≠ [] := by
  have hl := h.ln
  have hp : 0 < s ^ w := pow_pos' (by have := h.s2; omega) w
  intro e
  rw [e] at hl
  simp at hl
  omega
def W_stands_in_rule (ds : List PyData) (R : PyData → Prop) : Prop := ∃ (s f : Int) (T : List Int) (k : Nat), ds = [.list [.str (tx s), .str (tx f), .str (sgt T)], .int (k : Int)] ∧ 2 ≤ s ∧ s ≤ 4 ∧ Num f ∧ T ≠ [] ∧ Signs s T ∧ T.length ≤ 1024 ∧ k < 3 ∧ R (.bool true)
def t_stands_in_rule (K : PySem.W.Frag) : TS :=
  (tSeq (tIfS (tTest (tOp (rEqU K) (tVar 1) (tC (.int 0))))
    (tRet (tCall (spP K W_is_sign_count_word) [] E0 (tCons (tOp (rIx K) (tVar 0) (tC (.int 0))) tNil)))
    tNext)
    (tSeq (tIfS (tTest (tOp (rEqU K) (tVar 1) (tC (.int 1))))
    (tRet (tCall (spP K W_is_number) [] E0 (tCons (tOp (rIx K) (tVar 0) (tC (.int 1))) tNil)))
    tNext)
    (tRet (tAndV (tOp (rEqU K) (tVar 1) (tC (.int 2))) (tCall (spP K W_are_signs) [] E0 (tCons (tCB rIntS (tCons (tOp (rIx K) (tVar 0) (tC (.int 0))) tNil)) (tCons (tOp (rIx K) (tVar 0) (tC (.int 2))) tNil)))))))
theorem ds_stands_in_rule : Keeps W_stands_in_rule 2 t_stands_in_rule := by
  intro K ds R h
  obtain ⟨s, f, T, k, rfl, s2, s4, hf, h0, hT, hl, hk, q⟩ := h
  refine ⟨by simp, ?_⟩
  show DS K _ (t_stands_in_rule K) [.sh (.list [.str (tx s), .str (tx f), .str (sgt T)]), .sh (.int (k : Int))] _ _ _ _
  unfold t_stands_in_rule
  have at0 : atI [PyData.str (tx s), .str (tx f), .str (sgt T)] 0 = some (.str (tx s)) := (show atI _ ((0 : Nat) : Int) = _ from atI_nat (by rfl))
  have at1 : atI [PyData.str (tx s), .str (tx f), .str (sgt T)] 1 = some (.str (tx f)) := (show atI _ ((1 : Nat) : Int) = _ from atI_nat (by rfl))
  have at2 : atI [PyData.str (tx s), .str (tx f), .str (sgt T)] 2 = some (.str (sgt T)) := (show atI _ ((2 : Nat) : Int) = _ from atI_nat (by rfl))
  refine DS_seq (DS_if (DT_test (DE_op (DE_var (by rfl) (DE_int (DR_eq ⟨by rfl, by rfl, ?_⟩))))))
  rw [eqvI]
  have : k = 0 ∨ k = 1 ∨ k = 2 := by omega
  rcases this with rfl | rfl | rfl
  · refine ⟨true, by rfl, iteT ?_⟩
    exact DS_ret (DE_call (DA_cons (DE_op (DE_var (by rfl) (DE_int (DR_ix (.inl ⟨_, 0, _, rfl, rfl, at0, DA_nil ⟨s, rfl, s2, s4, q⟩⟩)))))))
  · refine ⟨false, by rfl, iteF (DS_next ?_)⟩
    refine DS_seq (DS_if (DT_test (DE_op (DE_var (by rfl) (DE_int (DR_eq ⟨by rfl, by rfl, ?_⟩))))))
    rw [eqvI]
    refine ⟨true, by rfl, iteT ?_⟩
    exact DS_ret (DE_call (DA_cons (DE_op (DE_var (by rfl) (DE_int (DR_ix (.inl ⟨_, 1, _, rfl, rfl, at1, DA_nil ⟨f, rfl, hf, q⟩⟩)))))))
  · refine ⟨false, by rfl, iteF (DS_next ?_)⟩
    refine DS_seq (DS_if (DT_test (DE_op (DE_var (by rfl) (DE_int (DR_eq ⟨by rfl, by rfl, ?_⟩))))))
    rw [eqvI]
    refine ⟨false, by rfl, iteF (DS_next ?_)⟩
    refine DS_ret (DE_and (DE_op (DE_var (by rfl) (DE_int (DR_eq ⟨by rfl, by rfl, ?_⟩)))))
    rw [eqvI]
    refine ⟨true, by rfl, iteT ?_⟩
    have hs := num_small (s := s) (by omega)
    exact DE_call (DA_cons (DE_cb (DA_cons (DE_op (DE_var (by rfl) (DE_int (DR_ix (.inl ⟨_, 0, _, rfl, rfl, at0, DA_nil (DC_intS ⟨_, s, rfl, tx_int hs.t6, by have := hs.len; omega, DA_cons (DE_op (DE_var (by rfl) (DE_int (DR_ix (.inl ⟨_, 2, _, rfl, rfl, at2, DA_nil ⟨s, T, rfl, s2, s4, h0, hT, by omega, q⟩⟩)))))⟩)⟩))))))))
def W_show_rule (ds : List PyData) (R : PyData → Prop) : Prop := ∃ (s f : Int) (w : Nat) (T : List Int), ds = [rlD s f w T] ∧ Rl s f w T ∧ R (.str (r3 s f T))
def t_show_rule (K : PySem.W.Frag) : TS :=
  (tSeq (tDrop (tCall (spP K W_check_rule) [] E0 (tCons (tVar 0) tNil)))
    (tSeq (tAsg (tVar 0) (gTup K 4 (gNames [1, 2, 3, 4])))
    (tRet (tJoined [(tFmt (tVar 1)), (tC (.str " ")), (tFmt (tVar 2)), (tC (.str " ")), (tFmt (tCall (spP K W_signs_text) [] E0 (tCons (tVar 4) tNil)))]))))
theorem ds_show_rule : Keeps W_show_rule 5 t_show_rule := by
  intro K ds R h
  obtain ⟨s, f, w, T, rfl, hr, q⟩ := h
  have s2 := hr.s2
  have s4 := hr.s4
  have hs := num_small (s := s) (by omega)
  have hf := rl_f hr
  have hl := rl_len hr
  have ln := r3_len hs hf hl
  unfold r3 at ln
  have l1 := hs.len
  have l2 := hf.len
  have l3 := sgt_len T
  have lb := blank_len
  refine ⟨by simp, ?_⟩
  show DS K _ (t_show_rule K) [.sh (rlD s f w T), .no, .no, .no, .no] _ _ _ _
  unfold t_show_rule
  refine DS_seq (DS_drop (DE_call (DA_cons (DE_var (by rfl) (DA_nil ⟨_, rfl, rl_short hr, rl_is hr, ?_⟩)))))
  refine DS_seq (DS_unpack (DE_var (by rfl) ⟨_, rfl, rfl, rfl, ?_⟩))
  refine DS_ret (DE_joined ?_)
  refine DE_fmtI (DE_var (by rfl) ⟨s, rfl, hs.t, _, rfl, ?_, ?_⟩)
  · rw [emp_app]
    omega
  rw [emp_app]
  refine DE_str ⟨_, rfl, by rw [str_app_len]; show _ + blank.length ≤ _; omega, ?_⟩
  refine DE_fmtI (DE_var (by rfl) ⟨f, rfl, hf.t, _, rfl, by rw [str_app_len, str_app_len]; show _ + blank.length + _ ≤ _; omega, ?_⟩)
  refine DE_str ⟨_, rfl, by rw [str_app_len, str_app_len, str_app_len]; show _ + blank.length + _ + blank.length ≤ _; omega, ?_⟩
  refine DE_fmtS (DE_call (DA_cons (DE_var (by rfl) (DA_nil ⟨T, rfl, rl_ok hr, by omega, ?_⟩))))
  refine ⟨_, rfl, by omega, _, rfl, ?_, q⟩
  rw [str_app_len, str_app_len, str_app_len, str_app_len]
  show _ + blank.length + _ + blank.length + _ ≤ _
  omega
def W_read_rule (ds : List PyData) (R : PyData → Prop) : Prop := ∃ (s f : Int) (w : Nat) (T : List Int), ds = [.str (r3 s f T)] ∧ Rl s f w T ∧ R (rlD s f w T)
def t_read_rule (g : Addr) (K : PySem.W.Frag) : TS :=
  (tSeq (tAsg (tCall (spP K Tr.W_words_of) [] E0 (tCons (tVar 0) tNil)) (gName 1))
    (tSeq (tDrop (tCall (spCW K g W_stands_in_rule) [] E0 (tCons (tVar 1) (tCons (tC (.ref g)) tNil))))
    (tSeq (tIfS (tTest (tOp (rEqU K) (tCB (rLenA K) (tCons (tVar 1) tNil)) (tC (.int 3))))
    (tSeq (tPar 2 3 (tCons (tCB rIntS (tCons (tOp (rIx K) (tVar 1) (tC (.int 0))) tNil)) (tCons (tCall (spF K W_signs_in) [] E0 (tCons (tOp (rIx K) (tVar 1) (tC (.int 2))) tNil)) tNil)))
    (tSeq (tAsg (tTup (tCons (tVar 2) (tCons (tCB rIntS (tCons (tOp (rIx K) (tVar 1) (tC (.int 1))) tNil)) (tCons (tCall (spP K W_span_of) [] E0 (tCons (tVar 2) (tCons (tCB (rLenA K) (tCons (tVar 3) tNil)) tNil))) (tCons (tVar 3) tNil))))) (gName 4))
    (tIfS (tB (tCall (spP K W_is_rule) [] E0 (tCons (tVar 4) tNil)))
    (tRet (tVar 4))
    tNext)))
    tNext)
    tNever)))
theorem ds_read_rule (g : Addr) : KeepsN W_read_rule 5 (t_read_rule g) := by
  intro K ds R h
  obtain ⟨s, f, w, T, rfl, hr, q⟩ := h
  have s2 := hr.s2
  have s4 := hr.s4
  have w1 := hr.w1
  have hs := num_small (s := s) (by omega)
  have hf := rl_f hr
  have hl := rl_len hr
  have at0 : atI [PyData.str (tx s), .str (tx f), .str (sgt T)] 0 = some (.str (tx s)) := (show atI _ ((0 : Nat) : Int) = _ from atI_nat (by rfl))
  have at1 : atI [PyData.str (tx s), .str (tx f), .str (sgt T)] 1 = some (.str (tx f)) := (show atI _ ((1 : Nat) : Int) = _ from atI_nat (by rfl))
  have at2 : atI [PyData.str (tx s), .str (tx f), .str (sgt T)] 2 = some (.str (sgt T)) := (show atI _ ((2 : Nat) : Int) = _ from atI_nat (by rfl))
  refine ⟨by simp, ?_⟩
  show DSN K (t_read_rule g K) [.sh (.str (r3 s f T)), .no, .no, .no, .no] _
  unfold t_read_rule
  refine DSN_seq (DS_set (DE_call (DA_cons (DE_var (by rfl) (DA_nil ⟨[tx s, tx f, sgt T], by rw [r3_join], by simp, fun y hy => ?_, ?_, ?_⟩)))))
  · simp only [List.mem_cons, List.not_mem_nil, or_false] at hy
    rcases hy with rfl | rfl | rfl
    · exact tx_noblank s
    · exact tx_noblank f
    · exact sgt_noblank T
  · rw [r3_join]
    have := r3_len hs hf hl
    omega
  refine DSN_seq (DS_callCW (DE_var (by rfl) ⟨[.str (tx s), .str (tx f), .str (sgt T)], rfl, by simp, fun k Q hk hQ => ⟨s, f, T, k, rfl, s2, s4, hf, rl_ne hr, hr.ok, hl, by simpa using hk, hQ⟩, ?_⟩))
  refine DSN_first (DSN_if (DT_test (DE_op (DE_cb (DA_cons (DE_var (by rfl) (DA_nil (DC_len ⟨_, 3, rfl, rfl, DE_int (DR_eq ⟨by rfl, by rfl, true, by rw [eqvI]; rfl, iteT ?_⟩)⟩))))))))
  refine DSN_seq (DS_parNw (DE_cb (DA_cons (DE_op (DE_var (by rfl) (DE_int (DR_ix (.inl ⟨_, 0, _, rfl, rfl, at0, DA_nil (DC_intS ⟨_, s, rfl, tx_int hs.t6, by have := hs.len; omega, ?_⟩)⟩))))))))
  refine DL_callF (DA_cons (DE_op (DE_var (by rfl) (DE_int (DR_ix (.inl ⟨_, 2, _, rfl, rfl, at2, DA_nil ⟨T, rfl, rl_ok hr, by omega, by simp; omega, ?_⟩⟩))))))
  obtain ⟨l, rfl⟩ : ∃ l, w = l + 1 := ⟨w - 1, by omega⟩
  have hlen : ((T.map PyData.int).length : Int) = s ^ (l + 1) := by
    rw [List.length_map]
    exact hr.ln.symm
  refine DSN_seq (DS_setTupNw (DAN_cons (DE_var (by rfl) (DAN_cons (DE_cb (DA_cons (DE_op (DE_var (by rfl) (DE_int (DR_ix (.inl ⟨_, 1, _, rfl, rfl, at1, DA_nil (DC_intS ⟨_, f, rfl, tx_int hf.t6, by have := hf.len; omega, DAN_cons (DE_call (DA_cons (DE_var (by rfl) (DA_cons (DE_cb (DA_cons (DE_varN (by rfl) (DA_nil (DC_len ⟨_, _, rfl, rfl, ?_⟩)))))))))⟩)⟩)))))))))))
  rw [hlen]
  refine DA_nil ⟨s, l, rfl, s2, s4, hr.le, DAN_last (by rfl) ⟨by simp, ?_⟩⟩
  refine DSN_if (DT_B (DE_call (DA_cons (DE_varN (by rfl) (DA_nil ⟨_, rfl, rl_short hr, ?_⟩)))))
  have ew := rl_is hr
  rw [show isRule (PyData.tuple [.int s, .int f, .int ((l + 1 : Nat) : Int), .list (T.map .int)]) = true from ew]
  exact ⟨true, rfl, iteT (DSN_retVar (by rfl) q)⟩
def W_show_ring (ds : List PyData) (R : PyData → Prop) : Prop := ∃ (s : Int) (r : List Int), ds = [.int s, LI r] ∧ 2 ≤ s ∧ s ≤ 4 ∧ Rg s r ∧ R (.str (sgt r))
def t_show_ring (K : PySem.W.Frag) : TS :=
  (tSeq (tDrop (tCall (spP K W_check_ring) [] E0 (tCons (tVar 0) (tCons (tVar 1) tNil))))
    (tRet (tCall (spP K W_signs_text) [] E0 (tCons (tVar 1) tNil))))
theorem rg_shortD {s : Int} {r : List Int} (h : Rg s r) : shortD (LI r) = true := by
  have := h.le
  exact decide_eq_true (by rw [List.length_map]; omega)
theorem ds_show_ring : Keeps W_show_ring 2 t_show_ring := by
  intro K ds R h
  obtain ⟨s, r, rfl, s2, s4, hr, q⟩ := h
  refine ⟨by simp, ?_⟩
  show DS K _ (t_show_ring K) [.sh (.int s), .sh (LI r)] _ _ _ _
  unfold t_show_ring
  refine DS_seq (DS_drop (DE_call (DA_cons (DE_var (by rfl) (DA_cons (DE_var (by rfl) (DA_nil ⟨s, _, rfl, s2, s4, rg_shortD hr, rg_is hr, ?_⟩)))))))
  exact DS_ret (DE_call (DA_cons (DE_var (by rfl) (DA_nil ⟨r, rfl, signs4 hr.ok s4, by have := hr.le; omega, q⟩))))
def W_read_ring (ds : List PyData) (R : List PyData → Prop) : Prop := ∃ (s : Int) (r : List Int), ds = [.int s, .str (sgt r)] ∧ 2 ≤ s ∧ s ≤ 4 ∧ Rg s r ∧ R (r.map .int)
def t_read_ring (K : PySem.W.Frag) : TS :=
  (tSeq (tDrop (tCall (spP K W_check_signs) [] E0 (tCons (tVar 0) tNil)))
    (tSeq (tAsg (tCall (spP K Tr.W_words_of) [] E0 (tCons (tVar 1) tNil)) (gName 2))
    (tSeq (tIfS (tNot (tB (tCall (spP K W_are_signs) [] E0 (tCons (tVar 0) (tCons (tOp (rIx K) (tVar 2) (tC (.int 0))) tNil)))))
    tNever
    tNext)
    (tSeq (tAsg (tCall (spF K W_signs_in) [] E0 (tCons (tOp (rIx K) (tVar 2) (tC (.int 0))) tNil)) (gName 3))
    (tSeq (tIfS (tOr (tTest (tOp rGtI (tCB (rLenA K) (tCons (tVar 2) tNil)) (tC (.int 1)))) (tNot (tB (tCall (spP K W_is_ring) [] E0 (tCons (tVar 0) (tCons (tVar 3) tNil))))))
    tNever
    tNext)
    (tRet (tVar 3)))))))
theorem ds_read_ring : KeepsG W_read_ring 4 t_read_ring := by
  intro K ds R h
  obtain ⟨s, r, rfl, s2, s4, hr, q⟩ := h
  have hle := hr.le
  have at0 : atI [PyData.str (sgt r)] 0 = some (.str (sgt r)) := (show atI _ ((0 : Nat) : Int) = _ from atI_nat (by rfl))
  refine ⟨by simp, ?_⟩
  show DSG K (t_read_ring K) [.sh (.int s), .sh (.str (sgt r)), .no, .no] _
  unfold t_read_ring
  refine DSG_seq (DS_drop (DE_call (DA_cons (DE_var (by rfl) (DA_nil ⟨.int s, rfl, (show isSign (.int s) = true from decide_eq_true ⟨s2, s4⟩), ?_⟩)))))
  refine DSG_seq (DS_set (DE_call (DA_cons (DE_var (by rfl) (DA_nil ⟨[sgt r], rfl, by simp, fun y hy => ?_, ?_, ?_⟩)))))
  · rw [List.mem_singleton.mp hy]
    exact sgt_noblank r
  · rw [join_one, sgt_len]
    omega
  refine DSG_seq (DS_if (DT_not (DT_B (DE_call (DA_cons (DE_var (by rfl) (DA_cons (DE_op (DE_var (by rfl) (DE_int (DR_ix (.inl ⟨_, 0, _, rfl, rfl, at0, DA_nil ⟨s, r, rfl, s2, s4, hr.ne, hr.ok, by omega, true, rfl, iteF (DS_next ?_)⟩⟩))))))))))))
  refine DSG_seq (DS_setOw (DL_callF (DA_cons (DE_op (DE_var (by rfl) (DE_int (DR_ix (.inl ⟨_, 0, _, rfl, rfl, at0, DA_nil ⟨r, rfl, signs4 hr.ok s4, by omega, ?_⟩⟩))))))))
  refine DSG_seq (DS_if (DT_or (DT_test (DE_op (DE_cb (DA_cons (DE_var (by rfl) (DA_nil (DC_len ⟨_, 1, rfl, rfl, DE_int (DR_gt ⟨_, _, rfl, rfl, ?_⟩)⟩)))))))))
  refine ⟨false, by rfl, iteF ?_⟩
  refine DT_not (DT_B (DE_thawF (i := 3) (ds := r.map .int) (by rfl) (DE_call (DA_cons (DE_var (by rfl) (DA_cons (DE_var (by rfl) (DA_nil ⟨s, LI r, rfl, s2, s4, rg_shortD hr, ?_⟩))))))))
  rw [rg_is hr]
  refine ⟨by rfl, true, rfl, iteF (DS_next ?_)⟩
  exact DSG_retOw (by rfl) q

end Cf
namespace Cf
open PySem PySem.Spec PyProof.Rows L2
open Evl (Ex)
local macro_rules | `(tactic| walk_at "d") => `(tactic| first
  | (with_reducible refine DS_seq ?_)
  | (with_reducible refine DS_if ?_)
  | (with_reducible refine DS_ret ?_)
  | (with_reducible refine DS_next ?_)
  | (with_reducible refine DS_retN ?_)
  | (with_reducible refine DS_set ?_)
  | (with_reducible refine DS_drop ?_)
  | (with_reducible refine DS_unpack ?_)
  | (with_reducible refine DS_par ?_)
  | (with_reducible refine DE_int ?_)
  | (with_reducible refine DE_bl ?_)
  | (with_reducible refine DE_non ?_)
  | (with_reducible refine DE_str ?_)
  | (with_reducible refine DE_isi ?_)
  | (with_reducible refine DE_and ?_)
  | (with_reducible refine DE_or ?_)
  | (with_reducible refine DE_not ?_)
  | (with_reducible refine DE_if ?_)
  | (with_reducible refine DE_chain ?_)
  | (with_reducible refine DE_tyIs ?_)
  | (with_reducible refine DE_tyNot ?_)
  | (with_reducible refine DE_call ?_)
  | (with_reducible refine DE_cb ?_)
  | (with_reducible refine DE_op ?_)
  | (with_reducible refine DE_un ?_)
  | (with_reducible refine DE_tup ?_)
  | (with_reducible refine DT_test ?_)
  | (with_reducible refine DT_B ?_)
  | (with_reducible refine DT_and ?_)
  | (with_reducible refine DT_or ?_)
  | (with_reducible refine DT_not ?_)
  | (with_reducible refine DT_yes ?_)
  | (with_reducible refine DA_nil ?_)
  | (with_reducible refine DA_cons ?_)
  | (with_reducible refine DO_no ?_)
  | (with_reducible refine DO_at ?_)
  | (with_reducible refine DR_minus ?_)
  | (with_reducible refine DR_mod ?_)
  | (with_reducible refine DR_div ?_)
  | (with_reducible refine DR_pow ?_)
  | (with_reducible refine DR_lt ?_)
  | (with_reducible refine DR_le ?_)
  | (with_reducible refine DR_gt ?_)
  | (with_reducible refine DR_ge ?_)
  | (with_reducible refine DR_eq ?_)
  | (with_reducible refine DR_ne ?_)
  | (with_reducible refine DR_isN ?_)
  | (with_reducible refine DR_notN ?_)
  | (with_reducible refine DU_neg ?_)
  | (with_reducible refine DC_len ?_)
  | (with_reducible refine DC_int ?_)
  | (with_reducible refine DC_abs ?_)
  | (with_reducible refine DC_max2 ?_)
  | (with_reducible refine DC_min2 ?_)
  | (with_reducible refine DC_sum ?_)
  | (with_reducible refine DC_all ?_)
  | (with_reducible refine DC_any ?_)
  | (with_reducible refine DC_repr ?_)
  | (with_reducible refine ⟨_, kb_int _, ?_⟩)
  | (with_reducible refine ⟨_, kb_bool _, ?_⟩)
  | (with_reducible refine ⟨_, kb_list _, ?_⟩)
  | (with_reducible refine ⟨_, kb_tuple _, ?_⟩)
  | (with_reducible refine ⟨_, rfl, ?_⟩)
  | (with_reducible refine ⟨_, _, rfl, rfl, ?_⟩)
  | (with_reducible refine DE_callN ?_)
  | (with_reducible refine DR_notB ?_)
  | (with_reducible refine DE_emp ?_)
  | (with_reducible refine DE_new (DL_lst ?_))
  | (with_reducible refine DE_new (DL_sl ?_))
  | (with_reducible refine DE_slT ?_)
  | (with_reducible refine DC_list ?_)
  | ((with_reducible refine' DE_callT ?k1 ?_); (case k1 => exact rfl))
  | ((with_reducible refine' DE_var ?k1 ?_); (case k1 => exact rfl))
  | ((with_reducible refine' DE_varO ?k1 ?_); (case k1 => exact rfl))
  | ((with_reducible refine' DE_varN ?k1 ?_); (case k1 => exact rfl)))


def W__law_rule (ds : List PyData) (R : PyData → Prop) : Prop := ∃ words : Int, ds = [.int words] ∧ 4 ≤ words ∧ words ≤ 1024 ∧ ∀ (s f : Int) (w : Nat) (T : List Int), Rl s f w T → s ^ w ≤ words → R (rlD s f w T)
def t__law_rule (K : PySem.W.Frag) : TS :=
  (tSeq (tAsg (tOp (rPlus K) (tC (.int 2)) (tCall (spT K W__law_draw) [] E0 (tCons (tVar 0) (tCons (tC (.int 3)) tNil)))) (gName 2))
    (tSeq (tAsg (tIf (tTest (tOp rLeI (tVar 2) (tVar 1))) (tVar 2) (tC (.int 2))) (gName 2))
    (tSeq (tAsg (tTup (tCons (tOp (rPlus K) (tC (.int 1)) (tCall (spT K W__law_draw) [] E0 (tCons (tVar 0) (tCons (tCall (spP K W__law_widest) [] E0 (tCons (tVar 2) (tCons (tVar 1) tNil))) tNil)))) (tCons (tCall (spT K W__law_draw) [] E0 (tCons (tVar 0) (tCons (tC (.int 5)) tNil))) tNil))) (gTup K 2 (gNames [3, 4])))
    (tSeq (tAsg (tOp (rIx K) (tLst (tCons (tOp rMinus (tCall (spT K W__law_draw) [] E0 (tCons (tVar 0) (tCons (tC (.int 5)) tNil))) (tC (.int 3))) (tCons (tOp rMinus (tCall (spT K W__law_draw) [] E0 (tCons (tVar 0) (tCons (tC (.int 5)) tNil))) (tC (.int 3))) (tCons (tC (.int 0)) (tCons (tUn rNegI (tC (.int 100))) (tCons (tOp rMinus (tC (.int 101)) (tVar 3)) tNil)))))) (tCall (spT K W__law_draw) [] E0 (tCons (tVar 0) (tCons (tC (.int 5)) tNil)))) (gName 5))
    (tSeq (tIfS (tTest (tOp (rEqU K) (tVar 4) (tC (.int 0))))
    (tSeq (tAsg (tTup (tCons (tCall (spT K W__law_draw) [] E0 (tCons (tVar 0) (tCons (tVar 3) tNil))) (tCons (tLc (iRg1 (tCons (tVar 2) tNil)) (gName 8) tYes (tCall (spT K W__law_draw) [] E0 (tCons (tVar 0) (tCons (tVar 2) tNil))) [8]) tNil))) (gTup K 2 (gNames [6, 7])))
    (tAsg (tLc (iRg1 (tCons (tCall (spP K W__law_many) [] E0 (tCons (tVar 2) (tCons (tVar 3) tNil))) tNil)) (gName 10) tYes (tOp (rIx K) (tVar 7) (tOp (rIx K) (tCall (spP K W__law_word) [] E0 (tCons (tVar 2) (tCons (tVar 10) (tCons (tVar 3) tNil)))) (tVar 6))) [10]) (gName 9)))
    (tIfS (tTest (tOp (rEqU K) (tVar 4) (tC (.int 1))))
    (tAsg (tLc (iRg1 (tCons (tCall (spP K W__law_many) [] E0 (tCons (tVar 2) (tCons (tVar 3) tNil))) tNil)) (gName 10) tYes (tIf (tTest (tOp (rEqU K) (tCall (spT K W__law_draw) [] E0 (tCons (tVar 0) (tCons (tC (.int 3)) tNil))) (tC (.int 0)))) (tCall (spT K W__law_draw) [] E0 (tCons (tVar 0) (tCons (tVar 2) tNil))) (tC (.int 0))) [10]) (gName 9))
    (tIfS (tAnd (tTest (tOp (rEqU K) (tVar 4) (tC (.int 2)))) (tTest (tOp (rEqU K) (tCall (spT K W__law_draw) [] E0 (tCons (tVar 0) (tCons (tC (.int 4)) tNil))) (tC (.int 0)))))
    (tAsg (tOp rTimes (tLst (tCons (tCall (spT K W__law_draw) [] E0 (tCons (tVar 0) (tCons (tVar 2) tNil))) tNil)) (tCall (spP K W__law_many) [] E0 (tCons (tVar 2) (tCons (tVar 3) tNil)))) (gName 9))
    (tAsg (tLc (iRg1 (tCons (tCall (spP K W__law_many) [] E0 (tCons (tVar 2) (tCons (tVar 3) tNil))) tNil)) (gName 10) tYes (tCall (spT K W__law_draw) [] E0 (tCons (tVar 0) (tCons (tVar 2) tNil))) [10]) (gName 9)))))
    (tRet (tTup (tCons (tVar 2) (tCons (tVar 5) (tCons (tVar 3) (tCons (tVar 9) tNil)))))))))))
theorem ds__law_rule : KeepsT W__law_rule 11 t__law_rule := by
  intro K a ds R h
  obtain ⟨words, rfl, w4, w5, q⟩ := h
  refine ⟨by simp, ?_⟩
  show DS K _ (t__law_rule K) [.tp, .sh (.int words), .no, .no, .no, .no, .no, .no, .no, .no, .no] _ _ _ _
  unfold t__law_rule
  repeat walk_at "d"
  refine ⟨3, rfl, by decide, big_lt (by decide), fun m m0 m1 => DR_plusI ⟨_, _, rfl, rfl, ?_⟩⟩
  obtain ⟨s, es⟩ : ∃ s : Int, 2 + m = s := ⟨_, rfl⟩
  rw [es]
  have s2 : 2 ≤ s := by omega
  have s4 : s ≤ 4 := by omega
  have hp : 0 < s := by omega
  repeat walk_at "d"
  rw [decide_eq_true (show s ≤ words by omega)]
  refine iteT ?_
  repeat walk_at "d"
  refine ⟨s, words, rfl, s2, s4, (by omega), fun n n1 hn => ?_⟩
  have nb := two_pow_le s2 n
  repeat walk_at "d"
  refine ⟨n, rfl, by omega, big_lt (by omega), fun b b0 b1 => DR_plusI ⟨_, _, rfl, rfl, ?_⟩⟩
  obtain ⟨w, ew⟩ : ∃ w : Nat, 1 + b = (w : Int) := ⟨(1 + b).toNat, by omega⟩
  rw [ew]
  have w1 : 1 ≤ w := by omega
  have le : s ^ w ≤ words := Int.le_trans (pow_mono (by omega) (by omega)) hn
  have pw := pow_pos' hp w
  have ww : w ≤ 10 := by
    by_cases z : w ≤ 10
    · exact z
    · have := cw_big (s := s) (l := w) s2 (by omega)
      unfold cw at this
      rw [Int.toNat_natCast, if_pos (by omega)] at this
      cases this
  repeat walk_at "d"
  refine ⟨5, rfl, by decide, big_lt (by decide), fun k k0 k1 => ?_⟩
  repeat walk_at "d"
  refine ⟨by simp, _, rfl, rfl, rfl, ?_⟩
  repeat walk_at "d"
  refine ⟨5, rfl, by decide, big_lt (by decide), fun x x0 x1 => ?_⟩
  repeat walk_at "d"
  refine ⟨5, rfl, by decide, big_lt (by decide), fun y y0 y1 => ?_⟩
  repeat walk_at "d"
  refine ⟨by simp, ?_⟩
  repeat walk_at "d"
  refine ⟨5, rfl, by decide, big_lt (by decide), fun i i0 i1 => ?_⟩
  obtain ⟨f, hf, f0, f1⟩ : ∃ f : Int, atI [PyData.int (x - 3), .int (y - 3), .int 0, .int (-100), .int (101 - (w : Int))] i = some (.int f) ∧ -100 ≤ f ∧ f + w ≤ 101 := by
    have : i = 0 ∨ i = 1 ∨ i = 2 ∨ i = 3 ∨ i = 4 := by omega
    rcases this with rfl | rfl | rfl | rfl | rfl
    · exact ⟨_, rfl, by omega, by omega⟩
    · exact ⟨_, rfl, by omega, by omega⟩
    · exact ⟨_, rfl, by omega, by omega⟩
    · exact ⟨_, rfl, by omega, by omega⟩
    · exact ⟨_, rfl, by omega, by omega⟩
  refine DR_ix (.inl ⟨_, _, _, rfl, rfl, hf, ?_⟩)
  have fin : ∀ (T : List Int) (z6 z7 z8 z10 : Sl) (N : Rho → Prop), T.length = (s ^ w).toNat → (∀ m ∈ T, 0 ≤ m ∧ m < s) → DS K (some a) (tRet (tTup (tCons (tVar 2) (tCons (tVar 5) (tCons (tVar 3) (tCons (tVar 9) tNil)))))) [.tp, .sh (.int words), .sh (.int s), .sh (.int w), .sh (.int k), .sh (.int f), z6, z7, z8, .sh (LI T), z10] N R NoR NoR := fun T z6 z7 z8 z10 N hl ht => by
    repeat walk_at "d"
    exact ⟨by simp, q s f w T ⟨s2, s4, w1, by omega, by omega, ht, f0, f1⟩ le⟩
  have draw : ∀ (ρ : Rho), ρ[0]? = some .tp → ρ[2]? = some (.sh (.int s)) → DE K (some a) (tCall (spT K W__law_draw) [] E0 (tCons (tVar 0) (tCons (tVar 2) tNil))) ρ fun y => ∃ m, y = .int m ∧ 0 ≤ m ∧ m < s := fun ρ h0 h1 =>
    DE_callT h0 (DA_cons (DE_var h1 (DA_nil ⟨s, rfl, by omega, big_lt (by omega), fun y y0 y1 => ⟨y, rfl, y0, y1⟩⟩)))
  have en : s ^ (w : Int).toNat = (((s ^ w).toNat : Nat) : Int) := by
    rw [Int.toNat_natCast]
    omega
  repeat walk_at "d"
  refine ⟨rfl, rfl, _, rfl, ite2 (fun h => ?_) fun h => ?_⟩
  · repeat walk_at "d"
    refine ⟨w, rfl, by omega, big_lt (by omega), fun p p0 p1 => ?_⟩
    repeat walk_at "d"
    refine DE_new (DL_intsR1 (P := fun m => 0 ≤ m ∧ m < s) ?_)
    repeat walk_at "d"
    refine ⟨s.toNat, by congr 2; omega, by omega, fun x hx => draw _ (by rfl) (by rfl), fun row lr hr => ?_⟩
    repeat walk_at "d"
    refine ⟨by simp, _, rfl, rfl, rfl, ?_⟩
    repeat walk_at "d"
    refine DE_new (DL_intsR1 (P := fun m => 0 ≤ m ∧ m < s) ?_)
    repeat walk_at "d"
    refine ⟨s, w, rfl, s2, s4, ?_⟩
    repeat walk_at "d"
    refine ⟨(s ^ w).toNat, by rw [en], by omega, fun x hx => ?_, fun T hl hT => ?_⟩
    · repeat walk_at "d"
      refine ⟨s, x, w, rfl, s2, s4, by omega, ?_⟩
      repeat walk_at "d"
      obtain ⟨p, rfl⟩ := Int.eq_ofNat_of_zero_le p0
      have hpw : p < (wordOf s w (x : Int)).length := by rw [wordOf_length]; omega
      obtain ⟨h0, h1⟩ := wordOf_signs hp w x _ (List.getElem_mem hpw)
      refine DR_ix (.inl ⟨_, _, _, rfl, rfl, atI_nat (by rw [List.getElem?_map, List.getElem?_eq_getElem hpw]; rfl), ?_⟩)
      have hrow : (wordOf s w (x : Int))[p].toNat < row.length := by omega
      refine DR_ix (.inl ⟨_, _, _, rfl, rfl, atI_ok h0 (by omega), _, rfl, ?_⟩)
      rw [List.getD_eq_getElem?_getD, List.getElem?_eq_getElem hrow]
      exact hr _ (List.getElem_mem hrow)
    · exact fin T _ _ _ _ _ hl hT
  · repeat walk_at "d"
    refine ⟨rfl, rfl, _, rfl, ite2 (fun h => ?_) fun h => ?_⟩
    · repeat walk_at "d"
      refine DE_new (DL_intsR1 (P := fun m => 0 ≤ m ∧ m < s) ?_)
      repeat walk_at "d"
      refine ⟨s, w, rfl, s2, s4, ?_⟩
      repeat walk_at "d"
      refine ⟨(s ^ w).toNat, by rw [en], by omega, fun x hx => ?_, fun T hl hT => ?_⟩
      · repeat walk_at "d"
        refine ⟨3, rfl, by decide, big_lt (by decide), fun j j0 j1 => ?_⟩
        repeat walk_at "d"
        refine ⟨rfl, rfl, _, rfl, ite2 (fun h => ?_) fun h => ?_⟩
        · exact draw _ (by rfl) (by rfl)
        · repeat walk_at "d"
          exact ⟨by omega, by omega⟩
      · exact fin T _ _ _ _ _ hl hT
    · repeat walk_at "d"
      refine ⟨rfl, rfl, _, rfl, ?_⟩
      have last : DS K (some a) (tAsg (tLc (iRg1 (tCons (tCall (spP K W__law_many) [] E0 (tCons (tVar 2) (tCons (tVar 3) tNil))) tNil)) (gName 10) tYes (tCall (spT K W__law_draw) [] E0 (tCons (tVar 0) (tCons (tVar 2) tNil))) [10]) (gName 9)) [.tp, .sh (.int words), .sh (.int s), .sh (.int w), .sh (.int k), .sh (.int f), .no, .no, .no, .no, .no]
          (fun ρ1 => DS K (some a) (tRet (tTup (tCons (tVar 2) (tCons (tVar 5) (tCons (tVar 3) (tCons (tVar 9) tNil)))))) ρ1 (fun _ => R .none) R NoR NoR) R NoR NoR := by
        repeat walk_at "d"
        refine DE_new (DL_intsR1 (P := fun m => 0 ≤ m ∧ m < s) ?_)
        repeat walk_at "d"
        refine ⟨s, w, rfl, s2, s4, ?_⟩
        repeat walk_at "d"
        refine ⟨(s ^ w).toNat, by rw [en], by omega, fun x hx => draw _ (by rfl) (by rfl), fun T hl hT => ?_⟩
        exact fin T _ _ _ _ _ hl hT
      refine ite2 (fun h => ?_) fun h => ?_
      · repeat walk_at "d"
        refine ⟨4, rfl, by decide, big_lt (by decide), fun j j0 j1 => ?_⟩
        repeat walk_at "d"
        refine ⟨rfl, rfl, _, rfl, ite2 (fun h => ?_) fun h => ?_⟩
        · refine DS_set (DE_new (DL_rep (DL_lst ?_)))
          refine DA_cons ((draw _ (by rfl) (by rfl)).mono fun y hy => ?_)
          obtain ⟨v, rfl, v0, v1⟩ := hy
          repeat walk_at "d"
          refine ⟨by simp, ?_⟩
          repeat walk_at "d"
          refine ⟨s, w, rfl, s2, s4, _, rfl, ?_, ?_, ?_, ?_⟩
          · rw [en]
            omega
          · rw [en]
            omega
          · rw [en]
            simp
            omega
          · rw [en, Int.toNat_natCast]
            have e : (List.replicate (s ^ w).toNat [PyData.int v]).flatten = (List.replicate (s ^ w).toNat v).map .int := by
              rw [List.map_replicate]
              generalize (s ^ w).toNat = c
              induction c with
              | zero => rfl
              | succ c ih => rw [List.replicate_succ, List.flatten_cons, ih, List.replicate_succ]; rfl
            rw [e]
            exact fin _ _ _ _ _ _ (List.length_replicate ..) fun m hm => by
              rw [(List.mem_replicate.mp hm).2]
              exact ⟨v0, v1⟩
        · exact last
      · exact last

def W__law_copied (ds : List PyData) (R : PyData → Prop) : Prop := ∃ (a b c : PyData) (vs : List PyData), ds = [.tuple [a, b, c, .list vs]] ∧ R (.tuple [a, b, c, .list vs])
def t__law_copied (K : PySem.W.Frag) : TS :=
  (tRet (tTup (tCons (tOp (rIx K) (tVar 0) (tC (.int 0))) (tCons (tOp (rIx K) (tVar 0) (tC (.int 1))) (tCons (tOp (rIx K) (tVar 0) (tC (.int 2))) (tCons (tCB (rListA K) (tCons (tOp (rIx K) (tVar 0) (tC (.int 3))) tNil)) tNil))))))
def W__law_ticked (ds : List PyData) (R : PyData → Prop) : Prop := ∃ (s f : Int) (w : Nat) (T r : List Int), ds = [rlD s f w T, LI r] ∧ Rl s f w T ∧ r ≠ [] ∧ r.length ≤ 5000 ∧ Signs s r ∧ R (LI (tick s f w T r))
def t__law_ticked (K : PySem.W.Frag) : TS :=
  (tSeq (tAsg (tVar 0) (gTup K 4 (gNames [2, 3, 4, 5])))
    (tRet (tLc (iRg1 (tCons (tCB (rLenA K) (tCons (tVar 1) tNil)) tNil)) (gName 6) tYes (tOp (rIx K) (tVar 5) (tCall (spP K W__law_number) [] E0 (tCons (tVar 2) (tCons (tVar 1) (tCons (tOp (rPlus K) (tVar 6) (tVar 3)) (tCons (tVar 4) tNil)))))) [6])))
def W__law_item (ds : List PyData) (R : PyData → Prop) : Prop := ∃ (s f : Int) (w : Nat) (T W : List Int), ds = [rlD s f w T, LI W] ∧ Rl s f w T ∧ W.length = w ∧ Signs s W ∧ R (.int (itm T (num s W)))
def t__law_item (K : PySem.W.Frag) : TS :=
  (tRet (tOp (rIx K) (tOp (rIx K) (tVar 0) (tC (.int 3))) (tCall (spP K W__law_number) [] E0 (tCons (tOp (rIx K) (tVar 0) (tC (.int 0))) (tCons (tVar 1) (tCons (tC (.int 0)) (tCons (tCB (rLenA K) (tCons (tVar 1) tNil)) tNil)))))))
def W__law_composed (ds : List PyData) (R : PyData → Prop) : Prop := ∃ (s f1 : Int) (w1 : Nat) (T1 : List Int) (f2 : Int) (w2 : Nat) (T2 : List Int), ds = [rlD s f1 w1 T1, rlD s f2 w2 T2] ∧ Rl s f1 w1 T1 ∧ Rl s f2 w2 T2 ∧ s ^ (w1 + w2 - 1) ≤ 1024 ∧ R (rlD s (f1 + f2) (w1 + w2 - 1) (compT s w1 T1 w2 T2))
def t__law_composed (K : PySem.W.Frag) : TS :=
  (tSeq (tPar 2 3 (tCons (tOp (rIx K) (tVar 0) (tC (.int 0))) (tCons (tOp rMinus (tOp (rPlus K) (tOp (rIx K) (tVar 0) (tC (.int 2))) (tOp (rIx K) (tVar 1) (tC (.int 2)))) (tC (.int 1))) tNil)))
    (tSeq (tAsg (tLst tNil) (gName 4))
    (tSeq (tFor (iRg1 (tCons (tCall (spP K W__law_many) [] E0 (tCons (tVar 2) (tCons (tVar 3) tNil))) tNil)) (gName 5)
    (tSeq (tAsg (tCall (spP K W__law_word) [] E0 (tCons (tVar 2) (tCons (tVar 5) (tCons (tVar 3) tNil)))) (gName 6))
    (tSeq (tAsg (tLc (iRg1 (tCons (tOp (rIx K) (tVar 1) (tC (.int 2))) tNil)) (gName 8) tYes (tCall (spP K W__law_item) [] E0 (tCons (tVar 0) (tCons (tSl (rSlL K) (tVar 6) (tPart (tVar 8)) (tPart (tOp (rPlus K) (tVar 8) (tOp (rIx K) (tVar 0) (tC (.int 2)))))) tNil))) [8]) (gName 7))
    (tDrop (tBM K "list" rAppend (tVar 4) (tCons (tCall (spP K W__law_item) [] E0 (tCons (tVar 1) (tCons (tVar 7) tNil))) tNil))))))
    (tRet (tTup (tCons (tVar 2) (tCons (tOp (rPlus K) (tOp (rIx K) (tVar 0) (tC (.int 1))) (tOp (rIx K) (tVar 1) (tC (.int 1)))) (tCons (tVar 3) (tCons (tVar 4) tNil)))))))))
def W__law_mirrored (ds : List PyData) (R : PyData → Prop) : Prop := ∃ (s f : Int) (w : Nat) (T : List Int), ds = [rlD s f w T] ∧ Rl s f w T ∧ R (rlD s (1 - f - w) w (mirT s w T))
def t__law_mirrored (K : PySem.W.Frag) : TS :=
  (tSeq (tAsg (tVar 0) (gTup K 4 (gNames [1, 2, 3, 4])))
    (tSeq (tAsg (tLc (iRg1 (tCons (tCB (rLenA K) (tCons (tVar 4) tNil)) tNil)) (gName 6) tYes (tCall (spP K W__law_item) [] E0 (tCons (tVar 0) (tCons (tRevL K (tCall (spP K W__law_word) [] E0 (tCons (tVar 1) (tCons (tVar 6) (tCons (tVar 3) tNil))))) tNil))) [6]) (gName 5))
    (tRet (tTup (tCons (tVar 1) (tCons (tOp rMinus (tOp rMinus (tC (.int 1)) (tVar 2)) (tVar 3)) (tCons (tVar 3) (tCons (tVar 5) tNil))))))))
end Cf
namespace Cf
open PySem PySem.Spec PyProof.Rows L2
open Evl (Ex)
local macro_rules | `(tactic| walk_at "d") => `(tactic| first
  | (with_reducible refine DS_seq ?_)
  | (with_reducible refine DS_if ?_)
  | (with_reducible refine DS_ret ?_)
  | (with_reducible refine DS_next ?_)
  | (with_reducible refine DS_retN ?_)
  | (with_reducible refine DS_set ?_)
  | (with_reducible refine DS_drop ?_)
  | (with_reducible refine DS_unpack ?_)
  | (with_reducible refine DS_par ?_)
  | (with_reducible refine DE_int ?_)
  | (with_reducible refine DE_bl ?_)
  | (with_reducible refine DE_non ?_)
  | (with_reducible refine DE_str ?_)
  | (with_reducible refine DE_isi ?_)
  | (with_reducible refine DE_and ?_)
  | (with_reducible refine DE_or ?_)
  | (with_reducible refine DE_not ?_)
  | (with_reducible refine DE_if ?_)
  | (with_reducible refine DE_chain ?_)
  | (with_reducible refine DE_tyIs ?_)
  | (with_reducible refine DE_tyNot ?_)
  | (with_reducible refine DE_call ?_)
  | (with_reducible refine DE_cb ?_)
  | (with_reducible refine DE_op ?_)
  | (with_reducible refine DE_un ?_)
  | (with_reducible refine DE_tup ?_)
  | (with_reducible refine DT_test ?_)
  | (with_reducible refine DT_B ?_)
  | (with_reducible refine DT_and ?_)
  | (with_reducible refine DT_or ?_)
  | (with_reducible refine DT_not ?_)
  | (with_reducible refine DT_yes ?_)
  | (with_reducible refine DA_nil ?_)
  | (with_reducible refine DA_cons ?_)
  | (with_reducible refine DO_no ?_)
  | (with_reducible refine DO_at ?_)
  | (with_reducible refine DR_minus ?_)
  | (with_reducible refine DR_mod ?_)
  | (with_reducible refine DR_div ?_)
  | (with_reducible refine DR_pow ?_)
  | (with_reducible refine DR_lt ?_)
  | (with_reducible refine DR_le ?_)
  | (with_reducible refine DR_gt ?_)
  | (with_reducible refine DR_ge ?_)
  | (with_reducible refine DR_eq ?_)
  | (with_reducible refine DR_ne ?_)
  | (with_reducible refine DR_isN ?_)
  | (with_reducible refine DR_notN ?_)
  | (with_reducible refine DU_neg ?_)
  | (with_reducible refine DC_len ?_)
  | (with_reducible refine DC_int ?_)
  | (with_reducible refine DC_abs ?_)
  | (with_reducible refine DC_max2 ?_)
  | (with_reducible refine DC_min2 ?_)
  | (with_reducible refine DC_sum ?_)
  | (with_reducible refine DC_all ?_)
  | (with_reducible refine DC_any ?_)
  | (with_reducible refine DC_repr ?_)
  | (with_reducible refine ⟨_, kb_int _, ?_⟩)
  | (with_reducible refine ⟨_, kb_bool _, ?_⟩)
  | (with_reducible refine ⟨_, kb_list _, ?_⟩)
  | (with_reducible refine ⟨_, kb_tuple _, ?_⟩)
  | (with_reducible refine ⟨_, rfl, ?_⟩)
  | (with_reducible refine ⟨_, _, rfl, rfl, ?_⟩)
  | (with_reducible refine DE_callN ?_)
  | (with_reducible refine DR_notB ?_)
  | (with_reducible refine DE_emp ?_)
  | (with_reducible refine DE_new (DL_lst ?_))
  | (with_reducible refine DE_new (DL_sl ?_))
  | (with_reducible refine DE_slT ?_)
  | (with_reducible refine DC_list ?_)
  | ((with_reducible refine' DE_callT ?k1 ?_); (case k1 => exact rfl))
  | ((with_reducible refine' DE_var ?k1 ?_); (case k1 => exact rfl))
  | ((with_reducible refine' DE_varO ?k1 ?_); (case k1 => exact rfl))
  | ((with_reducible refine' DE_varN ?k1 ?_); (case k1 => exact rfl)))


theorem shp_rl (s f : Int) (w : Nat) (T : List Int) : SeqAt.shaped (rlD s f w T) = true := by
  unfold SeqAt.shaped
  simp only [PyData.canLay0, PyData.canLayAll0, PyData.depth, PyData.depthAll, lay_ints, dep_ints]
  decide
theorem shw_rl {s f : Int} {w : Nat} {T : List Int} (hs : -1000 ≤ s ∧ s ≤ 1000) (hf : -1000 ≤ f ∧ f ≤ 1000) (hw : w ≤ 1000) (hl : T.length ≤ 1024) (hT : Signs s T) : Shw 300000 4 (rlD s f w T) := by
  have iv : ∀ d ∈ T.map PyData.int, Itm d := fun d hd => by
    obtain ⟨v, hm, rfl⟩ := List.mem_map.mp hd
    have := hT v hm
    exact itm_int (by omega)
  have sv : Shw 67720 2 (LI T) := shw_vals iv (by rw [List.length_map]; omega)
  exact (nice_4 (itm_up (itm_int (by omega))) (itm_up (itm_int (by omega))) (itm_up (itm_int (by omega))) sv).2
theorem shw_fits {n k : Nat} {d : PyData} (h : Shw n k d) (hn : n ≤ 300000) (hk : k ≤ 60) : d.showable = true ∧ d.shown.length ≤ sizeLine ∧ d.depth ≤ 60 :=
  ⟨h.sb, by rw [sizeLine_eq]; exact Nat.le_trans h.ln (by omega), Nat.le_trans h.dp hk⟩
def W__law_both_right (ds : List PyData) (R : PyData → Prop) : Prop := ∃ (s f1 : Int) (w1 : Nat) (T1 : List Int) (f2 : Int) (w2 : Nat) (T2 : List Int), ds = [rlD s f1 w1 T1, rlD s f2 w2 T2] ∧ Rl s f1 w1 T1 ∧ Rl s f2 w2 T2 ∧ s ^ (w1 + w2 - 1) ≤ 1024 ∧ R (.bool true)
def t__law_both_right (K : PySem.W.Frag) : TS :=
  (tSeq (tPar 3 4 (tCons (tCall (spP K W__law_copied) [] E0 (tCons (tVar 1) tNil)) (tCons (tCall (spP K W__law_copied) [] E0 (tCons (tVar 2) tNil)) tNil)))
    (tSeq (tAsg (tCall (spP K W__law_composed) [] E0 (tCons (tVar 1) (tCons (tVar 2) tNil))) (gName 5))
    (tSeq (tIfS (tOr (tTest (tOp rLtI (tOp (rIx K) (tVar 5) (tC (.int 1))) (tUn rNegI (tC (.int 100))))) (tTest (tOp rGtI (tOp (rPlus K) (tOp (rIx K) (tVar 5) (tC (.int 1))) (tOp (rIx K) (tVar 5) (tC (.int 2)))) (tC (.int 101)))))
    (tRet (tC (.bl true)))
    tNext)
    (tSeq (tAsg (tCall (spN K W_composed) [] E0 (tCons (tVar 3) (tCons (tVar 4) tNil))) (gName 6))
    (tSeq (tIfS (tOr (tTest (tOp (rNeU K) (tCB (rReprD K) (tCons (tVar 6) tNil)) (tCB (rReprD K) (tCons (tVar 5) tNil)))) (tOr (tTest (tOp (rNeU K) (tVar 3) (tVar 1))) (tOr (tTest (tOp (rNeU K) (tVar 4) (tVar 2))) (tTest (tOp rNotB (tCall (spP K W_is_rule) [] E0 (tCons (tVar 6) tNil)) (tC (.bl true)))))))
    (tRet (tC (.bl false)))
    tNext)
    (tSeq (tFor (iList K (tLst (tCons (tC (.int 12)) (tCons (tC (.int 60)) tNil)))) (gName 7)
    (tSeq (tAsg (tCall (spT K W__law_ring) [] E0 (tCons (tVar 0) (tCons (tOp (rIx K) (tVar 1) (tC (.int 0))) (tCons (tVar 7) tNil)))) (gName 8))
    (tIfS (tTest (tOp (rNeU K) (tCall (spP K W__law_ticked) [] E0 (tCons (tVar 6) (tCons (tVar 8) tNil))) (tCall (spP K W__law_ticked) [] E0 (tCons (tVar 2) (tCons (tCall (spP K W__law_ticked) [] E0 (tCons (tVar 1) (tCons (tVar 8) tNil))) tNil)))))
    (tRet (tC (.bl false)))
    tNext)))
    (tSeq (tDrop (tBM K "list" rAppend (tOp (rIx K) (tVar 6) (tC (.int 3))) (tCons (tC (.int 0)) tNil)))
    (tRet (tOp (rEqU K) (tCB (rReprD K) (tCons (tCall (spN K W_composed) [] E0 (tCons (tVar 3) (tCons (tVar 4) tNil))) tNil)) (tCB (rReprD K) (tCons (tVar 5) tNil)))))))))))
def W__law_mirrored_right (ds : List PyData) (R : PyData → Prop) : Prop := ∃ (s f : Int) (w : Nat) (T : List Int), ds = [rlD s f w T] ∧ Rl s f w T ∧ R (.bool true)
def t__law_mirrored_right (K : PySem.W.Frag) : TS :=
  (tSeq (tPar 2 3 (tCons (tCall (spP K W__law_copied) [] E0 (tCons (tVar 1) tNil)) (tCons (tCall (spP K W__law_mirrored) [] E0 (tCons (tVar 1) tNil)) tNil)))
    (tSeq (tAsg (tCall (spN K W_mirrored) [] E0 (tCons (tVar 2) tNil)) (gName 4))
    (tSeq (tIfS (tOr (tTest (tOp (rNeU K) (tCB (rReprD K) (tCons (tVar 4) tNil)) (tCB (rReprD K) (tCons (tVar 3) tNil)))) (tOr (tTest (tOp (rNeU K) (tVar 2) (tVar 1))) (tOr (tTest (tOp rNotB (tCall (spP K W_is_rule) [] E0 (tCons (tVar 4) tNil)) (tC (.bl true)))) (tTest (tOp (rNeU K) (tCall (spN K W_mirrored) [] E0 (tCons (tVar 4) tNil)) (tVar 1))))))
    (tRet (tC (.bl false)))
    tNext)
    (tSeq (tFor (iList K (tLst (tCons (tC (.int 12)) (tCons (tC (.int 60)) tNil)))) (gName 5)
    (tSeq (tAsg (tCall (spT K W__law_ring) [] E0 (tCons (tVar 0) (tCons (tOp (rIx K) (tVar 1) (tC (.int 0))) (tCons (tVar 5) tNil)))) (gName 6))
    (tIfS (tTest (tOp (rNeU K) (tCall (spP K W__law_ticked) [] E0 (tCons (tVar 4) (tCons (tRevL K (tVar 6)) tNil))) (tRevL K (tCall (spP K W__law_ticked) [] E0 (tCons (tVar 1) (tCons (tVar 6) tNil))))))
    (tRet (tC (.bl false)))
    tNext)))
    (tSeq (tDrop (tBM K "list" rAppend (tOp (rIx K) (tVar 4) (tC (.int 3))) (tCons (tC (.int 0)) tNil)))
    (tRet (tOp (rEqU K) (tCB (rReprD K) (tCons (tCall (spN K W_mirrored) [] E0 (tCons (tVar 2) tNil)) tNil)) (tCB (rReprD K) (tCons (tVar 3) tNil)))))))))
end Cf
namespace Cf
open PySem PySem.Spec PyProof.Rows L2
open Evl (Ex)
local macro_rules | `(tactic| walk_at "d") => `(tactic| first
  | (with_reducible refine DS_seq ?_)
  | (with_reducible refine DS_if ?_)
  | (with_reducible refine DS_ret ?_)
  | (with_reducible refine DS_next ?_)
  | (with_reducible refine DS_retN ?_)
  | (with_reducible refine DS_set ?_)
  | (with_reducible refine DS_drop ?_)
  | (with_reducible refine DS_unpack ?_)
  | (with_reducible refine DS_par ?_)
  | (with_reducible refine DE_int ?_)
  | (with_reducible refine DE_bl ?_)
  | (with_reducible refine DE_non ?_)
  | (with_reducible refine DE_str ?_)
  | (with_reducible refine DE_isi ?_)
  | (with_reducible refine DE_and ?_)
  | (with_reducible refine DE_or ?_)
  | (with_reducible refine DE_not ?_)
  | (with_reducible refine DE_if ?_)
  | (with_reducible refine DE_chain ?_)
  | (with_reducible refine DE_tyIs ?_)
  | (with_reducible refine DE_tyNot ?_)
  | (with_reducible refine DE_call ?_)
  | ((with_reducible refine' DE_lenOw ?k1 ?_); (case k1 => exact rfl))
  | ((with_reducible refine' DE_reprOw ?k1 ?_); (case k1 => exact rfl))
  | ((with_reducible refine' DE_ixOw ?k1 ?_); (case k1 => exact rfl))
  | ((with_reducible refine' DE_lenOw ?k1 ?_); (case k1 => exact rfl))
  | (with_reducible refine DE_cb ?_)
  | (with_reducible refine DE_new (DL_rep (DL_lst ?_)))
  | (with_reducible refine DE_op ?_)
  | (with_reducible refine DE_un ?_)
  | (with_reducible refine DE_tup ?_)
  | (with_reducible refine DT_test ?_)
  | (with_reducible refine DT_B ?_)
  | (with_reducible refine DT_and ?_)
  | (with_reducible refine DT_or ?_)
  | (with_reducible refine DT_not ?_)
  | (with_reducible refine DT_yes ?_)
  | (with_reducible refine DA_nil ?_)
  | (with_reducible refine DA_cons ?_)
  | (with_reducible refine DO_no ?_)
  | (with_reducible refine DO_at ?_)
  | (with_reducible refine DR_minus ?_)
  | (with_reducible refine DR_mod ?_)
  | (with_reducible refine DR_div ?_)
  | (with_reducible refine DR_pow ?_)
  | (with_reducible refine DR_lt ?_)
  | (with_reducible refine DR_le ?_)
  | (with_reducible refine DR_gt ?_)
  | (with_reducible refine DR_ge ?_)
  | (with_reducible refine DR_eq ?_)
  | (with_reducible refine DR_ne ?_)
  | (with_reducible refine DR_isN ?_)
  | (with_reducible refine DR_notN ?_)
  | (with_reducible refine DU_neg ?_)
  | (with_reducible refine DC_len ?_)
  | (with_reducible refine DC_int ?_)
  | (with_reducible refine DC_abs ?_)
  | (with_reducible refine DC_max2 ?_)
  | (with_reducible refine DC_min2 ?_)
  | (with_reducible refine DC_sum ?_)
  | (with_reducible refine DC_all ?_)
  | (with_reducible refine DC_any ?_)
  | (with_reducible refine DC_repr ?_)
  | (with_reducible refine ⟨_, kb_int _, ?_⟩)
  | (with_reducible refine ⟨_, kb_bool _, ?_⟩)
  | (with_reducible refine ⟨_, kb_list _, ?_⟩)
  | (with_reducible refine ⟨_, kb_tuple _, ?_⟩)
  | (with_reducible refine ⟨_, rfl, ?_⟩)
  | (with_reducible refine ⟨_, _, rfl, rfl, ?_⟩)
  | (with_reducible refine DE_callN ?_)
  | (with_reducible refine DE_callX ?_)
  | (with_reducible refine DR_notB ?_)
  | (with_reducible refine DE_emp ?_)
  | (with_reducible refine DE_new (DL_lst ?_))
  | (with_reducible refine DE_new (DL_callF ?_))
  | (with_reducible refine DE_new (DL_sl ?_))
  | (with_reducible refine DE_slT ?_)
  | (with_reducible refine DC_list ?_)
  | ((with_reducible refine' DE_callT ?k1 ?_); (case k1 => exact rfl))
  | ((with_reducible refine' DE_var ?k1 ?_); (case k1 => exact rfl))
  | ((with_reducible refine' DE_varO ?k1 ?_); (case k1 => exact rfl))
  | ((with_reducible refine' DE_varN ?k1 ?_); (case k1 => exact rfl)))


local macro_rules | `(tactic| walk_at "d") => `(tactic| first
  | (with_reducible refine DC_strI ?_)
  | (with_reducible refine DR_catS ?_))
/-! k51: the law's text of a weight -/
def W__law_right (ds : List PyData) (R : PyData → Prop) : Prop := ∃ (s : Int) (l : Nat) (vs : List Int), ds = [wtD s (l + 1) vs] ∧ Wt s (l + 1) vs ∧ (∀ v ∈ vs, Num v) ∧ R (.bool true)
def t__law_right (K : PySem.W.Frag) : TS :=
  (tSeq (tPar 1 2 (tCons (tCB rStrI (tCons (tOp (rIx K) (tVar 0) (tC (.int 0))) tNil)) (tCons (tCB (rReprD K) (tCons (tVar 0) tNil)) tNil)))
    (tSeq (tFor (iList K (tOp (rIx K) (tVar 0) (tC (.int 2)))) (gName 3)
    (tAsg (tOp (rPlus K) (tOp (rPlus K) (tVar 1) (tC (.str " "))) (tCB rStrI (tCons (tVar 3) tNil))) (gName 1)))
    (tSeq (tIfS (tOr (tTest (tOp (rNeU K) (tCB (rReprD K) (tCons (tCall (spP K W_show_weight) [] E0 (tCons (tVar 0) tNil)) tNil)) (tCB (rReprD K) (tCons (tVar 1) tNil)))) (tTest (tOp (rNeU K) (tCB (rReprD K) (tCons (tVar 0) tNil)) (tVar 2))))
    (tRet (tC (.bl false)))
    tNext)
    (tSeq (tFor (iRg1 (tCons (tC (.int 2)) tNil)) (gName 4)
    (tSeq (tAsg (tCall (spN K W_read_weight) [] E0 (tCons (tVar 1) tNil)) (gName 5))
    (tSeq (tIfS (tTest (tOp (rNeU K) (tCB (rReprD K) (tCons (tVar 5) tNil)) (tVar 2)))
    (tRet (tC (.bl false)))
    tNext)
    (tDrop (tBM K "list" rAppend (tOp (rIx K) (tVar 5) (tC (.int 2))) (tCons (tC (.str "?")) tNil))))))
    (tRet (tC (.bl true)))))))
theorem str_same (a : Str) : (!decide (a = a)) = false := by simp
theorem sizeLine_eq' : sizeLine = 16777216 := by decide +kernel
theorem str_fits {x : Str} (h : x.length ≤ 50000) (hc : ∀ c ∈ x.cps.toList, c < 16 ^ 8) : (PyData.str x).showable = true ∧ (PyData.str x).shown.length ≤ sizeLine ∧ (PyData.str x).depth ≤ 60 := by
  refine ⟨by simp only [PyData.showable], ?_, by simp only [PyData.depth]; decide⟩
  simp only [PyData.shown]
  have := StrLaws.reprText_len x hc
  rw [sizeLine_eq']
  omega
end Cf
namespace Cf
open PySem PySem.Spec PyProof.Rows L2
open Evl (Ex)
local macro_rules | `(tactic| walk_at "d") => `(tactic| first
  | (with_reducible refine DS_seq ?_)
  | (with_reducible refine DS_if ?_)
  | (with_reducible refine DS_ret ?_)
  | (with_reducible refine DS_next ?_)
  | (with_reducible refine DS_retN ?_)
  | (with_reducible refine DS_set ?_)
  | (with_reducible refine DS_drop ?_)
  | (with_reducible refine DS_unpack ?_)
  | (with_reducible refine DS_par ?_)
  | (with_reducible refine DE_int ?_)
  | (with_reducible refine DE_bl ?_)
  | (with_reducible refine DE_non ?_)
  | (with_reducible refine DE_str ?_)
  | (with_reducible refine DE_isi ?_)
  | (with_reducible refine DE_and ?_)
  | (with_reducible refine DE_or ?_)
  | (with_reducible refine DE_not ?_)
  | (with_reducible refine DE_if ?_)
  | (with_reducible refine DE_chain ?_)
  | (with_reducible refine DE_tyIs ?_)
  | (with_reducible refine DE_tyNot ?_)
  | (with_reducible refine DE_call ?_)
  | ((with_reducible refine' DE_lenOw ?k1 ?_); (case k1 => exact rfl))
  | ((with_reducible refine' DE_reprOw ?k1 ?_); (case k1 => exact rfl))
  | ((with_reducible refine' DE_ixOw ?k1 ?_); (case k1 => exact rfl))
  | ((with_reducible refine' DE_lenOw ?k1 ?_); (case k1 => exact rfl))
  | (with_reducible refine DE_cb ?_)
  | (with_reducible refine DE_new (DL_rep (DL_lst ?_)))
  | (with_reducible refine DE_op ?_)
  | (with_reducible refine DE_un ?_)
  | (with_reducible refine DE_tup ?_)
  | (with_reducible refine DT_test ?_)
  | (with_reducible refine DT_B ?_)
  | (with_reducible refine DT_and ?_)
  | (with_reducible refine DT_or ?_)
  | (with_reducible refine DT_not ?_)
  | (with_reducible refine DT_yes ?_)
  | (with_reducible refine DA_nil ?_)
  | (with_reducible refine DA_cons ?_)
  | (with_reducible refine DO_no ?_)
  | (with_reducible refine DO_at ?_)
  | (with_reducible refine DR_minus ?_)
  | (with_reducible refine DR_mod ?_)
  | (with_reducible refine DR_div ?_)
  | (with_reducible refine DR_pow ?_)
  | (with_reducible refine DR_lt ?_)
  | (with_reducible refine DR_le ?_)
  | (with_reducible refine DR_gt ?_)
  | (with_reducible refine DR_ge ?_)
  | (with_reducible refine DR_eq ?_)
  | (with_reducible refine DR_ne ?_)
  | (with_reducible refine DR_isN ?_)
  | (with_reducible refine DR_notN ?_)
  | (with_reducible refine DU_neg ?_)
  | (with_reducible refine DC_len ?_)
  | (with_reducible refine DC_int ?_)
  | (with_reducible refine DC_abs ?_)
  | (with_reducible refine DC_max2 ?_)
  | (with_reducible refine DC_min2 ?_)
  | (with_reducible refine DC_sum ?_)
  | (with_reducible refine DC_all ?_)
  | (with_reducible refine DC_any ?_)
  | (with_reducible refine DC_repr ?_)
  | (with_reducible refine ⟨_, kb_int _, ?_⟩)
  | (with_reducible refine ⟨_, kb_bool _, ?_⟩)
  | (with_reducible refine ⟨_, kb_list _, ?_⟩)
  | (with_reducible refine ⟨_, kb_tuple _, ?_⟩)
  | (with_reducible refine ⟨_, rfl, ?_⟩)
  | (with_reducible refine ⟨_, _, rfl, rfl, ?_⟩)
  | (with_reducible refine DE_callN ?_)
  | (with_reducible refine DE_callX ?_)
  | (with_reducible refine DR_notB ?_)
  | (with_reducible refine DE_emp ?_)
  | (with_reducible refine DE_new (DL_lst ?_))
  | (with_reducible refine DE_new (DL_callF ?_))
  | (with_reducible refine DE_new (DL_sl ?_))
  | (with_reducible refine DE_slT ?_)
  | (with_reducible refine DC_list ?_)
  | ((with_reducible refine' DE_callT ?k1 ?_); (case k1 => exact rfl))
  | ((with_reducible refine' DE_var ?k1 ?_); (case k1 => exact rfl))
  | ((with_reducible refine' DE_varO ?k1 ?_); (case k1 => exact rfl))
  | ((with_reducible refine' DE_varN ?k1 ?_); (case k1 => exact rfl)))


local macro_rules | `(tactic| walk_at "d") => `(tactic| first
  | (with_reducible refine DC_strI ?_))
/-! k50: the law's texts of a rule and of a ring -/
theorem app_mem {P : Nat → Prop} {a b : Str} (ha : ∀ c ∈ a.cps.toList, P c) (hb : ∀ c ∈ b.cps.toList, P c) : ∀ c ∈ (a ++ b).cps.toList, P c := by
  intro c hc
  have hc : c ∈ (a.cps ++ b.cps).toList := hc
  simp only [Array.toList_append, List.mem_append] at hc
  exact hc.elim (ha c) (hb c)
theorem tx_mem (i : Int) : ∀ c ∈ (tx i).cps.toList, c < 16 ^ 8 := by
  intro c hc
  rw [tx_cps] at hc
  rcases tc_mem hc with h | h
  · subst h
    decide
  · exact Nat.lt_of_le_of_lt h.2 (by decide)
theorem blank_mem : ∀ c ∈ blank.cps.toList, c < 16 ^ 8 := by
  have e : blank.cps.toList = [32] := by decide +kernel
  intro c hc
  rw [e] at hc
  rw [List.mem_singleton.mp hc]
  decide
theorem sgt_mem {T : List Int} (h : Signs 4 T) : ∀ c ∈ (sgt T).cps.toList, c < 16 ^ 8 := by
  intro c hc
  obtain ⟨d, hd, rfl⟩ := List.mem_map.mp (show c ∈ T.map one by unfold sgt at hc; simpa using hc)
  have := h d hd
  unfold one
  have e : (16 : Nat) ^ 8 = 4294967296 := by decide
  omega
theorem r3_mem (s f : Int) {T : List Int} (h : Signs 4 T) : ∀ c ∈ (r3 s f T).cps.toList, c < 16 ^ 8 := by
  unfold r3
  exact app_mem (app_mem (app_mem (app_mem (tx_mem s) blank_mem) (tx_mem f)) blank_mem) (sgt_mem h)
def W__law_rule_right (ds : List PyData) (R : PyData → Prop) : Prop := ∃ (s f : Int) (w : Nat) (T : List Int), ds = [rlD s f w T] ∧ Rl s f w T ∧ R (.bool true)
def t__law_rule_right (K : PySem.W.Frag) : TS :=
  (tSeq (tAsg (tOp (rPlus K) (tOp (rPlus K) (tOp (rPlus K) (tOp (rPlus K) (tCB rStrI (tCons (tOp (rIx K) (tVar 0) (tC (.int 0))) tNil)) (tC (.str " "))) (tCB rStrI (tCons (tOp (rIx K) (tVar 0) (tC (.int 1))) tNil))) (tC (.str " "))) (tCall (spP K W__law_signs) [] E0 (tCons (tOp (rIx K) (tVar 0) (tC (.int 3))) tNil))) (gName 1))
    (tSeq (tAsg (tCB (rReprD K) (tCons (tVar 0) tNil)) (gName 2))
    (tSeq (tIfS (tOr (tTest (tOp (rNeU K) (tCB (rReprD K) (tCons (tCall (spP K W_show_rule) [] E0 (tCons (tVar 0) tNil)) tNil)) (tCB (rReprD K) (tCons (tVar 1) tNil)))) (tTest (tOp (rNeU K) (tCB (rReprD K) (tCons (tVar 0) tNil)) (tVar 2))))
    (tRet (tC (.bl false)))
    tNext)
    (tSeq (tFor (iRg1 (tCons (tC (.int 2)) tNil)) (gName 3)
    (tSeq (tAsg (tCall (spN K W_read_rule) [] E0 (tCons (tVar 1) tNil)) (gName 4))
    (tSeq (tIfS (tTest (tOp (rNeU K) (tCB (rReprD K) (tCons (tVar 4) tNil)) (tVar 2)))
    (tRet (tC (.bl false)))
    tNext)
    (tDrop (tBM K "list" rAppend (tOp (rIx K) (tVar 4) (tC (.int 3))) (tCons (tC (.str "?")) tNil))))))
    (tRet (tC (.bl true)))))))
theorem ds__law_rule_right : Keeps W__law_rule_right 5 t__law_rule_right := by
  intro K ds R h
  obtain ⟨s, f, w, T, rfl, hr, q⟩ := h
  have s2 := hr.s2
  have s4 := hr.s4
  have w1 := hr.w1
  have f0 := hr.f0
  have f1 := hr.f1
  have hs := num_small (s := s) (by omega)
  have hf := rl_f hr
  have hl := rl_len hr
  have l1 := hs.len
  have l2 := hf.len
  have l3 := sgt_len T
  have lb := blank_len
  have fw := shw_fits (shw_rl (s := s) (f := f) (w := w) (T := T) ⟨by omega, by omega⟩ ⟨by omega, by omega⟩ (by omega) hl hr.ok) (by decide) (by decide)
  have ln := r3_len hs hf hl
  have ft := str_fits (x := r3 s f T) (by omega) (r3_mem s f (rl_ok hr))
  have q3 : ∀ (R : PyData → Prop), R (rlD s f w T) → W_read_rule [.str (r3 s f T)] R := fun R h => ⟨s, f, w, T, rfl, hr, h⟩
  have q4 : ∀ (R : PyData → Prop), R (.str (r3 s f T)) → W_show_rule [rlD s f w T] R := fun R h => ⟨s, f, w, T, rfl, hr, h⟩
  have at0 : atI [PyData.int s, .int f, .int w, LI T] 0 = some (.int s) := (show atI _ ((0 : Nat) : Int) = _ from atI_nat (by rfl))
  have at1 : atI [PyData.int s, .int f, .int w, LI T] 1 = some (.int f) := (show atI _ ((1 : Nat) : Int) = _ from atI_nat (by rfl))
  have at3 : atI [PyData.int s, .int f, .int w, LI T] 3 = some (LI T) := (show atI _ ((3 : Nat) : Int) = _ from atI_nat (by rfl))
  refine ⟨by simp, ?_⟩
  show DS K _ (t__law_rule_right K) [.sh (rlD s f w T), .no, .no, .no, .no] _ _ _ _
  unfold t__law_rule_right
  refine DS_seq (DS_set (DE_op (DE_op (DE_op (DE_op (DE_cb (DA_cons (DE_op (DE_var (by rfl) (DE_int (DR_ix (.inr ⟨_, 0, _, rfl, rfl, at0, DA_nil (DC_strI ⟨s, rfl, hs.t, DE_str (DR_catS ⟨_, _, rfl, rfl, ?_, ?_⟩)⟩)⟩))))))))))))
  · show _ + blank.length ≤ _
    omega
  refine DE_cb (DA_cons (DE_op (DE_var (by rfl) (DE_int (DR_ix (.inr ⟨_, 1, _, rfl, rfl, at1, DA_nil (DC_strI ⟨f, rfl, hf.t, DR_catS ⟨_, _, rfl, rfl, ?_, ?_⟩⟩)⟩))))))
  · rw [str_app_len]
    show _ + blank.length + _ ≤ _
    omega
  refine DE_str (DR_catS ⟨_, _, rfl, rfl, ?_, ?_⟩)
  · rw [str_app_len, str_app_len]
    show _ + blank.length + _ + blank.length ≤ _
    omega
  refine DE_call (DA_cons (DE_op (DE_var (by rfl) (DE_int (DR_ix (.inr ⟨_, 3, _, rfl, rfl, at3, DA_nil ⟨T, rfl, rl_ok hr, by omega, DR_catS ⟨_, _, rfl, rfl, ?_, ?_⟩⟩⟩))))))
  · rw [str_app_len, str_app_len, str_app_len]
    show _ + blank.length + _ + blank.length + _ ≤ _
    omega
  have er : tx s ++ Str.ofString " " ++ tx f ++ Str.ofString " " ++ sgt T = r3 s f T := rfl
  rw [er]
  generalize r3 s f T = x3 at ft q3 q4
  show DS K none _ [.sh (rlD s f w T), .sh (.str x3), .no, .no, .no] _ _ _ _
  refine DS_seq (DS_set (DE_cb (DA_cons (DE_var (by rfl) (DA_nil (DC_repr ⟨_, rfl, fw.1, fw.2.1, fw.2.2, ?_⟩))))))
  refine DS_seq (DS_if (DT_or (DT_test (DE_op (DE_cb (DA_cons (DE_call (DA_cons (DE_var (by rfl) (DA_nil (q4 _ (DA_nil (DC_repr ⟨_, rfl, ft.1, ft.2.1, ft.2.2, DE_cb (DA_cons (DE_var (by rfl) (DA_nil (DC_repr ⟨_, rfl, ft.1, ft.2.1, ft.2.2, DR_neS ⟨_, _, rfl, rfl, _, rfl, ?_⟩⟩))))⟩)))))))))))))
  rw [str_same]
  refine iteF (DT_test (DE_op (DE_cb (DA_cons (DE_var (by rfl) (DA_nil (DC_repr ⟨_, rfl, fw.1, fw.2.1, fw.2.2, DE_var (by rfl) (DR_neS ⟨_, _, rfl, rfl, _, rfl, ?_⟩)⟩)))))))
  rw [str_same]
  refine iteF (DS_next ?_)
  refine DS_seq (DS_forR1 ?_)
  repeat walk_at "d"
  refine ⟨fun k ρ => ∃ z3 z4, ρ = [.sh (rlD s f w T), .sh (.str (x3)), .sh (.str (rlD s f w T).shown), z3, z4], ⟨_, _, rfl⟩, fun k ρ hk hI => ?_, fun ρ hI => ?_⟩
  · obtain ⟨z3, z4, rfl⟩ := hI
    refine DS_within ?_
    show DSW K none _ [.od (rlD s f w T), .od (.str (x3)), .od (.str (rlD s f w T).shown), .od (.int (0 + (k : Int))), z4.old] _ _ _ _
    refine DSW_seq (DS_callNw (DA_cons (DE_varO (by rfl) (DA_nil (q3 _ ?_)))))
    refine DSW_seq (DS_if (DT_test (DE_op (DE_cb (DA_cons (DE_varN (by rfl) (DA_nil (DC_repr ⟨_, rfl, fw.1, fw.2.1, fw.2.2, DE_varO (by rfl) (DR_neS ⟨_, _, rfl, rfl, _, rfl, ?_⟩)⟩))))))))
    rw [str_same]
    refine iteF (DS_next ?_)
    refine DSW_appEnd (ρ := [.od (rlD s f w T), .od (.str (x3)), .od (.str (rlD s f w T).shown), .od (.int (0 + (k : Int))), .nw (rlD s f w T)]) (i := 4) (m := 3) (ds := [.int s, .int f, .int (w : Int), LI T]) (by rfl) ⟨rfl, by decide⟩ ?_
    exact ⟨_, _, rfl⟩
  · obtain ⟨z3, z4, rfl⟩ := hI
    repeat walk_at "d"
    exact q
def W__law_ring_right (ds : List PyData) (R : PyData → Prop) : Prop := ∃ (s : Int) (r : List Int), ds = [.int s, LI r] ∧ 2 ≤ s ∧ s ≤ 4 ∧ Rg s r ∧ R (.bool true)
def t__law_ring_right (K : PySem.W.Frag) : TS :=
  (tSeq (tPar 2 3 (tCons (tCall (spP K W__law_signs) [] E0 (tCons (tVar 1) tNil)) (tCons (tCB (rListA K) (tCons (tVar 1) tNil)) tNil)))
    (tSeq (tIfS (tOr (tTest (tOp (rNeU K) (tCB (rReprD K) (tCons (tCall (spP K W_show_ring) [] E0 (tCons (tVar 0) (tCons (tVar 1) tNil))) tNil)) (tCB (rReprD K) (tCons (tVar 2) tNil)))) (tTest (tOp (rNeU K) (tVar 1) (tVar 3))))
    (tRet (tC (.bl false)))
    tNext)
    (tSeq (tFor (iRg1 (tCons (tC (.int 2)) tNil)) (gName 4)
    (tSeq (tAsg (tCall (spF K W_read_ring) [] E0 (tCons (tVar 0) (tCons (tVar 2) tNil))) (gName 5))
    (tSeq (tIfS (tTest (tOp (rNeU K) (tCB (rReprD K) (tCons (tVar 5) tNil)) (tCB (rReprD K) (tCons (tVar 3) tNil))))
    (tRet (tC (.bl false)))
    tNext)
    (tDrop (tBM K "list" rAppend (tVar 5) (tCons (tC (.str "?")) tNil))))))
    (tRet (tOrV (tOp (rEqU K) (tVar 0) (tC (.int 4))) (tOp (rEqU K) (tCall (spP K W_show_ring) [] E0 (tCons (tOp (rPlus K) (tVar 0) (tC (.int 1))) (tCons (tVar 1) tNil))) (tVar 2)))))))
theorem ds__law_ring_right : Keeps W__law_ring_right 6 t__law_ring_right := by
  intro K ds R h
  obtain ⟨s, r, rfl, s2, s4, hr, q⟩ := h
  have hle := hr.le
  have o4 := signs4 hr.ok s4
  have ft := str_fits (x := sgt r) (by rw [sgt_len]; omega) (sgt_mem o4)
  have sr : Shw 300000 1 (LI r) := (shw_list (n := 64) (k := 0) (ds := r.map .int) fun d hd => by
    obtain ⟨v, hm, rfl⟩ := List.mem_map.mp hd
    have hv := o4 v hm
    exact shw_int (Nat.lt_of_le_of_lt (show v.natAbs ≤ 4 by omega) (by decide))).up (by rw [List.length_map]; omega) (Nat.le_refl _)
  have fr := shw_fits sr (by decide) (by decide)
  refine ⟨by simp, ?_⟩
  show DS K _ (t__law_ring_right K) [.sh (.int s), .sh (LI r), .no, .no, .no, .no] _ _ _ _
  unfold t__law_ring_right
  refine DS_seq (DS_par (DA_cons (DE_call (DA_cons (DE_var (by rfl) (DA_nil ⟨r, rfl, o4, by omega, DA_cons (DE_cb (DA_cons (DE_var (by rfl) (DA_nil (DC_list ⟨_, .inl rfl, DA_nil ⟨_, _, rfl, ?_⟩⟩)))))⟩))))))
  show DS K none _ [.sh (.int s), .sh (LI r), .sh (.str (sgt r)), .sh (LI r), .no, .no] _ _ _ _
  refine DS_seq (DS_if (DT_or (DT_test (DE_op (DE_cb (DA_cons (DE_call (DA_cons (DE_var (by rfl) (DA_cons (DE_var (by rfl) (DA_nil ⟨s, r, rfl, s2, s4, hr, DA_nil (DC_repr ⟨_, rfl, ft.1, ft.2.1, ft.2.2, DE_cb (DA_cons (DE_var (by rfl) (DA_nil (DC_repr ⟨_, rfl, ft.1, ft.2.1, ft.2.2, DR_neS ⟨_, _, rfl, rfl, _, rfl, ?_⟩⟩))))⟩)⟩))))))))))))
  rw [str_same]
  refine iteF (DT_test (DE_op (DE_var (by rfl) (DE_var (by rfl) (DR_ne ⟨shp_LI r, shp_LI r, false, ?_, iteF (DS_next ?_)⟩)))))
  · rw [eqv_shaped (shp_LI r)]
    rfl
  refine DS_seq (DS_forR1 ?_)
  repeat walk_at "d"
  refine ⟨fun k ρ => ∃ z4 z5, ρ = [.sh (.int s), .sh (LI r), .sh (.str (sgt r)), .sh (LI r), z4, z5], ⟨_, _, rfl⟩, fun k ρ hk hI => ?_, fun ρ hI => ?_⟩
  · obtain ⟨z4, z5, rfl⟩ := hI
    show DS K none _ [.sh (.int s), .sh (LI r), .sh (.str (sgt r)), .sh (LI r), .sh (.int (0 + (k : Int))), z5] _ _ _ _
    refine DS_seq (DS_setOw (DL_callF (DA_cons (DE_var (by rfl) (DA_cons (DE_var (by rfl) (DA_nil ⟨s, r, rfl, s2, s4, hr, ?_⟩)))))))
    refine DS_seq (DS_if (DT_test (DE_op (DE_reprOw (ds := r.map .int) (by rfl) ⟨fr.1, fr.2.1, fr.2.2, DE_cb (DA_cons (DE_var (by rfl) (DA_nil (DC_repr ⟨_, rfl, fr.1, fr.2.1, fr.2.2, DR_neS ⟨_, _, rfl, rfl, _, rfl, ?_⟩⟩))))⟩))))
    rw [str_same]
    refine iteF (DS_next ?_)
    exact DS_append (i := 5) (by rfl) (by simp; omega) (DE_str ⟨_, _, rfl⟩)
  · obtain ⟨z4, z5, rfl⟩ := hI
    refine DS_ret (DE_or (DE_op (DE_var (by rfl) (DE_int (DR_eq ⟨by rfl, by rfl, ?_⟩)))))
    rw [eqvI]
    by_cases h4 : s = 4
    · exact ⟨true, by rw [decide_eq_true h4], iteT q⟩
    · refine ⟨false, by rw [decide_eq_false h4], iteF ?_⟩
      have hr2 : Rg (s + 1) r := ⟨hr.ne, hr.le, fun d hd => ⟨(hr.ok d hd).1, by have := (hr.ok d hd).2; omega⟩⟩
      refine DE_op (DE_call (DA_cons (DE_op (DE_var (by rfl) (DE_int (DR_plusI ⟨s, 1, rfl, rfl, DA_cons (DE_var (by rfl) (DA_nil ⟨s + 1, r, rfl, by omega, by omega, hr2, DE_var (by rfl) (DR_eqS ⟨_, _, rfl, rfl, ?_⟩)⟩))⟩))))))
      rw [decide_eq_true rfl]
      exact q

end Cf
namespace Cg
open PySem PySem.Spec PyProof.Rows L2 Cf
open Evl (Ex)
local macro_rules | `(tactic| walk_at "d") => `(tactic| first
  | (with_reducible refine DS_seq ?_)
  | (with_reducible refine DS_if ?_)
  | (with_reducible refine DS_ret ?_)
  | (with_reducible refine DS_next ?_)
  | (with_reducible refine DS_retN ?_)
  | (with_reducible refine DS_set ?_)
  | (with_reducible refine DS_drop ?_)
  | (with_reducible refine DS_unpack ?_)
  | (with_reducible refine DS_par ?_)
  | (with_reducible refine DE_int ?_)
  | (with_reducible refine DE_bl ?_)
  | (with_reducible refine DE_non ?_)
  | (with_reducible refine DE_str ?_)
  | (with_reducible refine DE_isi ?_)
  | (with_reducible refine DE_and ?_)
  | (with_reducible refine DE_or ?_)
  | (with_reducible refine DE_not ?_)
  | (with_reducible refine DE_if ?_)
  | (with_reducible refine DE_chain ?_)
  | (with_reducible refine DE_call ?_)
  | ((with_reducible refine' DE_lenOw ?k1 ?_); (case k1 => exact rfl))
  | ((with_reducible refine' DE_reprOw ?k1 ?_); (case k1 => exact rfl))
  | ((with_reducible refine' DE_ixOw ?k1 ?_); (case k1 => exact rfl))
  | ((with_reducible refine' DE_lenOw ?k1 ?_); (case k1 => exact rfl))
  | (with_reducible refine DE_cb ?_)
  | (with_reducible refine DE_new (DL_rep (DL_lst ?_)))
  | (with_reducible refine DE_op ?_)
  | (with_reducible refine DE_un ?_)
  | (with_reducible refine DE_tup ?_)
  | (with_reducible refine DT_test ?_)
  | (with_reducible refine DT_B ?_)
  | (with_reducible refine DT_and ?_)
  | (with_reducible refine DT_or ?_)
  | (with_reducible refine DT_not ?_)
  | (with_reducible refine DT_yes ?_)
  | (with_reducible refine DA_nil ?_)
  | (with_reducible refine DA_cons ?_)
  | (with_reducible refine DO_no ?_)
  | (with_reducible refine DO_at ?_)
  | (with_reducible refine DR_minus ?_)
  | (with_reducible refine DR_mod ?_)
  | (with_reducible refine DR_div ?_)
  | (with_reducible refine DR_pow ?_)
  | (with_reducible refine DR_lt ?_)
  | (with_reducible refine DR_le ?_)
  | (with_reducible refine DR_gt ?_)
  | (with_reducible refine DR_ge ?_)
  | (with_reducible refine DR_eq ?_)
  | (with_reducible refine DR_ne ?_)
  | (with_reducible refine DR_isN ?_)
  | (with_reducible refine DR_notN ?_)
  | (with_reducible refine DU_neg ?_)
  | (with_reducible refine DC_len ?_)
  | (with_reducible refine DC_int ?_)
  | (with_reducible refine DC_abs ?_)
  | (with_reducible refine DC_max2 ?_)
  | (with_reducible refine DC_min2 ?_)
  | (with_reducible refine DC_sum ?_)
  | (with_reducible refine DC_all ?_)
  | (with_reducible refine DC_any ?_)
  | (with_reducible refine DC_repr ?_)
  | (with_reducible refine ⟨_, kb_int _, ?_⟩)
  | (with_reducible refine ⟨_, kb_bool _, ?_⟩)
  | (with_reducible refine ⟨_, kb_list _, ?_⟩)
  | (with_reducible refine ⟨_, kb_tuple _, ?_⟩)
  | (with_reducible refine ⟨_, rfl, ?_⟩)
  | (with_reducible refine ⟨_, _, rfl, rfl, ?_⟩)
  | (with_reducible refine DR_notB ?_)
  | (with_reducible refine DE_emp ?_)
  | (with_reducible refine DE_new (DL_lst ?_))
  | (with_reducible refine DE_new (DL_callF ?_))
  | (with_reducible refine DE_new (DL_sl ?_))
  | (with_reducible refine DC_list ?_)
  | ((with_reducible refine' DE_callC ?hb ?hw ?k1 ?_); (case hb => exact rfl); (case hw => decide +kernel); (case k1 => exact rfl))
  | ((with_reducible refine' DE_var ?k1 ?_); (case k1 => exact rfl)))


/-! k50: a turn of the law -/
def t_law_turns (K : PySem.W.Frag) : TS :=
  (tFor (iRg1 (tCons (tC (.int 6)) tNil)) (gName 3)
    (tSeq (tAsg (tOp (rPlus K) (tC (.int 2)) (tCall (spC K true w__law_coin W__law_coin) [] E0 (tCons (tVar 2) (tCons (tC (.int 3)) tNil)))) (gName 4))
    (tSeq (tAsg (tIf (tAnd (tTest (tOp (rEqU K) (tVar 1) (tC (.int 0)))) (tTest (tOp (rEqU K) (tVar 3) (tC (.int 0))))) (tOp (rIx K) (tLst (tCons (tC (.int 10)) (tCons (tC (.int 6)) (tCons (tC (.int 5)) tNil)))) (tOp rMinus (tVar 4) (tC (.int 2)))) (tOp (rIx K) (tLst (tCons (tC (.int 5)) (tCons (tC (.int 3)) (tCons (tC (.int 3)) tNil)))) (tOp rMinus (tVar 4) (tC (.int 2))))) (gName 5))
    (tSeq (tIfS (tNot (tB (tCall (spP K W__law_rule_right) [] E0 (tCons (tCall (spC K true w__law_rule W__law_rule) [] E0 (tCons (tVar 2) (tCons (tVar 4) (tCons (tVar 5) tNil)))) tNil))))
    (tRet (tC (.bl false)))
    tNext)
    (tIfS (tNot (tB (tCall (spP K W__law_ring_right) [] E0 (tCons (tVar 4) (tCons (tCall (spC K true w__law_ring W__law_ring) [] E0 (tCons (tVar 2) (tCons (tVar 4) (tCons (tOp (rIx K) (tLst (tCons (tC (.int 1)) (tCons (tC (.int 2)) (tCons (tC (.int 9)) (tCons (tC (.int 40)) (tCons (tC (.int 511)) (tCons (tC (.int 512)) tNil))))))) (tVar 3)) tNil)))) tNil)))))
    (tRet (tC (.bl false)))
    tNext)))))
abbrev w_law : Nat := 2 ^ 500
theorem law_turns (K : PySem.W.Frag) (p : Addr) (ns : PyData) (k : Nat) (z3 z4 z5 : Sl) (R : PyData → Prop) (N B C : Rho → Prop) (hN : ∀ z3 z4 z5, N [.sh ns, .sh (.int k), .tp, z3, z4, z5, .no, .no, .no]) :
    DS K ⟨p, true⟩ w_law (t_law_turns K) [.sh ns, .sh (.int k), .tp, z3, z4, z5, .no, .no, .no] N R B C := by
  unfold t_law_turns
  refine DS_forR1 ?_
  repeat walk_at "d"
  refine ⟨by decide, fun _ ρ => ∃ z3 z4 z5, ρ = [.sh ns, .sh (.int k), .tp, z3, z4, z5, .no, .no, .no], ⟨z3, z4, z5, rfl⟩, ?_, ?_⟩
  · rintro j ρ hj ⟨z3, z4, z5, rfl⟩
    have hj6 : j < 6 := hj
    rw [Int.zero_add]
    show DS K _ _ _ [.sh ns, .sh (.int k), .tp, .sh (.int (j : Int)), z4, z5, .no, .no, .no] _ _ _ _
    repeat walk_at "d"
    refine ⟨3, rfl, by decide, big_lt (by decide), fun r r0 r1 => DR_plusI ⟨_, _, rfl, rfl, ?_⟩⟩
    obtain ⟨s, es⟩ : ∃ s : Int, 2 + r = s := ⟨_, rfl⟩
    rw [es]
    have hs : s = 2 ∨ s = 3 ∨ s = 4 := by omega
    refine DS_seq (DS_set (DE.mono (Q := fun d => ∃ v : Nat, d = .int v ∧ 1 ≤ v ∧ s ^ v ≤ 1024) ?_ fun d hd => ?_))
    · refine DE_if (DT_and ?_)
      repeat walk_at "d"
      refine ⟨shp_int _, shp_int _, ?_⟩
      have wide : ∀ ρ : Rho, ρ[4]? = some (.sh (.int s)) → ∀ γ, DE K ⟨p, true⟩ γ (tOp (rIx K) (tLst (tCons (tC (.int 10)) (tCons (tC (.int 6)) (tCons (tC (.int 5)) tNil)))) (tOp rMinus (tVar 4) (tC (.int 2)))) ρ fun d => ∃ v : Nat, d = .int v ∧ 1 ≤ v ∧ s ^ v ≤ 1024 := fun ρ h4 γ => by
        repeat walk_at "d"
        refine ⟨by simp, ?_⟩
        refine DE_op (DE_var h4 ?_)
        repeat walk_at "d"
        rcases hs with rfl | rfl | rfl
        · exact DR_ix (.inl ⟨_, _, .int 10, rfl, rfl, by rfl, 10, rfl, by decide, by decide⟩)
        · exact DR_ix (.inl ⟨_, _, .int 6, rfl, rfl, by rfl, 6, rfl, by decide, by decide⟩)
        · exact DR_ix (.inl ⟨_, _, .int 5, rfl, rfl, by rfl, 5, rfl, by decide, by decide⟩)
      have near : ∀ ρ : Rho, ρ[4]? = some (.sh (.int s)) → ∀ γ, DE K ⟨p, true⟩ γ (tOp (rIx K) (tLst (tCons (tC (.int 5)) (tCons (tC (.int 3)) (tCons (tC (.int 3)) tNil)))) (tOp rMinus (tVar 4) (tC (.int 2)))) ρ fun d => ∃ v : Nat, d = .int v ∧ 1 ≤ v ∧ s ^ v ≤ 1024 := fun ρ h4 γ => by
        repeat walk_at "d"
        refine ⟨by simp, ?_⟩
        refine DE_op (DE_var h4 ?_)
        repeat walk_at "d"
        rcases hs with rfl | rfl | rfl
        · exact DR_ix (.inl ⟨_, _, .int 5, rfl, rfl, by rfl, 5, rfl, by decide, by decide⟩)
        · exact DR_ix (.inl ⟨_, _, .int 3, rfl, rfl, by rfl, 3, rfl, by decide, by decide⟩)
        · exact DR_ix (.inl ⟨_, _, .int 3, rfl, rfl, by rfl, 3, rfl, by decide, by decide⟩)
      generalize PyData.eqv (PyData.int (k : Int)) (PyData.int 0) = b
      cases b
      · exact ⟨false, rfl, iteF (iteF (near _ (by rfl) _))⟩
      · refine ⟨true, rfl, iteT ?_⟩
        repeat walk_at "d"
        refine ⟨shp_int _, shp_int _, ?_⟩
        generalize PyData.eqv (PyData.int (j : Int)) (PyData.int 0) = b
        cases b
        · exact ⟨false, rfl, iteF (near _ (by rfl) _)⟩
        · exact ⟨true, rfl, iteT (wide _ (by rfl) _)⟩
    · obtain ⟨v, rfl, v1, v2⟩ := hd
      show DS K _ _ _ [.sh ns, .sh (.int k), .tp, .sh (.int (j : Int)), .sh (.int s), .sh (.int v), .no, .no, .no] _ _ _ _
      repeat walk_at "d"
      refine ⟨s, v, rfl, by omega, by omega, v1, v2, fun f w T hR hwv => ?_⟩
      refine DA_nil ⟨s, f, w, T, rfl, hR, _, rfl, iteF ?_⟩
      repeat walk_at "d"
      refine ⟨by simp, ?_⟩
      repeat walk_at "d"
      obtain ⟨m, hm, m1, m5⟩ : ∃ m : Int, atI [PyData.int 1, .int 2, .int 9, .int 40, .int 511, .int 512] (j : Int) = some (.int m) ∧ 1 ≤ m ∧ m ≤ 512 := by
        have : j = 0 ∨ j = 1 ∨ j = 2 ∨ j = 3 ∨ j = 4 ∨ j = 5 := by omega
        rcases this with rfl | rfl | rfl | rfl | rfl | rfl <;> exact ⟨_, atI_nat (by rfl), by decide, by decide⟩
      refine DR_ix (.inl ⟨_, _, _, rfl, rfl, hm, ?_⟩)
      repeat walk_at "d"
      refine ⟨s, m, rfl, by omega, by omega, m1, m5, fun rg hr _ => ?_⟩
      refine DA_nil ⟨s, rg, rfl, by omega, by omega, hr, _, rfl, iteF ?_⟩
      exact DS_next ⟨_, _, _, rfl⟩
  · rintro ρ ⟨z3, z4, z5, rfl⟩
    exact hN z3 z4 z5

end Cg
namespace Cf
open PySem PySem.Spec PyProof.Rows L2
open PySem.AutoSeq1 (wpAny_loadPart')
/-! ### enumerate(a tuple) -/
section
variable {prog : Program} {w : World} {A : Around} {E : Value → Shared → Prop} {s : Shared}
end
def IteT (K : PySem.W.Frag) (a : Addr) : It :=
  ⟨fun i H => ∃ (xs : List V) (x : V), SqT K H a xs ∧ xs[i]? = some x, fun i H v H' => ∃ T x, v = .ref T ∧ H T = none ∧ H' = upd H T (.tup [.int (i : Nat), x]) ∧ ∀ xs, SqT K H a xs → xs[i]? = some x, fun i H => ∃ xs : List V, SqT K H a xs ∧ xs.length = i⟩
/-- enumerate(e), e a tuple -/
def iEnumT (K : PySem.W.Frag) (ta : TA) : TI := fun σ H R => ta σ H fun vs H1 => ∃ a xs, vs = [.ref a] ∧ SqT K H1 a xs ∧ R (IteT K a) H1
section
variable {K : PySem.W.Frag} {t : Option Addr} {ρ : Rho} {i j : Nat} {te : TE} {tr : TA}
open Evl (Ex)
end
end Cf
/-! weights that differ by what makes no difference (for the laws of plain weights) -/
namespace Cf
/-- values shifted by a number for each word of one sign less -/
def shiftT (s : Int) (l : Nat) (vs : List Int) (g : Int → Int) : List Int := (List.range vs.length).map fun (n : Nat) => itm vs n + g ((n : Int) / s) - g ((n : Int) % s ^ l)
/-- the numbers by which the program and a check of one's own shift -/
def hts (s : Int) (vs : List Int) : Nat → Int → Int
  | 0, _ => 0
  | k + 1, n => itm vs n + hts s vs k (n / s)
end Cf
namespace Cf
open PySem PySem.Spec PyProof.Rows L2
open Evl (Ex)
local macro_rules | `(tactic| walk_at "d") => `(tactic| first
  | (with_reducible refine DS_seq ?_)
  | (with_reducible refine DS_if ?_)
  | (with_reducible refine DS_ret ?_)
  | (with_reducible refine DS_next ?_)
  | (with_reducible refine DS_retN ?_)
  | (with_reducible refine DS_set ?_)
  | (with_reducible refine DS_drop ?_)
  | (with_reducible refine DS_unpack ?_)
  | (with_reducible refine DS_par ?_)
  | (with_reducible refine DE_int ?_)
  | (with_reducible refine DE_bl ?_)
  | (with_reducible refine DE_non ?_)
  | (with_reducible refine DE_str ?_)
  | (with_reducible refine DE_isi ?_)
  | (with_reducible refine DE_and ?_)
  | (with_reducible refine DE_or ?_)
  | (with_reducible refine DE_not ?_)
  | (with_reducible refine DE_if ?_)
  | (with_reducible refine DE_chain ?_)
  | (with_reducible refine DE_tyIs ?_)
  | (with_reducible refine DE_tyNot ?_)
  | (with_reducible refine DE_call ?_)
  | ((with_reducible refine' DE_lenOw ?k1 ?_); (case k1 => exact rfl))
  | (with_reducible refine DE_cb ?_)
  | (with_reducible refine DE_new (DL_rep (DL_lst ?_)))
  | (with_reducible refine DE_op ?_)
  | (with_reducible refine DE_un ?_)
  | (with_reducible refine DE_tup ?_)
  | (with_reducible refine DT_test ?_)
  | (with_reducible refine DT_B ?_)
  | (with_reducible refine DT_and ?_)
  | (with_reducible refine DT_or ?_)
  | (with_reducible refine DT_not ?_)
  | (with_reducible refine DT_yes ?_)
  | (with_reducible refine DA_nil ?_)
  | (with_reducible refine DA_cons ?_)
  | (with_reducible refine DO_no ?_)
  | (with_reducible refine DO_at ?_)
  | (with_reducible refine DR_minus ?_)
  | (with_reducible refine DR_mod ?_)
  | (with_reducible refine DR_div ?_)
  | (with_reducible refine DR_pow ?_)
  | (with_reducible refine DR_lt ?_)
  | (with_reducible refine DR_le ?_)
  | (with_reducible refine DR_gt ?_)
  | (with_reducible refine DR_ge ?_)
  | (with_reducible refine DR_eq ?_)
  | (with_reducible refine DR_ne ?_)
  | (with_reducible refine DR_isN ?_)
  | (with_reducible refine DR_notN ?_)
  | (with_reducible refine DU_neg ?_)
  | (with_reducible refine DC_len ?_)
  | (with_reducible refine DC_int ?_)
  | (with_reducible refine DC_abs ?_)
  | (with_reducible refine DC_max2 ?_)
  | (with_reducible refine DC_min2 ?_)
  | (with_reducible refine DC_sum ?_)
  | (with_reducible refine DC_all ?_)
  | (with_reducible refine DC_any ?_)
  | (with_reducible refine DC_repr ?_)
  | (with_reducible refine ⟨_, kb_int _, ?_⟩)
  | (with_reducible refine ⟨_, kb_bool _, ?_⟩)
  | (with_reducible refine ⟨_, kb_list _, ?_⟩)
  | (with_reducible refine ⟨_, kb_tuple _, ?_⟩)
  | (with_reducible refine ⟨_, rfl, ?_⟩)
  | (with_reducible refine ⟨_, _, rfl, rfl, ?_⟩)
  | (with_reducible refine DE_callN ?_)
  | (with_reducible refine DE_callX ?_)
  | (with_reducible refine DR_notB ?_)
  | (with_reducible refine DE_emp ?_)
  | (with_reducible refine DE_new (DL_lst ?_))
  | (with_reducible refine DE_new (DL_sl ?_))
  | (with_reducible refine DE_slT ?_)
  | (with_reducible refine DC_list ?_)
  | ((with_reducible refine' DE_callT ?k1 ?_); (case k1 => exact rfl))
  | ((with_reducible refine' DE_var ?k1 ?_); (case k1 => exact rfl))
  | ((with_reducible refine' DE_varO ?k1 ?_); (case k1 => exact rfl))
  | ((with_reducible refine' DE_varN ?k1 ?_); (case k1 => exact rfl)))


/-! ### walks along words, their greatest sums (for the laws of means) -/
def lonS (s : Int) (P : Nat) (vs sums : List Int) : List Int :=
  (List.range P).map fun (p : Nat) => lmax ((List.range s.toNat).map fun (k : Nat) => itm sums (((k * P + p : Nat) : Int) / s) + itm vs ((k * P + p : Nat) : Int))
def stepS (s : Int) (P : Nat) (vs sums : List Int) : Nat → List Int
  | 0 => sums
  | k + 1 => lonS s P vs (stepS s P vs sums k)
def tabS (s : Int) (P : Nat) (vs sums : List Int) (n : Nat) : List (List Int) := (List.range (n + 1)).map (stepS s P vs sums)
/-- the values of the words with their beginnings' sums -/
def reachS (s : Int) (vs sums : List Int) : List Int := (List.range vs.length).map fun (n : Nat) => itm sums ((n : Int) / s) + itm vs n
def W_places_of (ds : List PyData) (R : PyData → Prop) : Prop := ∃ (s : Int) (l P : Nat) (vs : List Int), ds = [wtD s (l + 1) vs] ∧ Wt s (l + 1) vs ∧ s ^ l = (P : Int) ∧ R (.int P)
def t_places_of (K : PySem.W.Frag) : TS :=
  (tRet (tOp rDivI (tCB (rLenA K) (tCons (tOp (rIx K) (tVar 0) (tC (.int 2))) tNil)) (tOp (rIx K) (tVar 0) (tC (.int 0)))))
def W_longer_sums (ds : List PyData) (R : PyData → Prop) : Prop := ∃ (s : Int) (l P : Nat) (vs sums : List Int), ds = [wtD s (l + 1) vs, LI sums] ∧ Wt s (l + 1) vs ∧ s ^ l = (P : Int) ∧ sums.length = P ∧ R (LI (lonS s P vs sums))
def t_longer_sums (K : PySem.W.Frag) : TS :=
  (tSeq (tAsg (tVar 0) (gTup K 3 (gNames [2, 3, 4])))
    (tSeq (tAsg (tLc (iEnum K (tCons (tVar 4) tNil)) (gTup K 2 (gNames [6, 7])) tYes (tOp (rPlus K) (tOp (rIx K) (tVar 1) (tOp rDivI (tVar 6) (tVar 2))) (tVar 7)) [6, 7]) (gName 5))
    (tSeq (tAsg (tLc (iRng3 (tCons (tC (.int 0)) (tCons (tCB (rLenA K) (tCons (tVar 5) tNil)) (tCons (tCB (rLenA K) (tCons (tVar 1) tNil)) tNil)))) (gName 9) tYes (tSl (rSlL K) (tVar 5) (tPart (tVar 9)) (tPart (tOp (rPlus K) (tVar 9) (tCB (rLenA K) (tCons (tVar 1) tNil))))) [9]) (gName 8))
    (tRet (tLc (iZipS K (tVar 8)) (gName 10) tYes (tCB (rMaxA K) (tCons (tVar 10) tNil)) [10])))))
def W_sums_by_steps (ds : List PyData) (R : PyData → Prop) : Prop := ∃ (s : Int) (l P : Nat) (vs sums : List Int) (n : Nat), ds = [wtD s (l + 1) vs, LI sums, .int n] ∧ Wt s (l + 1) vs ∧ s ^ l = (P : Int) ∧ sums.length = P ∧ n ≤ 1000 ∧ R (.list ((tabS s P vs sums n).map LI))
def t_sums_by_steps (K : PySem.W.Frag) : TS :=
  (tSeq (tAsg (tLst (tCons (tVar 1) tNil)) (gName 3))
    (tSeq (tFor (iRg1 (tCons (tVar 2) tNil)) (gName 4)
    (tDrop (tBM K "list" rAppend (tVar 3) (tCons (tCall (spP K W_longer_sums) [] E0 (tCons (tVar 0) (tCons (tOp (rIx K) (tVar 3) (tUn rNegI (tC (.int 1)))) tNil))) tNil))))
    (tRet (tVar 3))))
end Cf
namespace Cf
open PySem PySem.Spec PyProof.Rows L2
open Evl (Ex)
local macro_rules | `(tactic| walk_at "d") => `(tactic| first
  | (with_reducible refine DS_seq ?_)
  | (with_reducible refine DS_if ?_)
  | (with_reducible refine DS_ret ?_)
  | (with_reducible refine DS_next ?_)
  | (with_reducible refine DS_retN ?_)
  | (with_reducible refine DS_set ?_)
  | (with_reducible refine DS_drop ?_)
  | (with_reducible refine DS_unpack ?_)
  | (with_reducible refine DS_par ?_)
  | (with_reducible refine DE_int ?_)
  | (with_reducible refine DE_bl ?_)
  | (with_reducible refine DE_non ?_)
  | (with_reducible refine DE_str ?_)
  | (with_reducible refine DE_isi ?_)
  | (with_reducible refine DE_and ?_)
  | (with_reducible refine DE_or ?_)
  | (with_reducible refine DE_not ?_)
  | (with_reducible refine DE_if ?_)
  | (with_reducible refine DE_chain ?_)
  | (with_reducible refine DE_tyIs ?_)
  | (with_reducible refine DE_tyNot ?_)
  | (with_reducible refine DE_call ?_)
  | ((with_reducible refine' DE_lenOw ?k1 ?_); (case k1 => exact rfl))
  | (with_reducible refine DE_cb ?_)
  | (with_reducible refine DE_new (DL_rep (DL_lst ?_)))
  | (with_reducible refine DE_op ?_)
  | (with_reducible refine DE_un ?_)
  | (with_reducible refine DE_tup ?_)
  | (with_reducible refine DT_test ?_)
  | (with_reducible refine DT_B ?_)
  | (with_reducible refine DT_and ?_)
  | (with_reducible refine DT_or ?_)
  | (with_reducible refine DT_not ?_)
  | (with_reducible refine DT_yes ?_)
  | (with_reducible refine DA_nil ?_)
  | (with_reducible refine DA_cons ?_)
  | (with_reducible refine DO_no ?_)
  | (with_reducible refine DO_at ?_)
  | (with_reducible refine DR_minus ?_)
  | (with_reducible refine DR_mod ?_)
  | (with_reducible refine DR_div ?_)
  | (with_reducible refine DR_pow ?_)
  | (with_reducible refine DR_lt ?_)
  | (with_reducible refine DR_le ?_)
  | (with_reducible refine DR_gt ?_)
  | (with_reducible refine DR_ge ?_)
  | (with_reducible refine DR_eq ?_)
  | (with_reducible refine DR_ne ?_)
  | (with_reducible refine DR_isN ?_)
  | (with_reducible refine DR_notN ?_)
  | (with_reducible refine DU_neg ?_)
  | (with_reducible refine DC_len ?_)
  | (with_reducible refine DC_int ?_)
  | (with_reducible refine DC_abs ?_)
  | (with_reducible refine DC_max2 ?_)
  | (with_reducible refine DC_min2 ?_)
  | (with_reducible refine DC_sum ?_)
  | (with_reducible refine DC_all ?_)
  | (with_reducible refine DC_any ?_)
  | (with_reducible refine DC_repr ?_)
  | (with_reducible refine ⟨_, kb_int _, ?_⟩)
  | (with_reducible refine ⟨_, kb_bool _, ?_⟩)
  | (with_reducible refine ⟨_, kb_list _, ?_⟩)
  | (with_reducible refine ⟨_, kb_tuple _, ?_⟩)
  | (with_reducible refine ⟨_, rfl, ?_⟩)
  | (with_reducible refine ⟨_, _, rfl, rfl, ?_⟩)
  | (with_reducible refine DE_callN ?_)
  | (with_reducible refine DE_callX ?_)
  | (with_reducible refine DR_notB ?_)
  | (with_reducible refine DE_emp ?_)
  | (with_reducible refine DE_new (DL_lst ?_))
  | (with_reducible refine DE_new (DL_sl ?_))
  | (with_reducible refine DE_slT ?_)
  | (with_reducible refine DC_list ?_)
  | ((with_reducible refine' DE_callT ?k1 ?_); (case k1 => exact rfl))
  | ((with_reducible refine' DE_var ?k1 ?_); (case k1 => exact rfl))
  | ((with_reducible refine' DE_varO ?k1 ?_); (case k1 => exact rfl))
  | ((with_reducible refine' DE_varN ?k1 ?_); (case k1 => exact rfl)))


/-! ### means, flows -/
abbrev mD (m : Int × Int) : PyData := .tuple [.int m.1, .int m.2]
def zeros (P : Nat) : List Int := List.replicate P 0
def W_walk_sums (ds : List PyData) (R : PyData → Prop) : Prop := ∃ (s : Int) (l P : Nat) (vs : List Int), ds = [wtD s (l + 1) vs] ∧ Wt s (l + 1) vs ∧ s ^ l = (P : Int) ∧ R (.list ((tabS s P vs (zeros P) P).map LI))
def t_walk_sums (K : PySem.W.Frag) : TS :=
  (tSeq (tAsg (tCall (spP K W_places_of) [] E0 (tCons (tVar 0) tNil)) (gName 1))
    (tRet (tCall (spP K W_sums_by_steps) [] E0 (tCons (tVar 0) (tCons (tOp rTimes (tLst (tCons (tC (.int 0)) tNil)) (tVar 1)) (tCons (tVar 1) tNil))))))
def negV (vs : List Int) : List Int := vs.map fun v => -v
def W_negated (ds : List PyData) (R : PyData → Prop) : Prop := ∃ (s : Int) (l : Nat) (vs : List Int), ds = [wtD s l vs] ∧ vs.length ≤ 1024 ∧ R (wtD s l (negV vs))
def t_negated (K : PySem.W.Frag) : TS :=
  (tSeq (tAsg (tVar 0) (gTup K 3 (gNames [1, 2, 3])))
    (tRet (tTup (tCons (tVar 1) (tCons (tVar 2) (tCons (tLc (iList K (tVar 3)) (gName 4) tYes (tUn rNegI (tVar 4)) [4]) tNil))))))
def W_is_mean (ds : List PyData) (R : PyData → Prop) : Prop := ∃ (t b : Int), ds = [mD (t, b)] ∧ 1 ≤ b ∧ R (.bool true)
def t_is_mean (K : PySem.W.Frag) : TS :=
  (tSeq (tIfS (tOr (tTest (tOp rNT (tCB (rTyp K) (tCons (tVar 0) tNil)) (tC (.ty "tuple")))) (tTest (tOp (rNeU K) (tCB (rLenA K) (tCons (tVar 0) tNil)) (tC (.int 2)))))
    (tRet (tC (.bl false)))
    tNext)
    (tRet (tAndV (tCall (spP K W_is_integer) [] E0 (tCons (tOp (rIx K) (tVar 0) (tC (.int 0))) tNil)) (tAndV (tCall (spP K W_is_integer) [] E0 (tCons (tOp (rIx K) (tVar 0) (tC (.int 1))) tNil)) (tOp rGeI (tOp (rIx K) (tVar 0) (tC (.int 1))) (tC (.int 1)))))))
def W_check_mean (ds : List PyData) (R : PyData → Prop) : Prop := ∃ (t b : Int), ds = [mD (t, b)] ∧ 1 ≤ b ∧ R .none
def t_check_mean (K : PySem.W.Frag) : TS :=
  (tIfS (tNot (tB (tCall (spP K W_is_mean) [] E0 (tCons (tVar 0) tNil))))
    tNever
    tNext)
def isFlow (P : Nat) : PyData → Bool
  | .list ds => ds.all isInt && decide ((ds.length : Int) = P)
  | _ => false
def W_is_flow (ds : List PyData) (R : PyData → Prop) : Prop := ∃ (s : Int) (l P : Nat) (vs : List Int) (x : PyData), ds = [wtD s (l + 1) vs, x] ∧ Wt s (l + 1) vs ∧ s ^ l = (P : Int) ∧ shortD x = true ∧ R (.bool (isFlow P x))
def t_is_flow (K : PySem.W.Frag) : TS :=
  (tRet (tAndV (tCall (spP K W_is_integer_list) [] E0 (tCons (tVar 1) tNil)) (tOp (rEqU K) (tCB (rLenA K) (tCons (tVar 1) tNil)) (tCall (spP K W_places_of) [] E0 (tCons (tVar 0) tNil)))))
def W_is_less (ds : List PyData) (R : PyData → Prop) : Prop := ∃ (m o : Int × Int), ds = [mD m, mD o] ∧ (0 ≤ m.2 ∧ m.2 < 2 ^ 60) ∧ (0 ≤ o.2 ∧ o.2 < 2 ^ 60) ∧ R (.bool (decide (m.1 * o.2 < o.1 * m.2)))
def t_is_less (K : PySem.W.Frag) : TS :=
  (tRet (tOp rLtI (tOp rTimes (tOp (rIx K) (tVar 0) (tC (.int 0))) (tOp (rIx K) (tVar 1) (tC (.int 1)))) (tOp rTimes (tOp (rIx K) (tVar 1) (tC (.int 0))) (tOp (rIx K) (tVar 0) (tC (.int 1))))))
def lt2 (m o : Int × Int) : Bool := decide (m.1 * o.2 < o.1 * m.2)
def least2 : List (Int × Int) → Int × Int
  | [] => (0, 1)
  | x :: xs => (x :: xs).foldl (fun a m => if lt2 m a then m else a) x
def W_least_of (ds : List PyData) (R : PyData → Prop) : Prop := ∃ (ms : List (Int × Int)), ds = [.list (ms.map mD)] ∧ ms ≠ [] ∧ (∀ m ∈ ms, 0 ≤ m.2 ∧ m.2 < 2 ^ 60) ∧ R (mD (least2 ms))
def t_least_of (K : PySem.W.Frag) : TS :=
  (tSeq (tAsg (tOp (rIx K) (tVar 0) (tC (.int 0))) (gName 1))
    (tSeq (tFor (iList K (tVar 0)) (gName 2)
    (tIfS (tB (tCall (spP K W_is_less) [] E0 (tCons (tVar 2) (tCons (tVar 1) tNil))))
    (tAsg (tVar 2) (gName 1))
    tNext))
    (tRet (tVar 1))))
end Cf
namespace Cf
open PySem PySem.Spec PyProof.Rows L2
open Evl (Ex)
local macro_rules | `(tactic| walk_at "d") => `(tactic| first
  | (with_reducible refine DS_seq ?_)
  | (with_reducible refine DS_if ?_)
  | (with_reducible refine DS_ret ?_)
  | (with_reducible refine DS_next ?_)
  | (with_reducible refine DS_retN ?_)
  | (with_reducible refine DS_set ?_)
  | (with_reducible refine DS_drop ?_)
  | (with_reducible refine DS_unpack ?_)
  | (with_reducible refine DS_par ?_)
  | (with_reducible refine DE_int ?_)
  | (with_reducible refine DE_bl ?_)
  | (with_reducible refine DE_non ?_)
  | (with_reducible refine DE_str ?_)
  | (with_reducible refine DE_isi ?_)
  | (with_reducible refine DE_and ?_)
  | (with_reducible refine DE_or ?_)
  | (with_reducible refine DE_not ?_)
  | (with_reducible refine DE_if ?_)
  | (with_reducible refine DE_chain ?_)
  | (with_reducible refine DE_tyIs ?_)
  | (with_reducible refine DE_tyNot ?_)
  | (with_reducible refine DE_call ?_)
  | ((with_reducible refine' DE_lenOw ?k1 ?_); (case k1 => exact rfl))
  | (with_reducible refine DE_cb ?_)
  | (with_reducible refine DE_new (DL_rep (DL_lst ?_)))
  | (with_reducible refine DE_op ?_)
  | (with_reducible refine DE_un ?_)
  | (with_reducible refine DE_tup ?_)
  | (with_reducible refine DT_test ?_)
  | (with_reducible refine DT_B ?_)
  | (with_reducible refine DT_and ?_)
  | (with_reducible refine DT_or ?_)
  | (with_reducible refine DT_not ?_)
  | (with_reducible refine DT_yes ?_)
  | (with_reducible refine DA_nil ?_)
  | (with_reducible refine DA_cons ?_)
  | (with_reducible refine DO_no ?_)
  | (with_reducible refine DO_at ?_)
  | (with_reducible refine DR_minus ?_)
  | (with_reducible refine DR_mod ?_)
  | (with_reducible refine DR_div ?_)
  | (with_reducible refine DR_pow ?_)
  | (with_reducible refine DR_lt ?_)
  | (with_reducible refine DR_le ?_)
  | (with_reducible refine DR_gt ?_)
  | (with_reducible refine DR_ge ?_)
  | (with_reducible refine DR_eq ?_)
  | (with_reducible refine DR_ne ?_)
  | (with_reducible refine DR_isN ?_)
  | (with_reducible refine DR_notN ?_)
  | (with_reducible refine DU_neg ?_)
  | (with_reducible refine DC_len ?_)
  | (with_reducible refine DC_int ?_)
  | (with_reducible refine DC_abs ?_)
  | (with_reducible refine DC_max2 ?_)
  | (with_reducible refine DC_min2 ?_)
  | (with_reducible refine DC_sum ?_)
  | (with_reducible refine DC_all ?_)
  | (with_reducible refine DC_any ?_)
  | (with_reducible refine DC_repr ?_)
  | (with_reducible refine ⟨_, kb_int _, ?_⟩)
  | (with_reducible refine ⟨_, kb_bool _, ?_⟩)
  | (with_reducible refine ⟨_, kb_list _, ?_⟩)
  | (with_reducible refine ⟨_, kb_tuple _, ?_⟩)
  | (with_reducible refine ⟨_, rfl, ?_⟩)
  | (with_reducible refine ⟨_, _, rfl, rfl, ?_⟩)
  | (with_reducible refine DE_callN ?_)
  | (with_reducible refine DE_callX ?_)
  | (with_reducible refine DR_notB ?_)
  | (with_reducible refine DE_emp ?_)
  | (with_reducible refine DE_new (DL_lst ?_))
  | (with_reducible refine DE_new (DL_sl ?_))
  | (with_reducible refine DE_slT ?_)
  | (with_reducible refine DC_list ?_)
  | ((with_reducible refine' DE_callT ?k1 ?_); (case k1 => exact rfl))
  | ((with_reducible refine' DE_var ?k1 ?_); (case k1 => exact rfl))
  | ((with_reducible refine' DE_varO ?k1 ?_); (case k1 => exact rfl))
  | ((with_reducible refine' DE_varN ?k1 ?_); (case k1 => exact rfl)))


/-! ### greatest means and flows by the sums of walks -/
abbrev gcd2 (m : Int × Int) : Int := ((Nat.gcd m.1.natAbs m.2.natAbs : Nat) : Int)
def low2 (m : Int × Int) : Int × Int := (m.1 / gcd2 m, m.2 / gcd2 m)
def W_lowest_terms (ds : List PyData) (R : PyData → Prop) : Prop := ∃ (m : Int × Int), ds = [.int m.1, .int m.2] ∧ 1 ≤ m.2 ∧ m.2 < 2 ^ 60 ∧ R (mD (low2 m))
def t_lowest_terms (K : PySem.W.Frag) : TS :=
  (tSeq (tAsg (tCB rGcd (tCons (tVar 0) (tCons (tVar 1) tNil))) (gName 2))
    (tRet (tTup (tCons (tOp rDivI (tVar 0) (tVar 2)) (tCons (tOp rDivI (tVar 1) (tVar 2)) tNil)))))
abbrev colI (T : List (List Int)) (p : Nat) : List Int := T.map fun r => itm r (p : Int)
def candS (c : List Int) (n : Nat) : List (Int × Int) := (List.range n).map fun (m : Nat) => (itm c (n : Int) - itm c (m : Int), (n : Int) - (m : Int))
def meanC (c : List Int) (n : Nat) : Int × Int := least2 (candS c n)
def bestF (g : Option (Int × Int)) (m : Int × Int) : Option (Int × Int) :=
  match g with
  | none => some m
  | some g => if lt2 g m then some m else some g
def bestM (ms : List (Int × Int)) : Option (Int × Int) := ms.foldl bestF none
def meansT (T : List (List Int)) (n P : Nat) : List (Int × Int) := (List.range P).map fun p => meanC (colI T p) n
def meanT (T : List (List Int)) (n P : Nat) : Int × Int := low2 ((bestM (meansT T n P)).getD (0, 1))
def oSl : Option (Int × Int) → Sl
  | none => .sh .none
  | some m => .sh (mD m)
def W_mean_by_sums (ds : List PyData) (R : PyData → Prop) : Prop := ∃ (T : List (List Int)) (n P : Nat), ds = [.list (T.map LI)] ∧ T.length = n + 1 ∧ 1 ≤ n ∧ n ≤ 1000 ∧ 1 ≤ P ∧ P ≤ 1000 ∧ (∀ r ∈ T, r.length = P) ∧ R (mD (meanT T n P))
def t_mean_by_sums (K : PySem.W.Frag) : TS :=
  (tSeq (tAsg (tOp rMinus (tCB (rLenA K) (tCons (tVar 0) tNil)) (tC (.int 1))) (gName 1))
    (tSeq (tAsg (tC .non) (gName 2))
    (tSeq (tFor (iZipS K (tVar 0)) (gName 3)
    (tSeq (tAsg (tCall (spP K W_least_of) [] E0 (tCons (tLc (iRg1 (tCons (tVar 1) tNil)) (gName 5) tYes (tTup (tCons (tOp rMinus (tOp (rIx K) (tVar 3) (tVar 1)) (tOp (rIx K) (tVar 3) (tVar 5))) (tCons (tOp rMinus (tVar 1) (tVar 5)) tNil))) [5]) tNil)) (gName 4))
    (tIfS (tOr (tTest (tOp rIsNone (tVar 2) (tC .non))) (tB (tCall (spP K W_is_less) [] E0 (tCons (tVar 2) (tCons (tVar 4) tNil)))))
    (tAsg (tVar 4) (gName 2))
    tNext)))
    (tRet (tCall (spP K W_lowest_terms) [] E0 (tCons (tOp (rIx K) (tVar 2) (tC (.int 0))) (tCons (tOp (rIx K) (tVar 2) (tC (.int 1))) tNil)))))))
end Cf
namespace Cf
open PySem PySem.Spec PyProof.Rows L2
open Evl (Ex)
local macro_rules | `(tactic| walk_at "d") => `(tactic| first
  | (with_reducible refine DS_seq ?_)
  | (with_reducible refine DS_if ?_)
  | (with_reducible refine DS_ret ?_)
  | (with_reducible refine DS_next ?_)
  | (with_reducible refine DS_retN ?_)
  | (with_reducible refine DS_set ?_)
  | (with_reducible refine DS_drop ?_)
  | (with_reducible refine DS_unpack ?_)
  | (with_reducible refine DS_par ?_)
  | (with_reducible refine DE_int ?_)
  | (with_reducible refine DE_bl ?_)
  | (with_reducible refine DE_non ?_)
  | (with_reducible refine DE_str ?_)
  | (with_reducible refine DE_isi ?_)
  | (with_reducible refine DE_and ?_)
  | (with_reducible refine DE_or ?_)
  | (with_reducible refine DE_not ?_)
  | (with_reducible refine DE_if ?_)
  | (with_reducible refine DE_chain ?_)
  | (with_reducible refine DE_tyIs ?_)
  | (with_reducible refine DE_tyNot ?_)
  | (with_reducible refine DE_call ?_)
  | ((with_reducible refine' DE_lenOw ?k1 ?_); (case k1 => exact rfl))
  | (with_reducible refine DE_cb ?_)
  | (with_reducible refine DE_new (DL_rep (DL_lst ?_)))
  | (with_reducible refine DE_op ?_)
  | (with_reducible refine DE_un ?_)
  | (with_reducible refine DE_tup ?_)
  | (with_reducible refine DT_test ?_)
  | (with_reducible refine DT_B ?_)
  | (with_reducible refine DT_and ?_)
  | (with_reducible refine DT_or ?_)
  | (with_reducible refine DT_not ?_)
  | (with_reducible refine DT_yes ?_)
  | (with_reducible refine DA_nil ?_)
  | (with_reducible refine DA_cons ?_)
  | (with_reducible refine DO_no ?_)
  | (with_reducible refine DO_at ?_)
  | (with_reducible refine DR_minus ?_)
  | (with_reducible refine DR_mod ?_)
  | (with_reducible refine DR_div ?_)
  | (with_reducible refine DR_pow ?_)
  | (with_reducible refine DR_lt ?_)
  | (with_reducible refine DR_le ?_)
  | (with_reducible refine DR_gt ?_)
  | (with_reducible refine DR_ge ?_)
  | (with_reducible refine DR_eq ?_)
  | (with_reducible refine DR_ne ?_)
  | (with_reducible refine DR_isN ?_)
  | (with_reducible refine DR_notN ?_)
  | (with_reducible refine DU_neg ?_)
  | (with_reducible refine DC_len ?_)
  | (with_reducible refine DC_int ?_)
  | (with_reducible refine DC_abs ?_)
  | (with_reducible refine DC_max2 ?_)
  | (with_reducible refine DC_min2 ?_)
  | (with_reducible refine DC_sum ?_)
  | (with_reducible refine DC_all ?_)
  | (with_reducible refine DC_any ?_)
  | (with_reducible refine DC_repr ?_)
  | (with_reducible refine ⟨_, kb_int _, ?_⟩)
  | (with_reducible refine ⟨_, kb_bool _, ?_⟩)
  | (with_reducible refine ⟨_, kb_list _, ?_⟩)
  | (with_reducible refine ⟨_, kb_tuple _, ?_⟩)
  | (with_reducible refine ⟨_, rfl, ?_⟩)
  | (with_reducible refine ⟨_, _, rfl, rfl, ?_⟩)
  | (with_reducible refine DE_callN ?_)
  | (with_reducible refine DE_callX ?_)
  | (with_reducible refine DR_notB ?_)
  | (with_reducible refine DE_emp ?_)
  | (with_reducible refine DE_new (DL_lst ?_))
  | (with_reducible refine DE_new (DL_sl ?_))
  | (with_reducible refine DE_slT ?_)
  | (with_reducible refine DC_list ?_)
  | ((with_reducible refine' DE_callT ?k1 ?_); (case k1 => exact rfl))
  | ((with_reducible refine' DE_var ?k1 ?_); (case k1 => exact rfl))
  | ((with_reducible refine' DE_varO ?k1 ?_); (case k1 => exact rfl))
  | ((with_reducible refine' DE_varN ?k1 ?_); (case k1 => exact rfl)))


/-! ### flows by the sums of walks; what bounds a weight -/
def flowC (c : List Int) (n : Nat) (m : Int × Int) : Int := lmin ((List.range n).map fun (k : Nat) => (k : Int) * m.1 - m.2 * itm c (k : Int))
def flowT (T : List (List Int)) (n P : Nat) (m : Int × Int) : List Int := (List.range P).map fun p => flowC (colI T p) n m
def W_flow_by_sums (ds : List PyData) (R : PyData → Prop) : Prop := ∃ (T : List (List Int)) (n P : Nat) (m : Int × Int), ds = [.list (T.map LI), mD m] ∧ T.length = n + 1 ∧ 1 ≤ n ∧ n ≤ 1000 ∧ P ≤ 1000 ∧ (∀ r ∈ T, r.length = P) ∧ 0 ≤ m.2 ∧ m.2 < 2 ^ 60 ∧ R (LI (flowT T n P m))
def t_flow_by_sums (K : PySem.W.Frag) : TS :=
  (tSeq (tAsg (tVar 1) (gTup K 2 (gNames [2, 3])))
    (tSeq (tAsg (tSl (rSlL K) (tVar 0) tNoPart (tPart (tUn rNegI (tC (.int 1))))) (gName 4))
    (tRet (tLc (iZipS K (tVar 4)) (gName 7) tYes (tCB (rMinA K) (tCons (tLc (iEnumT K (tCons (tVar 7) tNil)) (gTup K 2 (gNames [5, 6])) tYes (tOp rMinus (tOp rTimes (tVar 5) (tVar 2)) (tOp rTimes (tVar 3) (tVar 6))) [5, 6]) tNil)) [7]))))
def fsumS (s : Int) (P : Nat) (b : Int) (vs fl : List Int) : List Int := (List.range vs.length).map fun (n : Nat) => b * itm vs (n : Int) - itm fl ((n : Int) / s) + itm fl ((n : Int) % (P : Int))
def W_flow_sums (ds : List PyData) (R : PyData → Prop) : Prop := ∃ (s : Int) (l P : Nat) (vs fl : List Int) (b : Int), ds = [wtD s (l + 1) vs, .int b, LI fl] ∧ Wt s (l + 1) vs ∧ s ^ l = (P : Int) ∧ fl.length = P ∧ 0 ≤ b ∧ b < 2 ^ 60 ∧ R (LI (fsumS s P b vs fl))
def t_flow_sums (K : PySem.W.Frag) : TS :=
  (tSeq (tAsg (tVar 0) (gTup K 3 (gNames [3, 4, 5])))
    (tRet (tLc (iEnum K (tCons (tVar 5) tNil)) (gTup K 2 (gNames [6, 7])) tYes (tOp (rPlus K) (tOp rMinus (tOp rTimes (tVar 1) (tVar 7)) (tOp (rIx K) (tVar 2) (tOp rDivI (tVar 6) (tVar 3)))) (tOp (rIx K) (tVar 2) (tOp rModI (tVar 6) (tCB (rLenA K) (tCons (tVar 2) tNil))))) [6, 7])))
/-! sizes -/
abbrev tabW (s : Int) (P : Nat) (vs : List Int) : List (List Int) := tabS s P vs (zeros P) P
def greatM (s : Int) (P : Nat) (vs : List Int) : Int × Int := meanT (tabW s P vs) P P
def leastM (s : Int) (P : Nat) (vs : List Int) : Int × Int := (-(greatM s P (negV vs)).1, (greatM s P (negV vs)).2)
def topF (s : Int) (P : Nat) (vs : List Int) : List Int := flowT (tabW s P vs) P P (greatM s P vs)
def botF (s : Int) (P : Nat) (vs : List Int) : List Int := negV (topF s P (negV vs))
def W_greatest_mean (ds : List PyData) (R : PyData → Prop) : Prop := ∃ (s : Int) (l P : Nat) (vs : List Int), ds = [wtD s (l + 1) vs] ∧ Wt s (l + 1) vs ∧ s ^ l = (P : Int) ∧ R (mD (greatM s P vs))
def t_greatest_mean (K : PySem.W.Frag) : TS :=
  (tSeq (tDrop (tCall (spP K W_check_weight) [] E0 (tCons (tVar 0) tNil)))
    (tRet (tCall (spP K W_mean_by_sums) [] E0 (tCons (tCall (spP K W_walk_sums) [] E0 (tCons (tVar 0) tNil)) tNil))))
def W_least_mean (ds : List PyData) (R : PyData → Prop) : Prop := ∃ (s : Int) (l P : Nat) (vs : List Int), ds = [wtD s (l + 1) vs] ∧ Wt s (l + 1) vs ∧ s ^ l = (P : Int) ∧ R (mD (leastM s P vs))
def t_least_mean (K : PySem.W.Frag) : TS :=
  (tSeq (tDrop (tCall (spP K W_check_weight) [] E0 (tCons (tVar 0) tNil)))
    (tSeq (tAsg (tCall (spP K W_greatest_mean) [] E0 (tCons (tCall (spP K W_negated) [] E0 (tCons (tVar 0) tNil)) tNil)) (gTup K 2 (gNames [1, 2])))
    (tRet (tTup (tCons (tUn rNegI (tVar 1)) (tCons (tVar 2) tNil))))))
def W_top_flow (ds : List PyData) (R : PyData → Prop) : Prop := ∃ (s : Int) (l P : Nat) (vs : List Int), ds = [wtD s (l + 1) vs] ∧ Wt s (l + 1) vs ∧ s ^ l = (P : Int) ∧ R (LI (topF s P vs))
def t_top_flow (K : PySem.W.Frag) : TS :=
  (tSeq (tDrop (tCall (spP K W_check_weight) [] E0 (tCons (tVar 0) tNil)))
    (tSeq (tAsg (tCall (spP K W_walk_sums) [] E0 (tCons (tVar 0) tNil)) (gName 1))
    (tRet (tCall (spP K W_flow_by_sums) [] E0 (tCons (tVar 1) (tCons (tCall (spP K W_mean_by_sums) [] E0 (tCons (tVar 1) tNil)) tNil))))))
def W_bottom_flow (ds : List PyData) (R : PyData → Prop) : Prop := ∃ (s : Int) (l P : Nat) (vs : List Int), ds = [wtD s (l + 1) vs] ∧ Wt s (l + 1) vs ∧ s ^ l = (P : Int) ∧ R (LI (botF s P vs))
def t_bottom_flow (K : PySem.W.Frag) : TS :=
  (tSeq (tDrop (tCall (spP K W_check_weight) [] E0 (tCons (tVar 0) tNil)))
    (tRet (tLc (iList K (tCall (spP K W_top_flow) [] E0 (tCons (tCall (spP K W_negated) [] E0 (tCons (tVar 0) tNil)) tNil))) (gName 1) tYes (tUn rNegI (tVar 1)) [1])))
def intsOf : PyData → List Int
  | .list ds => ds.map fun d => match d with | .int n => n | _ => 0
  | _ => []
def above (s : Int) (P : Nat) (vs : List Int) (m : Int × Int) (x : PyData) : Bool := isFlow P x && decide (lmax (fsumS s P m.2 vs (intsOf x)) ≤ m.1)
def below (s : Int) (P : Nat) (vs : List Int) (m : Int × Int) (x : PyData) : Bool := isFlow P x && decide (m.1 ≤ lmin (fsumS s P m.2 vs (intsOf x)))
def W_bounds_above (ds : List PyData) (R : PyData → Prop) : Prop := ∃ (s : Int) (l P : Nat) (vs : List Int) (m : Int × Int) (x : PyData), ds = [wtD s (l + 1) vs, mD m, x] ∧ Wt s (l + 1) vs ∧ s ^ l = (P : Int) ∧ 1 ≤ m.2 ∧ m.2 < 2 ^ 60 ∧ shortD x = true ∧ R (.bool (above s P vs m x))
def t_bounds_above (K : PySem.W.Frag) : TS :=
  (tSeq (tDrop (tCall (spP K W_check_weight) [] E0 (tCons (tVar 0) tNil)))
    (tSeq (tDrop (tCall (spP K W_check_mean) [] E0 (tCons (tVar 1) tNil)))
    (tRet (tAndV (tCall (spP K W_is_flow) [] E0 (tCons (tVar 0) (tCons (tVar 2) tNil))) (tOp rLeI (tCB (rMaxA K) (tCons (tCall (spP K W_flow_sums) [] E0 (tCons (tVar 0) (tCons (tOp (rIx K) (tVar 1) (tC (.int 1))) (tCons (tVar 2) tNil)))) tNil)) (tOp (rIx K) (tVar 1) (tC (.int 0))))))))
def W_bounds_below (ds : List PyData) (R : PyData → Prop) : Prop := ∃ (s : Int) (l P : Nat) (vs : List Int) (m : Int × Int) (x : PyData), ds = [wtD s (l + 1) vs, mD m, x] ∧ Wt s (l + 1) vs ∧ s ^ l = (P : Int) ∧ 1 ≤ m.2 ∧ m.2 < 2 ^ 60 ∧ shortD x = true ∧ R (.bool (below s P vs m x))
def t_bounds_below (K : PySem.W.Frag) : TS :=
  (tSeq (tDrop (tCall (spP K W_check_weight) [] E0 (tCons (tVar 0) tNil)))
    (tSeq (tDrop (tCall (spP K W_check_mean) [] E0 (tCons (tVar 1) tNil)))
    (tRet (tAndV (tCall (spP K W_is_flow) [] E0 (tCons (tVar 0) (tCons (tVar 2) tNil))) (tOp rGeI (tCB (rMinA K) (tCons (tCall (spP K W_flow_sums) [] E0 (tCons (tVar 0) (tCons (tOp (rIx K) (tVar 1) (tC (.int 1))) (tCons (tVar 2) tNil)))) tNil)) (tOp (rIx K) (tVar 1) (tC (.int 0))))))))
end Cf
namespace Cf
open PySem PySem.Spec PyProof.Rows L2
open Evl (Ex)
/-! ### weights pulled back, gains -/
/-- the values of the weight that is pulled back -/
def pulT (s : Int) (w : Nat) (T : List Int) (l : Nat) (vs : List Int) : List Int :=
  (List.range (s ^ (w + l - 1)).toNat).map fun (n : Nat) => itm vs (num s (mids s w T l (wordOf s (w + l - 1) n)))
def partOf (s : Int) (L : Nat) (n : Int) (a m : Nat) : List Int := ((wordOf s L n).drop a).take m
/-- the values of the gain -/
def gainT (s : Int) (w : Nat) (T : List Int) (l : Nat) (vs : List Int) (L a b : Nat) : List Int :=
  (List.range (s ^ L).toNat).map fun (n : Nat) => itm vs (num s (mids s w T l (partOf s L n a (w + l - 1)))) - itm vs (num s (partOf s L n b l))
end Cf
namespace Cf
open PySem PySem.Spec PyProof.Rows L2
open Evl (Ex)
local macro_rules | `(tactic| walk_at "d") => `(tactic| first
  | (with_reducible refine DS_seq ?_)
  | (with_reducible refine DS_if ?_)
  | (with_reducible refine DS_ret ?_)
  | (with_reducible refine DS_next ?_)
  | (with_reducible refine DS_retN ?_)
  | (with_reducible refine DS_set ?_)
  | (with_reducible refine DS_drop ?_)
  | (with_reducible refine DS_unpack ?_)
  | (with_reducible refine DS_par ?_)
  | (with_reducible refine DE_int ?_)
  | (with_reducible refine DE_bl ?_)
  | (with_reducible refine DE_non ?_)
  | (with_reducible refine DE_str ?_)
  | (with_reducible refine DE_isi ?_)
  | (with_reducible refine DE_and ?_)
  | (with_reducible refine DE_or ?_)
  | (with_reducible refine DE_not ?_)
  | (with_reducible refine DE_if ?_)
  | (with_reducible refine DE_chain ?_)
  | (with_reducible refine DE_tyIs ?_)
  | (with_reducible refine DE_tyNot ?_)
  | (with_reducible refine DE_call ?_)
  | ((with_reducible refine' DE_lenOw ?k1 ?_); (case k1 => exact rfl))
  | (with_reducible refine DE_cb ?_)
  | (with_reducible refine DE_new (DL_rep (DL_lst ?_)))
  | (with_reducible refine DE_op ?_)
  | (with_reducible refine DE_un ?_)
  | (with_reducible refine DE_tup ?_)
  | (with_reducible refine DT_test ?_)
  | (with_reducible refine DT_B ?_)
  | (with_reducible refine DT_and ?_)
  | (with_reducible refine DT_or ?_)
  | (with_reducible refine DT_not ?_)
  | (with_reducible refine DT_yes ?_)
  | (with_reducible refine DA_nil ?_)
  | (with_reducible refine DA_cons ?_)
  | (with_reducible refine DO_no ?_)
  | (with_reducible refine DO_at ?_)
  | (with_reducible refine DR_minus ?_)
  | (with_reducible refine DR_mod ?_)
  | (with_reducible refine DR_div ?_)
  | (with_reducible refine DR_pow ?_)
  | (with_reducible refine DR_lt ?_)
  | (with_reducible refine DR_le ?_)
  | (with_reducible refine DR_gt ?_)
  | (with_reducible refine DR_ge ?_)
  | (with_reducible refine DR_eq ?_)
  | (with_reducible refine DR_ne ?_)
  | (with_reducible refine DR_isN ?_)
  | (with_reducible refine DR_notN ?_)
  | (with_reducible refine DU_neg ?_)
  | (with_reducible refine DC_len ?_)
  | (with_reducible refine DC_int ?_)
  | (with_reducible refine DC_abs ?_)
  | (with_reducible refine DC_max2 ?_)
  | (with_reducible refine DC_min2 ?_)
  | (with_reducible refine DC_sum ?_)
  | (with_reducible refine DC_all ?_)
  | (with_reducible refine DC_any ?_)
  | (with_reducible refine DC_repr ?_)
  | (with_reducible refine ⟨_, kb_int _, ?_⟩)
  | (with_reducible refine ⟨_, kb_bool _, ?_⟩)
  | (with_reducible refine ⟨_, kb_list _, ?_⟩)
  | (with_reducible refine ⟨_, kb_tuple _, ?_⟩)
  | (with_reducible refine ⟨_, rfl, ?_⟩)
  | (with_reducible refine ⟨_, _, rfl, rfl, ?_⟩)
  | (with_reducible refine DE_callN ?_)
  | (with_reducible refine DE_callX ?_)
  | (with_reducible refine DR_notB ?_)
  | (with_reducible refine DE_emp ?_)
  | (with_reducible refine DE_new (DL_lst ?_))
  | (with_reducible refine DE_new (DL_sl ?_))
  | (with_reducible refine DE_slT ?_)
  | (with_reducible refine DC_list ?_)
  | ((with_reducible refine' DE_callT ?k1 ?_); (case k1 => exact rfl))
  | ((with_reducible refine' DE_var ?k1 ?_); (case k1 => exact rfl))
  | ((with_reducible refine' DE_varO ?k1 ?_); (case k1 => exact rfl))
  | ((with_reducible refine' DE_varN ?k1 ?_); (case k1 => exact rfl)))


/-! ### k12: what is within a bound -/
def restS (s : Int) (P : Nat) (m : Int × Int) (vs fl : List Int) : List Int := (List.range vs.length).map fun (n : Nat) => m.2 * itm vs (n : Int) - m.1 + (itm fl ((n : Int) % (P : Int)) - itm fl ((n : Int) / s))
def isPos : PyData → Bool | .int n => decide (0 < n) | _ => false
def isNeg : PyData → Bool | .int n => decide (n < 0) | _ => false
def W__law_rests (ds : List PyData) (R : PyData → Prop) : Prop := ∃ (s : Int) (l P : Nat) (vs fl : List Int) (m : Int × Int), ds = [wtD s (l + 1) vs, mD m, LI fl] ∧ Wt s (l + 1) vs ∧ s ^ l = (P : Int) ∧ fl.length = P ∧ 0 ≤ m.2 ∧ m.2 < 2 ^ 60 ∧ R (LI (restS s P m vs fl))
def t__law_rests (K : PySem.W.Frag) : TS :=
  (tSeq (tPar 3 4 (tCons (tOp (rIx K) (tVar 0) (tC (.int 0))) (tCons (tOp (rIx K) (tVar 0) (tC (.int 2))) tNil)))
    (tSeq (tPar 5 6 (tCons (tOp rDivI (tCB (rLenA K) (tCons (tVar 4) tNil)) (tVar 3)) (tCons (tLst tNil) tNil)))
    (tSeq (tFor (iRg1 (tCons (tCB (rLenA K) (tCons (tVar 4) tNil)) tNil)) (gName 7)
    (tSeq (tAsg (tOp rMinus (tOp (rIx K) (tVar 2) (tOp rModI (tCB rIntA (tCons (tVar 7) tNil)) (tVar 5))) (tOp (rIx K) (tVar 2) (tOp rDivI (tVar 7) (tVar 3)))) (gName 8))
    (tDrop (tBM K "list" rAppend (tVar 6) (tCons (tOp (rPlus K) (tOp rMinus (tOp rTimes (tOp (rIx K) (tVar 1) (tC (.int 1))) (tOp (rIx K) (tVar 4) (tVar 7))) (tOp (rIx K) (tVar 1) (tC (.int 0)))) (tVar 8)) tNil)))))
    (tRet (tVar 6)))))
def W__law_is_flow (ds : List PyData) (R : PyData → Prop) : Prop := ∃ (s : Int) (l P : Nat) (vs : List Int) (x : PyData), ds = [wtD s (l + 1) vs, x] ∧ Wt s (l + 1) vs ∧ s ^ l = (P : Int) ∧ shortD x = true ∧ R (.bool (isFlow P x))
def t__law_is_flow (K : PySem.W.Frag) : TS :=
  (tSeq (tIfS (tOr (tNot (tB (tCB (rIsi K) (tCons (tVar 1) (tCons (tC (.ty "list")) tNil))))) (tTest (tOp (rNeU K) (tCB (rLenA K) (tCons (tVar 1) tNil)) (tOp rDivI (tCB (rLenA K) (tCons (tOp (rIx K) (tVar 0) (tC (.int 2))) tNil)) (tOp (rIx K) (tVar 0) (tC (.int 0)))))))
    (tRet (tC (.bl false)))
    tNext)
    (tRet (tOp (rEqU K) (tLc (iList K (tVar 1)) (gName 2) (tOr (tNot (tB (tCB (rIsi K) (tCons (tVar 2) (tCons (tC (.ty "int")) tNil))))) (tB (tCB (rIsi K) (tCons (tVar 2) (tCons (tC (.ty "bool")) tNil))))) (tVar 2) [2]) (tLst tNil))))
end Cf
namespace Cf
open PySem PySem.Spec PyProof.Rows L2
open Evl (Ex)
local macro_rules | `(tactic| walk_at "d") => `(tactic| first
  | (with_reducible refine DS_seq ?_)
  | (with_reducible refine DS_if ?_)
  | (with_reducible refine DS_ret ?_)
  | (with_reducible refine DS_next ?_)
  | (with_reducible refine DS_retN ?_)
  | (with_reducible refine DS_set ?_)
  | (with_reducible refine DS_drop ?_)
  | (with_reducible refine DS_unpack ?_)
  | (with_reducible refine DS_par ?_)
  | (with_reducible refine DE_int ?_)
  | (with_reducible refine DE_bl ?_)
  | (with_reducible refine DE_non ?_)
  | (with_reducible refine DE_str ?_)
  | (with_reducible refine DE_isi ?_)
  | (with_reducible refine DE_and ?_)
  | (with_reducible refine DE_or ?_)
  | (with_reducible refine DE_not ?_)
  | (with_reducible refine DE_if ?_)
  | (with_reducible refine DE_chain ?_)
  | (with_reducible refine DE_tyIs ?_)
  | (with_reducible refine DE_tyNot ?_)
  | (with_reducible refine DE_call ?_)
  | ((with_reducible refine' DE_lenOw ?k1 ?_); (case k1 => exact rfl))
  | (with_reducible refine DE_cb ?_)
  | (with_reducible refine DE_new (DL_rep (DL_lst ?_)))
  | (with_reducible refine DE_op ?_)
  | (with_reducible refine DE_un ?_)
  | (with_reducible refine DE_tup ?_)
  | (with_reducible refine DT_test ?_)
  | (with_reducible refine DT_B ?_)
  | (with_reducible refine DT_and ?_)
  | (with_reducible refine DT_or ?_)
  | (with_reducible refine DT_not ?_)
  | (with_reducible refine DT_yes ?_)
  | (with_reducible refine DA_nil ?_)
  | (with_reducible refine DA_cons ?_)
  | (with_reducible refine DO_no ?_)
  | (with_reducible refine DO_at ?_)
  | (with_reducible refine DR_minus ?_)
  | (with_reducible refine DR_mod ?_)
  | (with_reducible refine DR_div ?_)
  | (with_reducible refine DR_pow ?_)
  | (with_reducible refine DR_lt ?_)
  | (with_reducible refine DR_le ?_)
  | (with_reducible refine DR_gt ?_)
  | (with_reducible refine DR_ge ?_)
  | (with_reducible refine DR_eq ?_)
  | (with_reducible refine DR_ne ?_)
  | (with_reducible refine DR_isN ?_)
  | (with_reducible refine DR_notN ?_)
  | (with_reducible refine DU_neg ?_)
  | (with_reducible refine DC_len ?_)
  | (with_reducible refine DC_int ?_)
  | (with_reducible refine DC_abs ?_)
  | (with_reducible refine DC_max2 ?_)
  | (with_reducible refine DC_min2 ?_)
  | (with_reducible refine DC_sum ?_)
  | (with_reducible refine DC_all ?_)
  | (with_reducible refine DC_any ?_)
  | (with_reducible refine DC_repr ?_)
  | (with_reducible refine ⟨_, kb_int _, ?_⟩)
  | (with_reducible refine ⟨_, kb_bool _, ?_⟩)
  | (with_reducible refine ⟨_, kb_list _, ?_⟩)
  | (with_reducible refine ⟨_, kb_tuple _, ?_⟩)
  | (with_reducible refine ⟨_, rfl, ?_⟩)
  | (with_reducible refine ⟨_, _, rfl, rfl, ?_⟩)
  | (with_reducible refine DE_callN ?_)
  | (with_reducible refine DE_callX ?_)
  | (with_reducible refine DR_notB ?_)
  | (with_reducible refine DE_emp ?_)
  | (with_reducible refine DE_new (DL_lst ?_))
  | (with_reducible refine DE_new (DL_sl ?_))
  | (with_reducible refine DE_slT ?_)
  | (with_reducible refine DC_list ?_)
  | ((with_reducible refine' DE_callT ?k1 ?_); (case k1 => exact rfl))
  | ((with_reducible refine' DE_var ?k1 ?_); (case k1 => exact rfl))
  | ((with_reducible refine' DE_varO ?k1 ?_); (case k1 => exact rfl))
  | ((with_reducible refine' DE_varN ?k1 ?_); (case k1 => exact rfl)))


/-! ### the greatest mean: no ring is above it, and one has it -/
abbrev dS (s : Int) (P : Nat) (vs : List Int) (k p : Nat) : Int := itm (stepS s P vs (zeros P) k) (p : Int)
/-! fractions -/
abbrev le2 (m o : Int × Int) : Prop := m.1 * o.2 ≤ o.1 * m.2
end Cf
namespace Cf
open PySem PySem.Spec PyProof.Rows L2
open Evl (Ex)
local macro_rules | `(tactic| walk_at "d") => `(tactic| first
  | (with_reducible refine DS_seq ?_)
  | (with_reducible refine DS_if ?_)
  | (with_reducible refine DS_ret ?_)
  | (with_reducible refine DS_next ?_)
  | (with_reducible refine DS_retN ?_)
  | (with_reducible refine DS_set ?_)
  | (with_reducible refine DS_drop ?_)
  | (with_reducible refine DS_unpack ?_)
  | (with_reducible refine DS_par ?_)
  | (with_reducible refine DE_int ?_)
  | (with_reducible refine DE_bl ?_)
  | (with_reducible refine DE_non ?_)
  | (with_reducible refine DE_str ?_)
  | (with_reducible refine DE_isi ?_)
  | (with_reducible refine DE_and ?_)
  | (with_reducible refine DE_or ?_)
  | (with_reducible refine DE_not ?_)
  | (with_reducible refine DE_if ?_)
  | (with_reducible refine DE_chain ?_)
  | (with_reducible refine DE_tyIs ?_)
  | (with_reducible refine DE_tyNot ?_)
  | (with_reducible refine DE_call ?_)
  | ((with_reducible refine' DE_lenOw ?k1 ?_); (case k1 => exact rfl))
  | (with_reducible refine DE_cb ?_)
  | (with_reducible refine DE_new (DL_rep (DL_lst ?_)))
  | (with_reducible refine DE_op ?_)
  | (with_reducible refine DE_un ?_)
  | (with_reducible refine DE_tup ?_)
  | (with_reducible refine DT_test ?_)
  | (with_reducible refine DT_B ?_)
  | (with_reducible refine DT_and ?_)
  | (with_reducible refine DT_or ?_)
  | (with_reducible refine DT_not ?_)
  | (with_reducible refine DT_yes ?_)
  | (with_reducible refine DA_nil ?_)
  | (with_reducible refine DA_cons ?_)
  | (with_reducible refine DO_no ?_)
  | (with_reducible refine DO_at ?_)
  | (with_reducible refine DR_minus ?_)
  | (with_reducible refine DR_mod ?_)
  | (with_reducible refine DR_div ?_)
  | (with_reducible refine DR_pow ?_)
  | (with_reducible refine DR_lt ?_)
  | (with_reducible refine DR_le ?_)
  | (with_reducible refine DR_gt ?_)
  | (with_reducible refine DR_ge ?_)
  | (with_reducible refine DR_eq ?_)
  | (with_reducible refine DR_ne ?_)
  | (with_reducible refine DR_isN ?_)
  | (with_reducible refine DR_notN ?_)
  | (with_reducible refine DU_neg ?_)
  | (with_reducible refine DC_len ?_)
  | (with_reducible refine DC_int ?_)
  | (with_reducible refine DC_abs ?_)
  | (with_reducible refine DC_max2 ?_)
  | (with_reducible refine DC_min2 ?_)
  | (with_reducible refine DC_sum ?_)
  | (with_reducible refine DC_all ?_)
  | (with_reducible refine DC_any ?_)
  | (with_reducible refine DC_repr ?_)
  | (with_reducible refine ⟨_, kb_int _, ?_⟩)
  | (with_reducible refine ⟨_, kb_bool _, ?_⟩)
  | (with_reducible refine ⟨_, kb_list _, ?_⟩)
  | (with_reducible refine ⟨_, kb_tuple _, ?_⟩)
  | (with_reducible refine ⟨_, rfl, ?_⟩)
  | (with_reducible refine ⟨_, _, rfl, rfl, ?_⟩)
  | (with_reducible refine DE_callN ?_)
  | (with_reducible refine DE_callX ?_)
  | (with_reducible refine DR_notB ?_)
  | (with_reducible refine DE_emp ?_)
  | (with_reducible refine DE_new (DL_lst ?_))
  | (with_reducible refine DE_new (DL_sl ?_))
  | (with_reducible refine DE_slT ?_)
  | (with_reducible refine DC_list ?_)
  | ((with_reducible refine' DE_callT ?k1 ?_); (case k1 => exact rfl))
  | ((with_reducible refine' DE_var ?k1 ?_); (case k1 => exact rfl))
  | ((with_reducible refine' DE_varO ?k1 ?_); (case k1 => exact rfl))
  | ((with_reducible refine' DE_varN ?k1 ?_); (case k1 => exact rfl)))


/-! ### the flow bounds the weight -/
/-! one has it -/
end Cf
namespace Cf
open PySem PySem.Spec PyProof.Rows L2
open Evl (Ex)
local macro_rules | `(tactic| walk_at "d") => `(tactic| first
  | (with_reducible refine DS_seq ?_)
  | (with_reducible refine DS_if ?_)
  | (with_reducible refine DS_ret ?_)
  | (with_reducible refine DS_next ?_)
  | (with_reducible refine DS_retN ?_)
  | (with_reducible refine DS_set ?_)
  | (with_reducible refine DS_drop ?_)
  | (with_reducible refine DS_unpack ?_)
  | (with_reducible refine DS_par ?_)
  | (with_reducible refine DE_int ?_)
  | (with_reducible refine DE_bl ?_)
  | (with_reducible refine DE_non ?_)
  | (with_reducible refine DE_str ?_)
  | (with_reducible refine DE_isi ?_)
  | (with_reducible refine DE_and ?_)
  | (with_reducible refine DE_or ?_)
  | (with_reducible refine DE_not ?_)
  | (with_reducible refine DE_if ?_)
  | (with_reducible refine DE_chain ?_)
  | (with_reducible refine DE_tyIs ?_)
  | (with_reducible refine DE_tyNot ?_)
  | (with_reducible refine DE_call ?_)
  | ((with_reducible refine' DE_lenOw ?k1 ?_); (case k1 => exact rfl))
  | (with_reducible refine DE_cb ?_)
  | (with_reducible refine DE_new (DL_rep (DL_lst ?_)))
  | (with_reducible refine DE_op ?_)
  | (with_reducible refine DE_un ?_)
  | (with_reducible refine DE_tup ?_)
  | (with_reducible refine DT_test ?_)
  | (with_reducible refine DT_B ?_)
  | (with_reducible refine DT_and ?_)
  | (with_reducible refine DT_or ?_)
  | (with_reducible refine DT_not ?_)
  | (with_reducible refine DT_yes ?_)
  | (with_reducible refine DA_nil ?_)
  | (with_reducible refine DA_cons ?_)
  | (with_reducible refine DO_no ?_)
  | (with_reducible refine DO_at ?_)
  | (with_reducible refine DR_minus ?_)
  | (with_reducible refine DR_mod ?_)
  | (with_reducible refine DR_div ?_)
  | (with_reducible refine DR_pow ?_)
  | (with_reducible refine DR_lt ?_)
  | (with_reducible refine DR_le ?_)
  | (with_reducible refine DR_gt ?_)
  | (with_reducible refine DR_ge ?_)
  | (with_reducible refine DR_eq ?_)
  | (with_reducible refine DR_ne ?_)
  | (with_reducible refine DR_isN ?_)
  | (with_reducible refine DR_notN ?_)
  | (with_reducible refine DU_neg ?_)
  | (with_reducible refine DC_len ?_)
  | (with_reducible refine DC_int ?_)
  | (with_reducible refine DC_abs ?_)
  | (with_reducible refine DC_max2 ?_)
  | (with_reducible refine DC_min2 ?_)
  | (with_reducible refine DC_sum ?_)
  | (with_reducible refine DC_all ?_)
  | (with_reducible refine DC_any ?_)
  | (with_reducible refine DC_repr ?_)
  | (with_reducible refine ⟨_, kb_int _, ?_⟩)
  | (with_reducible refine ⟨_, kb_bool _, ?_⟩)
  | (with_reducible refine ⟨_, kb_list _, ?_⟩)
  | (with_reducible refine ⟨_, kb_tuple _, ?_⟩)
  | (with_reducible refine ⟨_, rfl, ?_⟩)
  | (with_reducible refine ⟨_, _, rfl, rfl, ?_⟩)
  | (with_reducible refine DE_callN ?_)
  | (with_reducible refine DE_callX ?_)
  | (with_reducible refine DR_notB ?_)
  | (with_reducible refine DE_emp ?_)
  | (with_reducible refine DE_new (DL_lst ?_))
  | (with_reducible refine DE_new (DL_sl ?_))
  | (with_reducible refine DE_slT ?_)
  | (with_reducible refine DC_list ?_)
  | ((with_reducible refine' DE_callT ?k1 ?_); (case k1 => exact rfl))
  | ((with_reducible refine' DE_var ?k1 ?_); (case k1 => exact rfl))
  | ((with_reducible refine' DE_varO ?k1 ?_); (case k1 => exact rfl))
  | ((with_reducible refine' DE_varN ?k1 ?_); (case k1 => exact rfl)))


/-! ### a ring has the greatest mean -/
end Cf
namespace Cf
open PySem PySem.Spec PyProof.Rows L2
open Evl (Ex)
local macro_rules | `(tactic| walk_at "d") => `(tactic| first
  | (with_reducible refine DS_seq ?_)
  | (with_reducible refine DS_if ?_)
  | (with_reducible refine DS_ret ?_)
  | (with_reducible refine DS_next ?_)
  | (with_reducible refine DS_retN ?_)
  | (with_reducible refine DS_set ?_)
  | (with_reducible refine DS_drop ?_)
  | (with_reducible refine DS_unpack ?_)
  | (with_reducible refine DS_par ?_)
  | (with_reducible refine DE_int ?_)
  | (with_reducible refine DE_bl ?_)
  | (with_reducible refine DE_non ?_)
  | (with_reducible refine DE_str ?_)
  | (with_reducible refine DE_isi ?_)
  | (with_reducible refine DE_and ?_)
  | (with_reducible refine DE_or ?_)
  | (with_reducible refine DE_not ?_)
  | (with_reducible refine DE_if ?_)
  | (with_reducible refine DE_chain ?_)
  | (with_reducible refine DE_tyIs ?_)
  | (with_reducible refine DE_tyNot ?_)
  | (with_reducible refine DE_call ?_)
  | ((with_reducible refine' DE_lenOw ?k1 ?_); (case k1 => exact rfl))
  | (with_reducible refine DE_cb ?_)
  | (with_reducible refine DE_new (DL_rep (DL_lst ?_)))
  | (with_reducible refine DE_op ?_)
  | (with_reducible refine DE_un ?_)
  | (with_reducible refine DE_tup ?_)
  | (with_reducible refine DT_test ?_)
  | (with_reducible refine DT_B ?_)
  | (with_reducible refine DT_and ?_)
  | (with_reducible refine DT_or ?_)
  | (with_reducible refine DT_not ?_)
  | (with_reducible refine DT_yes ?_)
  | (with_reducible refine DA_nil ?_)
  | (with_reducible refine DA_cons ?_)
  | (with_reducible refine DO_no ?_)
  | (with_reducible refine DO_at ?_)
  | (with_reducible refine DR_minus ?_)
  | (with_reducible refine DR_mod ?_)
  | (with_reducible refine DR_div ?_)
  | (with_reducible refine DR_pow ?_)
  | (with_reducible refine DR_lt ?_)
  | (with_reducible refine DR_le ?_)
  | (with_reducible refine DR_gt ?_)
  | (with_reducible refine DR_ge ?_)
  | (with_reducible refine DR_eq ?_)
  | (with_reducible refine DR_ne ?_)
  | (with_reducible refine DR_isN ?_)
  | (with_reducible refine DR_notN ?_)
  | (with_reducible refine DU_neg ?_)
  | (with_reducible refine DC_len ?_)
  | (with_reducible refine DC_int ?_)
  | (with_reducible refine DC_abs ?_)
  | (with_reducible refine DC_max2 ?_)
  | (with_reducible refine DC_min2 ?_)
  | (with_reducible refine DC_sum ?_)
  | (with_reducible refine DC_all ?_)
  | (with_reducible refine DC_any ?_)
  | (with_reducible refine DC_repr ?_)
  | (with_reducible refine ⟨_, kb_int _, ?_⟩)
  | (with_reducible refine ⟨_, kb_bool _, ?_⟩)
  | (with_reducible refine ⟨_, kb_list _, ?_⟩)
  | (with_reducible refine ⟨_, kb_tuple _, ?_⟩)
  | (with_reducible refine ⟨_, rfl, ?_⟩)
  | (with_reducible refine ⟨_, _, rfl, rfl, ?_⟩)
  | (with_reducible refine DE_callN ?_)
  | (with_reducible refine DR_notB ?_)
  | (with_reducible refine DE_emp ?_)
  | (with_reducible refine DE_new (DL_lst ?_))
  | (with_reducible refine DE_new (DL_sl ?_))
  | (with_reducible refine DE_slT ?_)
  | (with_reducible refine DC_list ?_)
  | ((with_reducible refine' DE_callT ?k1 ?_); (case k1 => exact rfl))
  | ((with_reducible refine' DE_var ?k1 ?_); (case k1 => exact rfl))
  | ((with_reducible refine' DE_varO ?k1 ?_); (case k1 => exact rfl))
  | ((with_reducible refine' DE_varN ?k1 ?_); (case k1 => exact rfl)))


def W_sums_behind_zeros (ds : List PyData) (R : PyData → Prop) : Prop := ∃ (s : Int) (l : Nat) (vs : List Int), ds = [wtD s (l + 1) vs] ∧ Wt s (l + 1) vs ∧ R (LI ((List.range (s ^ l).toNat).map fun (n : Nat) => hts s vs l n))
def t_sums_behind_zeros (K : PySem.W.Frag) : TS :=
  (tSeq (tAsg (tVar 0) (gTup K 3 (gNames [1, 2, 3])))
    (tSeq (tAsg (tLst tNil) (gName 4))
    (tSeq (tFor (iRg1 (tCons (tOp rDivI (tCB (rLenA K) (tCons (tVar 3) tNil)) (tVar 1)) tNil)) (gName 5)
    (tSeq (tAsg (tC (.int 0)) (gName 6))
    (tSeq (tAsg (tVar 5) (gName 7))
    (tSeq (tFor (iRg1 (tCons (tOp rMinus (tVar 2) (tC (.int 1))) tNil)) (gName 8)
    (tSeq (tAsg (tOp (rPlus K) (tVar 6) (tOp (rIx K) (tVar 3) (tVar 7))) (gName 6))
    (tAsg (tOp rDivI (tVar 7) (tVar 1)) (gName 7))))
    (tDrop (tBM K "list" rAppend (tVar 4) (tCons (tVar 6) tNil)))))))
    (tRet (tVar 4)))))
/-- whether the last sign plays a part -/
def lastM (s : Int) (vs : List Int) : Bool := (List.range vs.length).any fun (k : Nat) => !(itm vs k == itm vs ((k : Int) - (k : Int) % s))
def W_last_matters (ds : List PyData) (R : PyData → Prop) : Prop := ∃ (s : Int) (vs : List Int), ds = [.int s, LI vs] ∧ 0 < s ∧ vs.length ≤ 50000 ∧ R (.bool (lastM s vs))
def t_last_matters (K : PySem.W.Frag) : TS :=
  (tRet (tCB (rAny K) (tCons (tLc (iEnum K (tCons (tVar 1) tNil)) (gTup K 2 (gNames [2, 3])) tYes (tOp (rNeU K) (tVar 3) (tOp (rIx K) (tVar 1) (tOp rMinus (tVar 2) (tOp rModI (tVar 2) (tVar 0))))) [2, 3]) tNil)))
end Cf
namespace Cf
open PySem PySem.Spec PyProof.Rows L2
open Evl (Ex)
local macro_rules | `(tactic| walk_at "d") => `(tactic| first
  | (with_reducible refine DS_seq ?_)
  | (with_reducible refine DS_if ?_)
  | (with_reducible refine DS_ret ?_)
  | (with_reducible refine DS_next ?_)
  | (with_reducible refine DS_retN ?_)
  | (with_reducible refine DS_set ?_)
  | (with_reducible refine DS_drop ?_)
  | (with_reducible refine DS_unpack ?_)
  | (with_reducible refine DS_par ?_)
  | (with_reducible refine DE_int ?_)
  | (with_reducible refine DE_bl ?_)
  | (with_reducible refine DE_non ?_)
  | (with_reducible refine DE_str ?_)
  | (with_reducible refine DE_isi ?_)
  | (with_reducible refine DE_and ?_)
  | (with_reducible refine DE_or ?_)
  | (with_reducible refine DE_not ?_)
  | (with_reducible refine DE_if ?_)
  | (with_reducible refine DE_chain ?_)
  | (with_reducible refine DE_tyIs ?_)
  | (with_reducible refine DE_tyNot ?_)
  | (with_reducible refine DE_call ?_)
  | ((with_reducible refine' DE_lenOw ?k1 ?_); (case k1 => exact rfl))
  | (with_reducible refine DE_cb ?_)
  | (with_reducible refine DE_new (DL_rep (DL_lst ?_)))
  | (with_reducible refine DE_op ?_)
  | (with_reducible refine DE_un ?_)
  | (with_reducible refine DE_tup ?_)
  | (with_reducible refine DT_test ?_)
  | (with_reducible refine DT_B ?_)
  | (with_reducible refine DT_and ?_)
  | (with_reducible refine DT_or ?_)
  | (with_reducible refine DT_not ?_)
  | (with_reducible refine DT_yes ?_)
  | (with_reducible refine DA_nil ?_)
  | (with_reducible refine DA_cons ?_)
  | (with_reducible refine DO_no ?_)
  | (with_reducible refine DO_at ?_)
  | (with_reducible refine DR_minus ?_)
  | (with_reducible refine DR_mod ?_)
  | (with_reducible refine DR_div ?_)
  | (with_reducible refine DR_pow ?_)
  | (with_reducible refine DR_lt ?_)
  | (with_reducible refine DR_le ?_)
  | (with_reducible refine DR_gt ?_)
  | (with_reducible refine DR_ge ?_)
  | (with_reducible refine DR_eq ?_)
  | (with_reducible refine DR_ne ?_)
  | (with_reducible refine DR_isN ?_)
  | (with_reducible refine DR_notN ?_)
  | (with_reducible refine DU_neg ?_)
  | (with_reducible refine DC_len ?_)
  | (with_reducible refine DC_int ?_)
  | (with_reducible refine DC_abs ?_)
  | (with_reducible refine DC_max2 ?_)
  | (with_reducible refine DC_min2 ?_)
  | (with_reducible refine DC_sum ?_)
  | (with_reducible refine DC_all ?_)
  | (with_reducible refine DC_any ?_)
  | (with_reducible refine DC_repr ?_)
  | (with_reducible refine ⟨_, kb_int _, ?_⟩)
  | (with_reducible refine ⟨_, kb_bool _, ?_⟩)
  | (with_reducible refine ⟨_, kb_list _, ?_⟩)
  | (with_reducible refine ⟨_, kb_tuple _, ?_⟩)
  | (with_reducible refine ⟨_, rfl, ?_⟩)
  | (with_reducible refine ⟨_, _, rfl, rfl, ?_⟩)
  | (with_reducible refine DE_callN ?_)
  | (with_reducible refine DR_notB ?_)
  | (with_reducible refine DE_emp ?_)
  | (with_reducible refine DE_new (DL_lst ?_))
  | (with_reducible refine DE_new (DL_sl ?_))
  | (with_reducible refine DE_slT ?_)
  | (with_reducible refine DC_list ?_)
  | ((with_reducible refine' DE_callT ?k1 ?_); (case k1 => exact rfl))
  | ((with_reducible refine' DE_var ?k1 ?_); (case k1 => exact rfl))
  | ((with_reducible refine' DE_varO ?k1 ?_); (case k1 => exact rfl))
  | ((with_reducible refine' DE_varN ?k1 ?_); (case k1 => exact rfl)))




/-- as long as the last sign plays no part it is left out -/
def red (s : Int) : Nat → List Int → Nat × List Int
  | 0, vs => (0, vs)
  | 1, vs => (1, vs)
  | l + 2, vs => if lastM s vs = true then (l + 2, vs) else red s (l + 1) (stepV s vs)
def plainOf (s : Int) (l : Nat) (vs : List Int) : Nat × List Int := red s l (shiftT s (l - 1) vs (hts s vs (l - 1)))
def W_plain (ds : List PyData) (R : PyData → Prop) : Prop := ∃ (s : Int) (l : Nat) (vs : List Int), ds = [wtD s l vs] ∧ Wt s l vs ∧ R (wtD s (plainOf s l vs).1 (plainOf s l vs).2)
def t_plain (K : PySem.W.Frag) : TS :=
  (tSeq (tDrop (tCall (spP K W_check_weight) [] E0 (tCons (tVar 0) tNil)))
    (tSeq (tAsg (tVar 0) (gTup K 3 (gNames [1, 2, 3])))
    (tSeq (tAsg (tCall (spP K W_sums_behind_zeros) [] E0 (tCons (tVar 0) tNil)) (gName 4))
    (tSeq (tAsg (tLc (iEnum K (tCons (tVar 3) tNil)) (gTup K 2 (gNames [6, 7])) tYes (tOp rMinus (tOp (rPlus K) (tVar 7) (tOp (rIx K) (tVar 4) (tOp rDivI (tVar 6) (tVar 1)))) (tOp (rIx K) (tVar 4) (tOp rModI (tVar 6) (tCB (rLenA K) (tCons (tVar 4) tNil))))) [6, 7]) (gName 5))
    (tSeq (tWhile (tAnd (tTest (tOp rGtI (tVar 2) (tC (.int 1)))) (tNot (tB (tCall (spP K W_last_matters) [] E0 (tCons (tVar 1) (tCons (tVar 5) tNil))))))
    (tSeq (tAsg (tStepL K (tVar 5) (tVar 1)) (gName 5))
    (tAsg (tOp rMinus (tVar 2) (tC (.int 1))) (gName 2))))
    (tRet (tTup (tCons (tVar 1) (tCons (tVar 2) (tCons (tVar 5) tNil))))))))))
end Cf
namespace Cf
open PySem PySem.Spec PyProof.Rows L2
open Evl (Ex)
local macro_rules | `(tactic| walk_at "d") => `(tactic| first
  | (with_reducible refine DS_seq ?_)
  | (with_reducible refine DS_if ?_)
  | (with_reducible refine DS_ret ?_)
  | (with_reducible refine DS_next ?_)
  | (with_reducible refine DS_retN ?_)
  | (with_reducible refine DS_set ?_)
  | (with_reducible refine DS_drop ?_)
  | (with_reducible refine DS_unpack ?_)
  | (with_reducible refine DS_par ?_)
  | (with_reducible refine DE_int ?_)
  | (with_reducible refine DE_bl ?_)
  | (with_reducible refine DE_non ?_)
  | (with_reducible refine DE_str ?_)
  | (with_reducible refine DE_isi ?_)
  | (with_reducible refine DE_and ?_)
  | (with_reducible refine DE_or ?_)
  | (with_reducible refine DE_not ?_)
  | (with_reducible refine DE_if ?_)
  | (with_reducible refine DE_chain ?_)
  | (with_reducible refine DE_tyIs ?_)
  | (with_reducible refine DE_tyNot ?_)
  | (with_reducible refine DE_call ?_)
  | ((with_reducible refine' DE_lenOw ?k1 ?_); (case k1 => exact rfl))
  | (with_reducible refine DE_cb ?_)
  | (with_reducible refine DE_new (DL_rep (DL_lst ?_)))
  | (with_reducible refine DE_op ?_)
  | (with_reducible refine DE_un ?_)
  | (with_reducible refine DE_tup ?_)
  | (with_reducible refine DT_test ?_)
  | (with_reducible refine DT_B ?_)
  | (with_reducible refine DT_and ?_)
  | (with_reducible refine DT_or ?_)
  | (with_reducible refine DT_not ?_)
  | (with_reducible refine DT_yes ?_)
  | (with_reducible refine DA_nil ?_)
  | (with_reducible refine DA_cons ?_)
  | (with_reducible refine DO_no ?_)
  | (with_reducible refine DO_at ?_)
  | (with_reducible refine DR_minus ?_)
  | (with_reducible refine DR_mod ?_)
  | (with_reducible refine DR_div ?_)
  | (with_reducible refine DR_pow ?_)
  | (with_reducible refine DR_lt ?_)
  | (with_reducible refine DR_le ?_)
  | (with_reducible refine DR_gt ?_)
  | (with_reducible refine DR_ge ?_)
  | (with_reducible refine DR_eq ?_)
  | (with_reducible refine DR_ne ?_)
  | (with_reducible refine DR_isN ?_)
  | (with_reducible refine DR_notN ?_)
  | (with_reducible refine DU_neg ?_)
  | (with_reducible refine DC_len ?_)
  | (with_reducible refine DC_int ?_)
  | (with_reducible refine DC_abs ?_)
  | (with_reducible refine DC_max2 ?_)
  | (with_reducible refine DC_min2 ?_)
  | (with_reducible refine DC_sum ?_)
  | (with_reducible refine DC_all ?_)
  | (with_reducible refine DC_any ?_)
  | (with_reducible refine DC_repr ?_)
  | (with_reducible refine ⟨_, kb_int _, ?_⟩)
  | (with_reducible refine ⟨_, kb_bool _, ?_⟩)
  | (with_reducible refine ⟨_, kb_list _, ?_⟩)
  | (with_reducible refine ⟨_, kb_tuple _, ?_⟩)
  | (with_reducible refine ⟨_, rfl, ?_⟩)
  | (with_reducible refine ⟨_, _, rfl, rfl, ?_⟩)
  | (with_reducible refine DE_callN ?_)
  | (with_reducible refine DR_notB ?_)
  | (with_reducible refine DE_emp ?_)
  | (with_reducible refine DE_new (DL_lst ?_))
  | (with_reducible refine DE_new (DL_sl ?_))
  | (with_reducible refine DE_slT ?_)
  | (with_reducible refine DC_list ?_)
  | ((with_reducible refine' DE_callT ?k1 ?_); (case k1 => exact rfl))
  | ((with_reducible refine' DE_var ?k1 ?_); (case k1 => exact rfl))
  | ((with_reducible refine' DE_varO ?k1 ?_); (case k1 => exact rfl))
  | ((with_reducible refine' DE_varN ?k1 ?_); (case k1 => exact rfl)))




/-- the values for longer words -/
def wideV (s : Int) : Nat → List Int → List Int
  | 0, vs => vs
  | k + 1, vs => (List.range ((wideV s k vs).length * s.toNat)).map fun (n : Nat) => itm (wideV s k vs) ((n : Int) / s)
def W_values_at_span (ds : List PyData) (R : PyData → Prop) : Prop := ∃ (s : Int) (l : Nat) (vs : List Int) (L : Nat), ds = [wtD s l vs, .int L] ∧ Wt s l vs ∧ l ≤ L ∧ s ^ L ≤ 1024 ∧ R (LI (wideV s (L - l) vs))
def t_values_at_span (K : PySem.W.Frag) : TS :=
  (tSeq (tAsg (tVar 0) (gTup K 3 (gNames [2, 3, 4])))
    (tSeq (tFor (iRg1 (tCons (tOp rMinus (tVar 1) (tVar 3)) tNil)) (gName 5)
    (tAsg (tLc (iRg1 (tCons (tOp rTimes (tCB (rLenA K) (tCons (tVar 4) tNil)) (tVar 2)) tNil)) (gName 6) tYes (tOp (rIx K) (tVar 4) (tOp rDivI (tVar 6) (tVar 2))) [6]) (gName 4)))
    (tRet (tVar 4))))
end Cf
namespace Cf
open PySem PySem.Spec PyProof.Rows L2
open Evl (Ex)
local macro_rules | `(tactic| walk_at "d") => `(tactic| first
  | (with_reducible refine DS_seq ?_)
  | (with_reducible refine DS_if ?_)
  | (with_reducible refine DS_ret ?_)
  | (with_reducible refine DS_next ?_)
  | (with_reducible refine DS_retN ?_)
  | (with_reducible refine DS_set ?_)
  | (with_reducible refine DS_drop ?_)
  | (with_reducible refine DS_unpack ?_)
  | (with_reducible refine DS_par ?_)
  | (with_reducible refine DE_int ?_)
  | (with_reducible refine DE_bl ?_)
  | (with_reducible refine DE_non ?_)
  | (with_reducible refine DE_str ?_)
  | (with_reducible refine DE_isi ?_)
  | (with_reducible refine DE_and ?_)
  | (with_reducible refine DE_or ?_)
  | (with_reducible refine DE_not ?_)
  | (with_reducible refine DE_if ?_)
  | (with_reducible refine DE_chain ?_)
  | (with_reducible refine DE_tyIs ?_)
  | (with_reducible refine DE_tyNot ?_)
  | (with_reducible refine DE_call ?_)
  | ((with_reducible refine' DE_lenOw ?k1 ?_); (case k1 => exact rfl))
  | (with_reducible refine DE_cb ?_)
  | (with_reducible refine DE_new (DL_rep (DL_lst ?_)))
  | (with_reducible refine DE_op ?_)
  | (with_reducible refine DE_un ?_)
  | (with_reducible refine DE_tup ?_)
  | (with_reducible refine DT_test ?_)
  | (with_reducible refine DT_B ?_)
  | (with_reducible refine DT_and ?_)
  | (with_reducible refine DT_or ?_)
  | (with_reducible refine DT_not ?_)
  | (with_reducible refine DT_yes ?_)
  | (with_reducible refine DA_nil ?_)
  | (with_reducible refine DA_cons ?_)
  | (with_reducible refine DO_no ?_)
  | (with_reducible refine DO_at ?_)
  | (with_reducible refine DR_minus ?_)
  | (with_reducible refine DR_mod ?_)
  | (with_reducible refine DR_div ?_)
  | (with_reducible refine DR_pow ?_)
  | (with_reducible refine DR_lt ?_)
  | (with_reducible refine DR_le ?_)
  | (with_reducible refine DR_gt ?_)
  | (with_reducible refine DR_ge ?_)
  | (with_reducible refine DR_eq ?_)
  | (with_reducible refine DR_ne ?_)
  | (with_reducible refine DR_isN ?_)
  | (with_reducible refine DR_notN ?_)
  | (with_reducible refine DU_neg ?_)
  | (with_reducible refine DC_len ?_)
  | (with_reducible refine DC_int ?_)
  | (with_reducible refine DC_abs ?_)
  | (with_reducible refine DC_max2 ?_)
  | (with_reducible refine DC_min2 ?_)
  | (with_reducible refine DC_sum ?_)
  | (with_reducible refine DC_all ?_)
  | (with_reducible refine DC_any ?_)
  | (with_reducible refine DC_repr ?_)
  | (with_reducible refine ⟨_, kb_int _, ?_⟩)
  | (with_reducible refine ⟨_, kb_bool _, ?_⟩)
  | (with_reducible refine ⟨_, kb_list _, ?_⟩)
  | (with_reducible refine ⟨_, kb_tuple _, ?_⟩)
  | (with_reducible refine ⟨_, rfl, ?_⟩)
  | (with_reducible refine ⟨_, _, rfl, rfl, ?_⟩)
  | (with_reducible refine DE_callN ?_)
  | (with_reducible refine DE_callX ?_)
  | (with_reducible refine DR_notB ?_)
  | (with_reducible refine DE_emp ?_)
  | (with_reducible refine DE_new (DL_lst ?_))
  | (with_reducible refine DE_new (DL_sl ?_))
  | (with_reducible refine DE_slT ?_)
  | (with_reducible refine DC_list ?_)
  | ((with_reducible refine' DE_callT ?k1 ?_); (case k1 => exact rfl))
  | ((with_reducible refine' DE_var ?k1 ?_); (case k1 => exact rfl))
  | ((with_reducible refine' DE_varO ?k1 ?_); (case k1 => exact rfl))
  | ((with_reducible refine' DE_varN ?k1 ?_); (case k1 => exact rfl)))


/-! ### plain weights, longer words: what rings have -/
/-! every so many-th value -/
/-- words that begin with 0 have the value of the word of zeros -/
def ZeroB (s : Int) (l : Nat) (vs : List Int) : Prop := ∀ n : Int, 0 ≤ n → n < s ^ (l - 1) → itm vs n = itm vs 0
end Cf
namespace Cf
open PySem PySem.Spec PyProof.Rows L2
open Evl (Ex)
local macro_rules | `(tactic| walk_at "d") => `(tactic| first
  | (with_reducible refine DS_seq ?_)
  | (with_reducible refine DS_if ?_)
  | (with_reducible refine DS_ret ?_)
  | (with_reducible refine DS_next ?_)
  | (with_reducible refine DS_retN ?_)
  | (with_reducible refine DS_set ?_)
  | (with_reducible refine DS_drop ?_)
  | (with_reducible refine DS_unpack ?_)
  | (with_reducible refine DS_par ?_)
  | (with_reducible refine DE_int ?_)
  | (with_reducible refine DE_bl ?_)
  | (with_reducible refine DE_non ?_)
  | (with_reducible refine DE_str ?_)
  | (with_reducible refine DE_isi ?_)
  | (with_reducible refine DE_and ?_)
  | (with_reducible refine DE_or ?_)
  | (with_reducible refine DE_not ?_)
  | (with_reducible refine DE_if ?_)
  | (with_reducible refine DE_chain ?_)
  | (with_reducible refine DE_tyIs ?_)
  | (with_reducible refine DE_tyNot ?_)
  | (with_reducible refine DE_call ?_)
  | ((with_reducible refine' DE_lenOw ?k1 ?_); (case k1 => exact rfl))
  | (with_reducible refine DE_cb ?_)
  | (with_reducible refine DE_new (DL_rep (DL_lst ?_)))
  | (with_reducible refine DE_op ?_)
  | (with_reducible refine DE_un ?_)
  | (with_reducible refine DE_tup ?_)
  | (with_reducible refine DT_test ?_)
  | (with_reducible refine DT_B ?_)
  | (with_reducible refine DT_and ?_)
  | (with_reducible refine DT_or ?_)
  | (with_reducible refine DT_not ?_)
  | (with_reducible refine DT_yes ?_)
  | (with_reducible refine DA_nil ?_)
  | (with_reducible refine DA_cons ?_)
  | (with_reducible refine DO_no ?_)
  | (with_reducible refine DO_at ?_)
  | (with_reducible refine DR_minus ?_)
  | (with_reducible refine DR_mod ?_)
  | (with_reducible refine DR_div ?_)
  | (with_reducible refine DR_pow ?_)
  | (with_reducible refine DR_lt ?_)
  | (with_reducible refine DR_le ?_)
  | (with_reducible refine DR_gt ?_)
  | (with_reducible refine DR_ge ?_)
  | (with_reducible refine DR_eq ?_)
  | (with_reducible refine DR_ne ?_)
  | (with_reducible refine DR_isN ?_)
  | (with_reducible refine DR_notN ?_)
  | (with_reducible refine DU_neg ?_)
  | (with_reducible refine DC_len ?_)
  | (with_reducible refine DC_int ?_)
  | (with_reducible refine DC_abs ?_)
  | (with_reducible refine DC_max2 ?_)
  | (with_reducible refine DC_min2 ?_)
  | (with_reducible refine DC_sum ?_)
  | (with_reducible refine DC_all ?_)
  | (with_reducible refine DC_any ?_)
  | (with_reducible refine DC_repr ?_)
  | (with_reducible refine ⟨_, kb_int _, ?_⟩)
  | (with_reducible refine ⟨_, kb_bool _, ?_⟩)
  | (with_reducible refine ⟨_, kb_list _, ?_⟩)
  | (with_reducible refine ⟨_, kb_tuple _, ?_⟩)
  | (with_reducible refine ⟨_, rfl, ?_⟩)
  | (with_reducible refine ⟨_, _, rfl, rfl, ?_⟩)
  | (with_reducible refine DE_callN ?_)
  | (with_reducible refine DE_callX ?_)
  | (with_reducible refine DR_notB ?_)
  | (with_reducible refine DE_emp ?_)
  | (with_reducible refine DE_new (DL_lst ?_))
  | (with_reducible refine DE_new (DL_sl ?_))
  | (with_reducible refine DE_slT ?_)
  | (with_reducible refine DC_list ?_)
  | ((with_reducible refine' DE_callT ?k1 ?_); (case k1 => exact rfl))
  | ((with_reducible refine' DE_var ?k1 ?_); (case k1 => exact rfl))
  | ((with_reducible refine' DE_varO ?k1 ?_); (case k1 => exact rfl))
  | ((with_reducible refine' DE_varN ?k1 ?_); (case k1 => exact rfl)))


/-! ### divisors, lowest terms, weights added: what rings have -/
/-! weights added -/
def addV (xs ys : List Int) (t : Int) : List Int := (List.range xs.length).map fun (n : Nat) => itm xs n + t * itm ys n
/-! divisors -/
def gcdF (g v : Int) : Int := ((Nat.gcd g.natAbs v.natAbs : Nat) : Int)
def gcdL (vs : List Int) : Int := vs.foldl gcdF 0
end Cf
namespace Cf
open PySem PySem.Spec PyProof.Rows L2
open Evl (Ex)
local macro_rules | `(tactic| walk_at "d") => `(tactic| first
  | (with_reducible refine DS_seq ?_)
  | (with_reducible refine DS_if ?_)
  | (with_reducible refine DS_ret ?_)
  | (with_reducible refine DS_next ?_)
  | (with_reducible refine DS_retN ?_)
  | (with_reducible refine DS_set ?_)
  | (with_reducible refine DS_drop ?_)
  | (with_reducible refine DS_unpack ?_)
  | (with_reducible refine DS_par ?_)
  | (with_reducible refine DE_int ?_)
  | (with_reducible refine DE_bl ?_)
  | (with_reducible refine DE_non ?_)
  | (with_reducible refine DE_str ?_)
  | (with_reducible refine DE_isi ?_)
  | (with_reducible refine DE_and ?_)
  | (with_reducible refine DE_or ?_)
  | (with_reducible refine DE_not ?_)
  | (with_reducible refine DE_if ?_)
  | (with_reducible refine DE_chain ?_)
  | (with_reducible refine DE_tyIs ?_)
  | (with_reducible refine DE_tyNot ?_)
  | (with_reducible refine DE_call ?_)
  | ((with_reducible refine' DE_lenOw ?k1 ?_); (case k1 => exact rfl))
  | (with_reducible refine DE_cb ?_)
  | (with_reducible refine DE_new (DL_rep (DL_lst ?_)))
  | (with_reducible refine DE_op ?_)
  | (with_reducible refine DE_un ?_)
  | (with_reducible refine DE_tup ?_)
  | (with_reducible refine DT_test ?_)
  | (with_reducible refine DT_B ?_)
  | (with_reducible refine DT_and ?_)
  | (with_reducible refine DT_or ?_)
  | (with_reducible refine DT_not ?_)
  | (with_reducible refine DT_yes ?_)
  | (with_reducible refine DA_nil ?_)
  | (with_reducible refine DA_cons ?_)
  | (with_reducible refine DO_no ?_)
  | (with_reducible refine DO_at ?_)
  | (with_reducible refine DR_minus ?_)
  | (with_reducible refine DR_mod ?_)
  | (with_reducible refine DR_div ?_)
  | (with_reducible refine DR_pow ?_)
  | (with_reducible refine DR_lt ?_)
  | (with_reducible refine DR_le ?_)
  | (with_reducible refine DR_gt ?_)
  | (with_reducible refine DR_ge ?_)
  | (with_reducible refine DR_eq ?_)
  | (with_reducible refine DR_ne ?_)
  | (with_reducible refine DR_isN ?_)
  | (with_reducible refine DR_notN ?_)
  | (with_reducible refine DU_neg ?_)
  | (with_reducible refine DC_len ?_)
  | (with_reducible refine DC_int ?_)
  | (with_reducible refine DC_abs ?_)
  | (with_reducible refine DC_max2 ?_)
  | (with_reducible refine DC_min2 ?_)
  | (with_reducible refine DC_sum ?_)
  | (with_reducible refine DC_all ?_)
  | (with_reducible refine DC_any ?_)
  | (with_reducible refine DC_repr ?_)
  | (with_reducible refine ⟨_, kb_int _, ?_⟩)
  | (with_reducible refine ⟨_, kb_bool _, ?_⟩)
  | (with_reducible refine ⟨_, kb_list _, ?_⟩)
  | (with_reducible refine ⟨_, kb_tuple _, ?_⟩)
  | (with_reducible refine ⟨_, rfl, ?_⟩)
  | (with_reducible refine ⟨_, _, rfl, rfl, ?_⟩)
  | (with_reducible refine DE_callN ?_)
  | (with_reducible refine DE_callX ?_)
  | (with_reducible refine DR_notB ?_)
  | (with_reducible refine DE_emp ?_)
  | (with_reducible refine DE_new (DL_lst ?_))
  | (with_reducible refine DE_new (DL_sl ?_))
  | (with_reducible refine DE_slT ?_)
  | (with_reducible refine DC_list ?_)
  | ((with_reducible refine' DE_callT ?k1 ?_); (case k1 => exact rfl))
  | ((with_reducible refine' DE_var ?k1 ?_); (case k1 => exact rfl))
  | ((with_reducible refine' DE_varO ?k1 ?_); (case k1 => exact rfl))
  | ((with_reducible refine' DE_varN ?k1 ?_); (case k1 => exact rfl)))


/-! ### values told by rings -/
theorem at_in {r : List Int} {c : Nat} (h : c < r.length) : at_ r (c : Int) = r.getD c 0 := by
  unfold at_
  rw [Int.emod_eq_of_lt (by omega) (by omega), Int.toNat_natCast]
end Cf
namespace Cf
open PySem PySem.Spec PyProof.Rows L2
open Evl (Ex)
local macro_rules | `(tactic| walk_at "d") => `(tactic| first
  | (with_reducible refine DS_seq ?_)
  | (with_reducible refine DS_if ?_)
  | (with_reducible refine DS_ret ?_)
  | (with_reducible refine DS_next ?_)
  | (with_reducible refine DS_retN ?_)
  | (with_reducible refine DS_set ?_)
  | (with_reducible refine DS_drop ?_)
  | (with_reducible refine DS_unpack ?_)
  | (with_reducible refine DS_par ?_)
  | (with_reducible refine DE_int ?_)
  | (with_reducible refine DE_bl ?_)
  | (with_reducible refine DE_non ?_)
  | (with_reducible refine DE_str ?_)
  | (with_reducible refine DE_isi ?_)
  | (with_reducible refine DE_and ?_)
  | (with_reducible refine DE_or ?_)
  | (with_reducible refine DE_not ?_)
  | (with_reducible refine DE_if ?_)
  | (with_reducible refine DE_chain ?_)
  | (with_reducible refine DE_tyIs ?_)
  | (with_reducible refine DE_tyNot ?_)
  | (with_reducible refine DE_call ?_)
  | ((with_reducible refine' DE_lenOw ?k1 ?_); (case k1 => exact rfl))
  | (with_reducible refine DE_cb ?_)
  | (with_reducible refine DE_new (DL_rep (DL_lst ?_)))
  | (with_reducible refine DE_op ?_)
  | (with_reducible refine DE_un ?_)
  | (with_reducible refine DE_tup ?_)
  | (with_reducible refine DT_test ?_)
  | (with_reducible refine DT_B ?_)
  | (with_reducible refine DT_and ?_)
  | (with_reducible refine DT_or ?_)
  | (with_reducible refine DT_not ?_)
  | (with_reducible refine DT_yes ?_)
  | (with_reducible refine DA_nil ?_)
  | (with_reducible refine DA_cons ?_)
  | (with_reducible refine DO_no ?_)
  | (with_reducible refine DO_at ?_)
  | (with_reducible refine DR_minus ?_)
  | (with_reducible refine DR_mod ?_)
  | (with_reducible refine DR_div ?_)
  | (with_reducible refine DR_pow ?_)
  | (with_reducible refine DR_lt ?_)
  | (with_reducible refine DR_le ?_)
  | (with_reducible refine DR_gt ?_)
  | (with_reducible refine DR_ge ?_)
  | (with_reducible refine DR_eq ?_)
  | (with_reducible refine DR_ne ?_)
  | (with_reducible refine DR_isN ?_)
  | (with_reducible refine DR_notN ?_)
  | (with_reducible refine DU_neg ?_)
  | (with_reducible refine DC_len ?_)
  | (with_reducible refine DC_int ?_)
  | (with_reducible refine DC_abs ?_)
  | (with_reducible refine DC_max2 ?_)
  | (with_reducible refine DC_min2 ?_)
  | (with_reducible refine DC_sum ?_)
  | (with_reducible refine DC_all ?_)
  | (with_reducible refine DC_any ?_)
  | (with_reducible refine DC_repr ?_)
  | (with_reducible refine ⟨_, kb_int _, ?_⟩)
  | (with_reducible refine ⟨_, kb_bool _, ?_⟩)
  | (with_reducible refine ⟨_, kb_list _, ?_⟩)
  | (with_reducible refine ⟨_, kb_tuple _, ?_⟩)
  | (with_reducible refine ⟨_, rfl, ?_⟩)
  | (with_reducible refine ⟨_, _, rfl, rfl, ?_⟩)
  | (with_reducible refine DE_callN ?_)
  | (with_reducible refine DE_callX ?_)
  | (with_reducible refine DR_notB ?_)
  | (with_reducible refine DE_emp ?_)
  | (with_reducible refine DE_new (DL_lst ?_))
  | (with_reducible refine DE_new (DL_sl ?_))
  | (with_reducible refine DE_slT ?_)
  | (with_reducible refine DC_list ?_)
  | ((with_reducible refine' DE_callT ?k1 ?_); (case k1 => exact rfl))
  | ((with_reducible refine' DE_var ?k1 ?_); (case k1 => exact rfl))
  | ((with_reducible refine' DE_varO ?k1 ?_); (case k1 => exact rfl))
  | ((with_reducible refine' DE_varN ?k1 ?_); (case k1 => exact rfl)))


def W_check_rule_and_weight (ds : List PyData) (R : PyData → Prop) : Prop := ∃ (s f : Int) (w : Nat) (T : List Int) (l : Nat) (vs : List Int), ds = [rlD s f w T, wtD s l vs] ∧ Rl s f w T ∧ Wt s l vs ∧ R .none
def t_check_rule_and_weight (K : PySem.W.Frag) : TS :=
  (tSeq (tDrop (tCall (spP K W_check_rule) [] E0 (tCons (tVar 0) tNil)))
    (tSeq (tDrop (tCall (spP K W_check_weight) [] E0 (tCons (tVar 1) tNil)))
    (tDrop (tCall (spP K W_check_like_signs) [] E0 (tCons (tVar 0) (tCons (tVar 1) tNil))))))
def W_check_span (ds : List PyData) (R : PyData → Prop) : Prop := ∃ (s : Int) (L : Nat), ds = [.int s, .int L] ∧ 2 ≤ s ∧ s ≤ 4 ∧ s ^ L ≤ 1024 ∧ R .none
def t_check_span (K : PySem.W.Frag) : TS :=
  (tIfS (tTest (tOp rIsNone (tCall (spP K W_count_words) [] E0 (tCons (tVar 0) (tCons (tVar 1) (tCons (tC (.int 1024)) tNil)))) (tC .non)))
    tNever
    tNext)
def W_part_numbers (ds : List PyData) (R : PyData → Prop) : Prop := ∃ (s : Int) (L a m : Nat), ds = [.int s, .int L, .int a, .int m] ∧ 2 ≤ s ∧ s ≤ 4 ∧ a + m ≤ L ∧ s ^ L ≤ 1024 ∧ R (LI ((List.range (s ^ L).toNat).map fun (n : Nat) => num s (partOf s L n a m)))
def t_part_numbers (K : PySem.W.Frag) : TS :=
  (tSeq (tAsg (tCall (spP K W_count_words) [] E0 (tCons (tVar 0) (tCons (tOp rMinus (tOp rMinus (tVar 1) (tVar 2)) (tVar 3)) (tCons (tC (.int 1024)) tNil)))) (gName 4))
    (tSeq (tAsg (tCall (spP K W_count_words) [] E0 (tCons (tVar 0) (tCons (tVar 3) (tCons (tC (.int 1024)) tNil)))) (gName 5))
    (tRet (tLc (iRg1 (tCons (tCall (spP K W_count_words) [] E0 (tCons (tVar 0) (tCons (tVar 1) (tCons (tC (.int 1024)) tNil)))) tNil)) (gName 6) tYes (tOp rModI (tOp rDivI (tVar 6) (tVar 4)) (tVar 5)) [6]))))
def W_pulled (ds : List PyData) (R : PyData → Prop) : Prop := ∃ (s f : Int) (w : Nat) (T : List Int) (l : Nat) (vs : List Int), ds = [rlD s f w T, wtD s l vs] ∧ Rl s f w T ∧ Wt s l vs ∧ s ^ (w + l - 1) ≤ 1024 ∧ R (wtD s (w + l - 1) (pulT s w T l vs))
def t_pulled (K : PySem.W.Frag) : TS :=
  (tSeq (tDrop (tCall (spP K W_check_rule_and_weight) [] E0 (tCons (tVar 0) (tCons (tVar 1) tNil))))
    (tSeq (tAsg (tVar 1) (gTup K 3 (gNames [2, 3, 4])))
    (tSeq (tDrop (tCall (spP K W_check_span) [] E0 (tCons (tVar 2) (tCons (tOp rMinus (tOp (rPlus K) (tOp (rIx K) (tVar 0) (tC (.int 2))) (tVar 3)) (tC (.int 1))) tNil))))
    (tRet (tTup (tCons (tVar 2) (tCons (tOp rMinus (tOp (rPlus K) (tOp (rIx K) (tVar 0) (tC (.int 2))) (tVar 3)) (tC (.int 1))) (tCons (tLc (iList K (tCall (spP K W_made_numbers) [] E0 (tCons (tVar 0) (tCons (tVar 3) tNil)))) (gName 5) tYes (tOp (rIx K) (tVar 4) (tVar 5)) [5]) tNil))))))))
def W_gain_cells (ds : List PyData) (R : PyData → Prop) : Prop := ∃ (s f : Int) (w : Nat) (T : List Int) (l : Nat) (vs : List Int), ds = [rlD s f w T, wtD s l vs] ∧ R (.tuple [.int (min 0 f), .int (max ((l : Int) - 1) (f + w + l - 2) - min 0 f + 1)])
def t_gain_cells (K : PySem.W.Frag) : TS :=
  (tSeq (tAsg (tVar 0) (gTup K 4 (gNames [2, 3, 4, 2])))
    (tSeq (tAsg (tOp (rIx K) (tVar 1) (tC (.int 1))) (gName 5))
    (tSeq (tAsg (tCB rMin2A (tCons (tC (.int 0)) (tCons (tVar 3) tNil))) (gName 6))
    (tSeq (tAsg (tCB rMax2A (tCons (tOp rMinus (tVar 5) (tC (.int 1))) (tCons (tOp rMinus (tOp (rPlus K) (tOp (rPlus K) (tVar 3) (tVar 4)) (tVar 5)) (tC (.int 2))) tNil))) (gName 7))
    (tRet (tTup (tCons (tVar 6) (tCons (tOp (rPlus K) (tOp rMinus (tVar 7) (tVar 6)) (tC (.int 1))) tNil))))))))
def W_gain (ds : List PyData) (R : PyData → Prop) : Prop := ∃ (s f : Int) (w : Nat) (T : List Int) (l : Nat) (vs : List Int) (L a b : Nat), ds = [rlD s f w T, wtD s l vs] ∧ Rl s f w T ∧ Wt s l vs ∧ (b : Int) = - min 0 f ∧ (a : Int) = f - min 0 f ∧ (L : Int) = max ((l : Int) - 1) (f + w + l - 2) - min 0 f + 1 ∧ s ^ L ≤ 1024 ∧ R (wtD s L (gainT s w T l vs L a b))
def t_gain (K : PySem.W.Frag) : TS :=
  (tSeq (tDrop (tCall (spP K W_check_rule_and_weight) [] E0 (tCons (tVar 0) (tCons (tVar 1) tNil))))
    (tSeq (tAsg (tVar 1) (gTup K 3 (gNames [2, 3, 4])))
    (tSeq (tAsg (tCall (spP K W_gain_cells) [] E0 (tCons (tVar 0) (tCons (tVar 1) tNil))) (gTup K 2 (gNames [5, 6])))
    (tSeq (tDrop (tCall (spP K W_check_span) [] E0 (tCons (tVar 2) (tCons (tVar 6) tNil))))
    (tSeq (tAsg (tCall (spN K W_pulled) [] E0 (tCons (tVar 0) (tCons (tVar 1) tNil))) (gTup K 3 (gNames [7, 8, 9])))
    (tSeq (tAsg (tCall (spP K W_part_numbers) [] E0 (tCons (tVar 2) (tCons (tVar 6) (tCons (tUn rNegI (tVar 5)) (tCons (tVar 3) tNil))))) (gName 10))
    (tSeq (tAsg (tCall (spP K W_part_numbers) [] E0 (tCons (tVar 2) (tCons (tVar 6) (tCons (tOp rMinus (tOp (rIx K) (tVar 0) (tC (.int 1))) (tVar 5)) (tCons (tVar 8) tNil))))) (gName 11))
    (tSeq (tAsg (tLc (iZip K (tCons (tVar 11) (tCons (tVar 10) tNil))) (gTup K 2 (gNames [13, 14])) tYes (tOp rMinus (tOp (rIx K) (tVar 9) (tVar 13)) (tOp (rIx K) (tVar 4) (tVar 14))) [13, 14]) (gName 12))
    (tRet (tTup (tCons (tVar 2) (tCons (tVar 6) (tCons (tVar 12) tNil)))))))))))))
end Cf
namespace Cf
open PySem PySem.Spec PyProof.Rows L2
open Evl (Ex)
local macro_rules | `(tactic| walk_at "d") => `(tactic| first
  | (with_reducible refine DS_seq ?_)
  | (with_reducible refine DS_if ?_)
  | (with_reducible refine DS_ret ?_)
  | (with_reducible refine DS_next ?_)
  | (with_reducible refine DS_retN ?_)
  | (with_reducible refine DS_set ?_)
  | (with_reducible refine DS_drop ?_)
  | (with_reducible refine DS_unpack ?_)
  | (with_reducible refine DS_par ?_)
  | (with_reducible refine DE_int ?_)
  | (with_reducible refine DE_bl ?_)
  | (with_reducible refine DE_non ?_)
  | (with_reducible refine DE_str ?_)
  | (with_reducible refine DE_isi ?_)
  | (with_reducible refine DE_and ?_)
  | (with_reducible refine DE_or ?_)
  | (with_reducible refine DE_not ?_)
  | (with_reducible refine DE_if ?_)
  | (with_reducible refine DE_chain ?_)
  | (with_reducible refine DE_tyIs ?_)
  | (with_reducible refine DE_tyNot ?_)
  | (with_reducible refine DE_call ?_)
  | ((with_reducible refine' DE_lenOw ?k1 ?_); (case k1 => exact rfl))
  | (with_reducible refine DE_cb ?_)
  | (with_reducible refine DE_new (DL_rep (DL_lst ?_)))
  | (with_reducible refine DE_op ?_)
  | (with_reducible refine DE_un ?_)
  | (with_reducible refine DE_tup ?_)
  | (with_reducible refine DT_test ?_)
  | (with_reducible refine DT_B ?_)
  | (with_reducible refine DT_and ?_)
  | (with_reducible refine DT_or ?_)
  | (with_reducible refine DT_not ?_)
  | (with_reducible refine DT_yes ?_)
  | (with_reducible refine DA_nil ?_)
  | (with_reducible refine DA_cons ?_)
  | (with_reducible refine DO_no ?_)
  | (with_reducible refine DO_at ?_)
  | (with_reducible refine DR_minus ?_)
  | (with_reducible refine DR_mod ?_)
  | (with_reducible refine DR_div ?_)
  | (with_reducible refine DR_pow ?_)
  | (with_reducible refine DR_lt ?_)
  | (with_reducible refine DR_le ?_)
  | (with_reducible refine DR_gt ?_)
  | (with_reducible refine DR_ge ?_)
  | (with_reducible refine DR_eq ?_)
  | (with_reducible refine DR_ne ?_)
  | (with_reducible refine DR_isN ?_)
  | (with_reducible refine DR_notN ?_)
  | (with_reducible refine DU_neg ?_)
  | (with_reducible refine DC_len ?_)
  | (with_reducible refine DC_int ?_)
  | (with_reducible refine DC_abs ?_)
  | (with_reducible refine DC_max2 ?_)
  | (with_reducible refine DC_min2 ?_)
  | (with_reducible refine DC_sum ?_)
  | (with_reducible refine DC_all ?_)
  | (with_reducible refine DC_any ?_)
  | (with_reducible refine DC_repr ?_)
  | (with_reducible refine ⟨_, kb_int _, ?_⟩)
  | (with_reducible refine ⟨_, kb_bool _, ?_⟩)
  | (with_reducible refine ⟨_, kb_list _, ?_⟩)
  | (with_reducible refine ⟨_, kb_tuple _, ?_⟩)
  | (with_reducible refine ⟨_, rfl, ?_⟩)
  | (with_reducible refine ⟨_, _, rfl, rfl, ?_⟩)
  | (with_reducible refine DE_callN ?_)
  | (with_reducible refine DE_callX ?_)
  | (with_reducible refine DR_notB ?_)
  | (with_reducible refine DE_emp ?_)
  | (with_reducible refine DE_new (DL_lst ?_))
  | (with_reducible refine DE_new (DL_sl ?_))
  | (with_reducible refine DE_slT ?_)
  | (with_reducible refine DC_list ?_)
  | ((with_reducible refine' DE_callT ?k1 ?_); (case k1 => exact rfl))
  | ((with_reducible refine' DE_var ?k1 ?_); (case k1 => exact rfl))
  | ((with_reducible refine' DE_varO ?k1 ?_); (case k1 => exact rfl))
  | ((with_reducible refine' DE_varN ?k1 ?_); (case k1 => exact rfl)))


/-! ### gains of rings: the program's -/
def W_check_total (ds : List PyData) (R : PyData → Prop) : Prop := ∃ n : Int, ds = [.int n] ∧ R .none
def t_check_total (K : PySem.W.Frag) : TS :=
  (tIfS (tNot (tB (tCall (spP K W_is_integer) [] E0 (tCons (tVar 0) tNil))))
    tNever
    tNext)
def W_added (ds : List PyData) (R : PyData → Prop) : Prop := ∃ (s : Int) (a b : Nat) (xs ys : List Int) (t : Int), ds = [wtD s a xs, wtD s b ys, .int t] ∧ Wt s a xs ∧ Wt s b ys ∧ ((-(2 ^ 64) < t ∧ t < 2 ^ 64) ∨ t.natAbs < 2 ^ 1000 ∧ ∀ v ∈ ys, v.natAbs < 2 ^ 1000) ∧ R (wtD s (max a b) (addV (wideV s (max a b - a) xs) (wideV s (max a b - b) ys) t))
def t_added (K : PySem.W.Frag) : TS :=
  (tSeq (tDrop (tCall (spP K W_check_weight) [] E0 (tCons (tVar 0) tNil)))
    (tSeq (tDrop (tCall (spP K W_check_weight) [] E0 (tCons (tVar 1) tNil)))
    (tSeq (tDrop (tCall (spP K W_check_total) [] E0 (tCons (tVar 2) tNil)))
    (tSeq (tDrop (tCall (spP K W_check_like_signs) [] E0 (tCons (tVar 0) (tCons (tVar 1) tNil))))
    (tSeq (tAsg (tCB rMax2A (tCons (tOp (rIx K) (tVar 0) (tC (.int 1))) (tCons (tOp (rIx K) (tVar 1) (tC (.int 1))) tNil))) (gName 3))
    (tSeq (tAsg (tCall (spP K W_values_at_span) [] E0 (tCons (tVar 0) (tCons (tVar 3) tNil))) (gName 4))
    (tSeq (tAsg (tCall (spP K W_values_at_span) [] E0 (tCons (tVar 1) (tCons (tVar 3) tNil))) (gName 5))
    (tRet (tTup (tCons (tOp (rIx K) (tVar 0) (tC (.int 0))) (tCons (tVar 3) (tCons (tLc (iZip K (tCons (tVar 4) (tCons (tVar 5) tNil))) (gTup K 2 (gNames [6, 7])) tYes (tOp (rPlus K) (tVar 6) (tOp rTimes (tVar 2) (tVar 7))) [6, 7]) tNil))))))))))))
def W_divisor (ds : List PyData) (R : PyData → Prop) : Prop := ∃ (s : Int) (l : Nat) (vs : List Int), ds = [wtD s l vs] ∧ Wt s l vs ∧ R (.int (gcdL (plainOf s l vs).2))
def t_divisor (K : PySem.W.Frag) : TS :=
  (tSeq (tAsg (tC (.int 0)) (gName 1))
    (tSeq (tFor (iList K (tOp (rIx K) (tCall (spN K W_plain) [] E0 (tCons (tVar 0) tNil)) (tC (.int 2)))) (gName 2)
    (tAsg (tCB rGcd (tCons (tVar 1) (tCons (tVar 2) tNil))) (gName 1)))
    (tRet (tVar 1))))
def pulN (s : Int) (w : Nat) (T : List Int) (l : Nat) (vs : List Int) : Nat → Nat × List Int
  | 0 => (l, vs)
  | k + 1 => (w + (pulN s w T l vs k).1 - 1, pulT s w T (pulN s w T l vs k).1 (pulN s w T l vs k).2)
def tickN (s f : Int) (w : Nat) (T r : List Int) : Nat → List Int
  | 0 => r
  | k + 1 => tick s f w T (tickN s f w T r k)
def gainP (s : Int) (w : Nat) (T : List Int) (l : Nat) (vs : List Int) (n : Nat) : Nat × List Int := plainOf s (pulN s w T l vs n).1 (addV (pulN s w T l vs n).2 (wideV s ((pulN s w T l vs n).1 - l) vs) (-1))
def W_ring_gain (ds : List PyData) (R : PyData → Prop) : Prop := ∃ (s f : Int) (w : Nat) (T : List Int) (l : Nat) (vs : List Int) (n : Nat), ds = [rlD s f w T, wtD s l vs, .int n] ∧ Rl s f w T ∧ Wt s l vs ∧ n ≤ 8 ∧ s ^ (l + n * (w - 1)) ≤ 1024 ∧ R (wtD s (gainP s w T l vs n).1 (gainP s w T l vs n).2)
def t_ring_gain (K : PySem.W.Frag) : TS :=
  (tSeq (tDrop (tCall (spP K W_check_rule) [] E0 (tCons (tVar 0) tNil)))
    (tSeq (tDrop (tCall (spP K W_check_weight) [] E0 (tCons (tVar 1) tNil)))
    (tSeq (tDrop (tCall (spP K W_check_ticks) [] E0 (tCons (tVar 2) (tCons (tC (.int 8)) tNil))))
    (tSeq (tDrop (tCall (spP K W_check_like_signs) [] E0 (tCons (tVar 0) (tCons (tVar 1) tNil))))
    (tSeq (tAsg (tVar 1) (gName 3))
    (tSeq (tFor (iRg1 (tCons (tVar 2) tNil)) (gName 4)
    (tAsg (tCall (spN K W_pulled) [] E0 (tCons (tVar 0) (tCons (tVar 3) tNil))) (gName 3)))
    (tRet (tCall (spN K W_plain) [] E0 (tCons (tCall (spN K W_added) [] E0 (tCons (tVar 3) (tCons (tVar 1) (tCons (tUn rNegI (tC (.int 1))) tNil)))) tNil)))))))))
end Cf
namespace Cf
open PySem PySem.Spec PyProof.Rows L2
open Evl (Ex)
local macro_rules | `(tactic| walk_at "d") => `(tactic| first
  | (with_reducible refine DS_seq ?_)
  | (with_reducible refine DS_if ?_)
  | (with_reducible refine DS_ret ?_)
  | (with_reducible refine DS_next ?_)
  | (with_reducible refine DS_retN ?_)
  | (with_reducible refine DS_set ?_)
  | (with_reducible refine DS_drop ?_)
  | (with_reducible refine DS_unpack ?_)
  | (with_reducible refine DS_par ?_)
  | (with_reducible refine DE_int ?_)
  | (with_reducible refine DE_bl ?_)
  | (with_reducible refine DE_non ?_)
  | (with_reducible refine DE_str ?_)
  | (with_reducible refine DE_isi ?_)
  | (with_reducible refine DE_and ?_)
  | (with_reducible refine DE_or ?_)
  | (with_reducible refine DE_not ?_)
  | (with_reducible refine DE_if ?_)
  | (with_reducible refine DE_chain ?_)
  | (with_reducible refine DE_tyIs ?_)
  | (with_reducible refine DE_tyNot ?_)
  | (with_reducible refine DE_call ?_)
  | ((with_reducible refine' DE_lenOw ?k1 ?_); (case k1 => exact rfl))
  | (with_reducible refine DE_cb ?_)
  | (with_reducible refine DE_new (DL_rep (DL_lst ?_)))
  | (with_reducible refine DE_op ?_)
  | (with_reducible refine DE_un ?_)
  | (with_reducible refine DE_tup ?_)
  | (with_reducible refine DT_test ?_)
  | (with_reducible refine DT_B ?_)
  | (with_reducible refine DT_and ?_)
  | (with_reducible refine DT_or ?_)
  | (with_reducible refine DT_not ?_)
  | (with_reducible refine DT_yes ?_)
  | (with_reducible refine DA_nil ?_)
  | (with_reducible refine DA_cons ?_)
  | (with_reducible refine DO_no ?_)
  | (with_reducible refine DO_at ?_)
  | (with_reducible refine DR_minus ?_)
  | (with_reducible refine DR_mod ?_)
  | (with_reducible refine DR_div ?_)
  | (with_reducible refine DR_pow ?_)
  | (with_reducible refine DR_lt ?_)
  | (with_reducible refine DR_le ?_)
  | (with_reducible refine DR_gt ?_)
  | (with_reducible refine DR_ge ?_)
  | (with_reducible refine DR_eq ?_)
  | (with_reducible refine DR_ne ?_)
  | (with_reducible refine DR_isN ?_)
  | (with_reducible refine DR_notN ?_)
  | (with_reducible refine DU_neg ?_)
  | (with_reducible refine DC_len ?_)
  | (with_reducible refine DC_int ?_)
  | (with_reducible refine DC_abs ?_)
  | (with_reducible refine DC_max2 ?_)
  | (with_reducible refine DC_min2 ?_)
  | (with_reducible refine DC_sum ?_)
  | (with_reducible refine DC_all ?_)
  | (with_reducible refine DC_any ?_)
  | (with_reducible refine DC_repr ?_)
  | (with_reducible refine ⟨_, kb_int _, ?_⟩)
  | (with_reducible refine ⟨_, kb_bool _, ?_⟩)
  | (with_reducible refine ⟨_, kb_list _, ?_⟩)
  | (with_reducible refine ⟨_, kb_tuple _, ?_⟩)
  | (with_reducible refine ⟨_, rfl, ?_⟩)
  | (with_reducible refine ⟨_, _, rfl, rfl, ?_⟩)
  | (with_reducible refine DE_callN ?_)
  | (with_reducible refine DE_callX ?_)
  | (with_reducible refine DR_notB ?_)
  | (with_reducible refine DE_emp ?_)
  | (with_reducible refine DE_new (DL_lst ?_))
  | (with_reducible refine DE_new (DL_sl ?_))
  | (with_reducible refine DE_slT ?_)
  | (with_reducible refine DC_list ?_)
  | ((with_reducible refine' DE_callT ?k1 ?_); (case k1 => exact rfl))
  | ((with_reducible refine' DE_var ?k1 ?_); (case k1 => exact rfl))
  | ((with_reducible refine' DE_varO ?k1 ?_); (case k1 => exact rfl))
  | ((with_reducible refine' DE_varN ?k1 ?_); (case k1 => exact rfl)))


section
variable {K : PySem.W.Frag} {t : Option Addr} {ρ : Rho} {i j : Nat} {te : TE} {t1 : TS} {N B C : Rho → Prop} {R : PyData → Prop}
/-- for a, b in a list of pairs -/
theorem DS_forLP (h : DE K t te ρ fun x => ∃ ds, x = .list ds ∧ ∃ I : Nat → Rho → Prop, I 0 ρ ∧ (∀ k d ρ', ds[k]? = some d → I k ρ' → ∃ d1 d2, d = .tuple [d1, d2] ∧ DS K t t1 ((ρ'.set i (.sh d1)).set j (.sh d2)) (I (k + 1)) R N (I (k + 1))) ∧ ∀ ρ', I ds.length ρ' → N ρ') :
    DS K t (tFor (iList K te) (gTup K 2 (gNames [i, j])) t1) ρ N R B C := fun F0 H0 F H σ D A kn kr kb kc =>
  h F0 H0 F H σ A _ fun x v F1 H1 hq s1 z => by
    have A1 := A.step s1
    have e1 := s1.ff
    obtain ⟨ds, rfl, I, h0, hs, hd⟩ := hq
    cases z with
    | @lst a xs _ s1 s2 =>
      refine ⟨a, rfl, ⟨xs, Evl.ex_l A1.fh s1⟩, ?_⟩
      refine DS_for (walk_list (K := K) (xs := xs)) I A1 h0 (fun F' H' e e' => Evl.ex_l (e.trans e') s1) (fun ρ' F' H' σ' q A' e => kn ρ' F' H' σ' (hd ρ' (by rwa [s2.len] at q)) A' (e1.trans e)) ?_
      rintro k x σ' ρ' F2 H2 H3 Nx hk q A2 e2 ⟨rfl, hx⟩ kN
      obtain ⟨d, hd', zd⟩ := s2.get hx
      obtain ⟨d1, d2, rfl, body⟩ := hs k d ρ' hd' q
      have zd2 := zd.up e2
      cases zd2 with
      | @tup b ys _ s3 s4 =>
        exact ⟨b, ys, rfl, Evl.ex_t A2.fh s3, by rw [s4.len]; rfl, names_run [i, j] [d1, d2] ys σ' ρ' _ rfl s4 A2 fun σ2 A3 => body F0 H0 F2 _ _ _ A3 (fun r F' H' s q A' e => kN r F' H' s q A' (e2.trans e)) kr
          (fun r F' H' s q A' e => kn r F' H' s q A' ((e1.trans e2).trans e)) fun r F' H' s q A' e => kN r F' H' s q A' (e2.trans e)⟩
end
/-! ### greatest and least gains -/
abbrev gP (s : Int) (w : Nat) (T : List Int) (l : Nat) (vs : List Int) (n : Nat) : Nat := (s ^ ((gainP s w T l vs n).1 - 1)).toNat
def ggM (s : Int) (w : Nat) (T : List Int) (l : Nat) (vs : List Int) (n : Nat) : Int × Int := greatM s (gP s w T l vs n) (gainP s w T l vs n).2
def lgM (s : Int) (w : Nat) (T : List Int) (l : Nat) (vs : List Int) (n : Nat) : Int × Int := leastM s (gP s w T l vs n) (gainP s w T l vs n).2
abbrev gsR (s f : Int) (w : Nat) (T : List Int) (l : Nat) (vs : List Int) (n : Nat) (r : List Int) : Int := ringSum s l vs (tickN s f w T r n) - ringSum s l vs r
section
variable {s f : Int} {w : Nat} {T : List Int} {l : Nat} {vs : List Int} {n : Nat}
def rmV (s : Int) (w : Nat) (T : List Int) (l : Nat) (vs : List Int) : Int := gcdL (plainOf s (gainP s w T l vs 1).1 (gainP s w T l vs 1).2).2
end
def W_greatest_gain (ds : List PyData) (R : PyData → Prop) : Prop := ∃ (s f : Int) (w : Nat) (T : List Int) (l : Nat) (vs : List Int) (n : Nat), ds = [rlD s f w T, wtD s l vs, .int n] ∧ Rl s f w T ∧ Wt s l vs ∧ n ≤ 8 ∧ s ^ (l + n * (w - 1)) ≤ 1024 ∧ R (mD (ggM s w T l vs n))
def t_greatest_gain (K : PySem.W.Frag) : TS :=
  (tRet (tCall (spP K W_greatest_mean) [] E0 (tCons (tCall (spP K W_ring_gain) [] E0 (tCons (tVar 0) (tCons (tVar 1) (tCons (tVar 2) tNil)))) tNil)))
def W_least_gain (ds : List PyData) (R : PyData → Prop) : Prop := ∃ (s f : Int) (w : Nat) (T : List Int) (l : Nat) (vs : List Int) (n : Nat), ds = [rlD s f w T, wtD s l vs, .int n] ∧ Rl s f w T ∧ Wt s l vs ∧ n ≤ 8 ∧ s ^ (l + n * (w - 1)) ≤ 1024 ∧ R (mD (lgM s w T l vs n))
def t_least_gain (K : PySem.W.Frag) : TS :=
  (tRet (tCall (spP K W_least_mean) [] E0 (tCons (tCall (spP K W_ring_gain) [] E0 (tCons (tVar 0) (tCons (tVar 1) (tCons (tVar 2) tNil)))) tNil)))
def W_remainder (ds : List PyData) (R : PyData → Prop) : Prop := ∃ (s f : Int) (w : Nat) (T : List Int) (l : Nat) (vs : List Int), ds = [rlD s f w T, wtD s l vs] ∧ Rl s f w T ∧ Wt s l vs ∧ s ^ (l + 1 * (w - 1)) ≤ 1024 ∧ R (.int (rmV s w T l vs))
def t_remainder (K : PySem.W.Frag) : TS :=
  (tRet (tCall (spP K W_divisor) [] E0 (tCons (tCall (spP K W_ring_gain) [] E0 (tCons (tVar 0) (tCons (tVar 1) (tCons (tC (.int 1)) tNil)))) tNil)))
def W_is_kept (ds : List PyData) (R : PyData → Prop) : Prop := ∃ (s f : Int) (w : Nat) (T : List Int) (l : Nat) (vs : List Int), ds = [rlD s f w T, wtD s l vs] ∧ Rl s f w T ∧ Wt s l vs ∧ s ^ (l + 1 * (w - 1)) ≤ 1024 ∧ R (.bool (decide (rmV s w T l vs = 0)))
def t_is_kept (K : PySem.W.Frag) : TS :=
  (tRet (tOp (rEqU K) (tCall (spP K W_remainder) [] E0 (tCons (tVar 0) (tCons (tVar 1) tNil))) (tC (.int 0))))
def W_never_grows (ds : List PyData) (R : PyData → Prop) : Prop := ∃ (s f : Int) (w : Nat) (T : List Int) (l : Nat) (vs : List Int), ds = [rlD s f w T, wtD s l vs] ∧ Rl s f w T ∧ Wt s l vs ∧ s ^ (l + 1 * (w - 1)) ≤ 1024 ∧ R (.bool (decide ((ggM s w T l vs 1).1 ≤ 0)))
def t_never_grows (K : PySem.W.Frag) : TS :=
  (tRet (tOp rLeI (tOp (rIx K) (tCall (spP K W_greatest_gain) [] E0 (tCons (tVar 0) (tCons (tVar 1) (tCons (tC (.int 1)) tNil)))) (tC (.int 0))) (tC (.int 0))))
end Cf
namespace Cf
open PySem PySem.Spec PyProof.Rows L2
open Evl (Ex)
local macro_rules | `(tactic| walk_at "d") => `(tactic| first
  | (with_reducible refine DS_seq ?_)
  | (with_reducible refine DS_if ?_)
  | (with_reducible refine DS_ret ?_)
  | (with_reducible refine DS_next ?_)
  | (with_reducible refine DS_retN ?_)
  | (with_reducible refine DS_set ?_)
  | (with_reducible refine DS_drop ?_)
  | (with_reducible refine DS_unpack ?_)
  | (with_reducible refine DS_par ?_)
  | (with_reducible refine DE_int ?_)
  | (with_reducible refine DE_bl ?_)
  | (with_reducible refine DE_non ?_)
  | (with_reducible refine DE_str ?_)
  | (with_reducible refine DE_isi ?_)
  | (with_reducible refine DE_and ?_)
  | (with_reducible refine DE_or ?_)
  | (with_reducible refine DE_not ?_)
  | (with_reducible refine DE_if ?_)
  | (with_reducible refine DE_chain ?_)
  | (with_reducible refine DE_tyIs ?_)
  | (with_reducible refine DE_tyNot ?_)
  | (with_reducible refine DE_call ?_)
  | ((with_reducible refine' DE_lenOw ?k1 ?_); (case k1 => exact rfl))
  | ((with_reducible refine' DE_reprOw ?k1 ?_); (case k1 => exact rfl))
  | ((with_reducible refine' DE_ixOw ?k1 ?_); (case k1 => exact rfl))
  | ((with_reducible refine' DE_lenOw ?k1 ?_); (case k1 => exact rfl))
  | (with_reducible refine DE_cb ?_)
  | (with_reducible refine DE_new (DL_rep (DL_lst ?_)))
  | (with_reducible refine DE_op ?_)
  | (with_reducible refine DE_un ?_)
  | (with_reducible refine DE_tup ?_)
  | (with_reducible refine DT_test ?_)
  | (with_reducible refine DT_B ?_)
  | (with_reducible refine DT_and ?_)
  | (with_reducible refine DT_or ?_)
  | (with_reducible refine DT_not ?_)
  | (with_reducible refine DT_yes ?_)
  | (with_reducible refine DA_nil ?_)
  | (with_reducible refine DA_cons ?_)
  | (with_reducible refine DO_no ?_)
  | (with_reducible refine DO_at ?_)
  | (with_reducible refine DR_minus ?_)
  | (with_reducible refine DR_mod ?_)
  | (with_reducible refine DR_div ?_)
  | (with_reducible refine DR_pow ?_)
  | (with_reducible refine DR_lt ?_)
  | (with_reducible refine DR_le ?_)
  | (with_reducible refine DR_gt ?_)
  | (with_reducible refine DR_ge ?_)
  | (with_reducible refine DR_eq ?_)
  | (with_reducible refine DR_ne ?_)
  | (with_reducible refine DR_isN ?_)
  | (with_reducible refine DR_notN ?_)
  | (with_reducible refine DU_neg ?_)
  | (with_reducible refine DC_len ?_)
  | (with_reducible refine DC_int ?_)
  | (with_reducible refine DC_abs ?_)
  | (with_reducible refine DC_max2 ?_)
  | (with_reducible refine DC_min2 ?_)
  | (with_reducible refine DC_sum ?_)
  | (with_reducible refine DC_all ?_)
  | (with_reducible refine DC_any ?_)
  | (with_reducible refine DC_repr ?_)
  | (with_reducible refine ⟨_, kb_int _, ?_⟩)
  | (with_reducible refine ⟨_, kb_bool _, ?_⟩)
  | (with_reducible refine ⟨_, kb_list _, ?_⟩)
  | (with_reducible refine ⟨_, kb_tuple _, ?_⟩)
  | (with_reducible refine ⟨_, rfl, ?_⟩)
  | (with_reducible refine ⟨_, _, rfl, rfl, ?_⟩)
  | (with_reducible refine DE_callN ?_)
  | (with_reducible refine DE_callX ?_)
  | (with_reducible refine DR_notB ?_)
  | (with_reducible refine DE_emp ?_)
  | (with_reducible refine DE_new (DL_lst ?_))
  | (with_reducible refine DE_new (DL_callF ?_))
  | (with_reducible refine DE_new (DL_sl ?_))
  | (with_reducible refine DE_slT ?_)
  | (with_reducible refine DC_list ?_)
  | ((with_reducible refine' DE_callT ?k1 ?_); (case k1 => exact rfl))
  | ((with_reducible refine' DE_var ?k1 ?_); (case k1 => exact rfl))
  | ((with_reducible refine' DE_varO ?k1 ?_); (case k1 => exact rfl))
  | ((with_reducible refine' DE_varN ?k1 ?_); (case k1 => exact rfl)))


/-! k50: the law -/
open Cg (spC w__law_rule W__law_rule w__law_ring W__law_ring w__law_coin W__law_coin)
def W_law (ds : List PyData) (R : PyData → Prop) : Prop := ∃ ns : List Int, ds = [LI ns] ∧ ns.length ≤ 63 ∧ R (.bool true)
def t_law (K : PySem.W.Frag) : TS :=
  (tSeq (tFor (iRg1 (tCons (tCB rMax2A (tCons (tC (.int 1)) (tCons (tCB rMin2A (tCons (tC (.int 5)) (tCons (tCB (rLenA K) (tCons (tVar 0) tNil)) tNil))) tNil))) tNil)) (gName 1)
    (tSeq (tAsg (tCall (spF K W__law_purse) [] E0 (tCons (tVar 0) (tCons (tVar 1) tNil))) (gName 2))
    (tFor (iRg1 (tCons (tC (.int 6)) tNil)) (gName 3)
    (tSeq (tAsg (tOp (rPlus K) (tC (.int 2)) (tCall (Cg.spC K true Cg.w__law_coin Cg.W__law_coin) [] E0 (tCons (tVar 2) (tCons (tC (.int 3)) tNil)))) (gName 4))
    (tSeq (tAsg (tIf (tAnd (tTest (tOp (rEqU K) (tVar 1) (tC (.int 0)))) (tTest (tOp (rEqU K) (tVar 3) (tC (.int 0))))) (tOp (rIx K) (tLst (tCons (tC (.int 10)) (tCons (tC (.int 6)) (tCons (tC (.int 5)) tNil)))) (tOp rMinus (tVar 4) (tC (.int 2)))) (tOp (rIx K) (tLst (tCons (tC (.int 5)) (tCons (tC (.int 3)) (tCons (tC (.int 3)) tNil)))) (tOp rMinus (tVar 4) (tC (.int 2))))) (gName 5))
    (tSeq (tIfS (tNot (tB (tCall (spP K W__law_rule_right) [] E0 (tCons (tCall (Cg.spC K true Cg.w__law_rule Cg.W__law_rule) [] E0 (tCons (tVar 2) (tCons (tVar 4) (tCons (tVar 5) tNil)))) tNil))))
    (tRet (tC (.bl false)))
    tNext)
    (tIfS (tNot (tB (tCall (spP K W__law_ring_right) [] E0 (tCons (tVar 4) (tCons (tCall (Cg.spC K true Cg.w__law_ring Cg.W__law_ring) [] E0 (tCons (tVar 2) (tCons (tVar 4) (tCons (tOp (rIx K) (tLst (tCons (tC (.int 1)) (tCons (tC (.int 2)) (tCons (tC (.int 9)) (tCons (tC (.int 40)) (tCons (tC (.int 511)) (tCons (tC (.int 512)) tNil))))))) (tVar 3)) tNil)))) tNil)))))
    (tRet (tC (.bl false)))
    tNext)))))))
    (tSeq (tAsg (tLst (tCons (tTup (tCons (tC (.str "2 -1 00011101")) (tCons (tTup (tCons (tC (.int 2)) (tCons (tUn rNegI (tC (.int 1))) (tCons (tC (.int 3)) (tCons (tLst (tCons (tC (.int 0)) (tCons (tC (.int 0)) (tCons (tC (.int 0)) (tCons (tC (.int 1)) (tCons (tC (.int 1)) (tCons (tC (.int 1)) (tCons (tC (.int 0)) (tCons (tC (.int 1)) tNil))))))))) tNil))))) tNil))) (tCons (tTup (tCons (tC (.str "4 0 3210")) (tCons (tTup (tCons (tC (.int 4)) (tCons (tC (.int 0)) (tCons (tC (.int 1)) (tCons (tLst (tCons (tC (.int 3)) (tCons (tC (.int 2)) (tCons (tC (.int 1)) (tCons (tC (.int 0)) tNil))))) tNil))))) tNil))) tNil))) (gName 6))
    (tSeq (tAsg (tOp (rPlus K) (tVar 6) (tLst (tCons (tTup (tCons (tC (.str "2 100 10")) (tCons (tTup (tCons (tC (.int 2)) (tCons (tC (.int 100)) (tCons (tC (.int 1)) (tCons (tLst (tCons (tC (.int 1)) (tCons (tC (.int 0)) tNil))) tNil))))) tNil))) (tCons (tTup (tCons (tC (.str "3 -100 000000000")) (tCons (tTup (tCons (tC (.int 3)) (tCons (tUn rNegI (tC (.int 100))) (tCons (tC (.int 2)) (tCons (tOp rTimes (tLst (tCons (tC (.int 0)) tNil)) (tC (.int 9))) tNil))))) tNil))) tNil)))) (gName 6))
    (tSeq (tFor (iList K (tVar 6)) (gTup K 2 (gNames [7, 8]))
    (tIfS (tOr (tTest (tOp (rNeU K) (tCall (spP K W_show_rule) [] E0 (tCons (tVar 8) tNil)) (tVar 7))) (tTest (tOp (rNeU K) (tCall (spN K W_read_rule) [] E0 (tCons (tVar 7) tNil)) (tVar 8))))
    (tRet (tC (.bl false)))
    tNext))
    (tRet (tOp (rEqU K) (tLst (tCons (tCall (spP K W_show_ring) [] E0 (tCons (tC (.int 3)) (tCons (tLst (tCons (tC (.int 2)) (tCons (tC (.int 0)) (tCons (tC (.int 1)) tNil)))) tNil))) (tCons (tCall (spF K W_read_ring) [] E0 (tCons (tC (.int 2)) (tCons (tC (.str "011")) tNil))) tNil))) (tLst (tCons (tC (.str "201")) (tCons (tLst (tCons (tC (.int 0)) (tCons (tC (.int 1)) (tCons (tC (.int 1)) tNil)))) tNil)))))))))
theorem ds_law : Keeps W_law 9 t_law := by
  intro K ds R h
  obtain ⟨ns, rfl, hn, q⟩ := h
  refine ⟨by simp, ?_⟩
  show DS K _ (t_law K) [.sh (LI ns), .no, .no, .no, .no, .no, .no, .no, .no] _ _ _ _
  unfold t_law
  refine DS_seq (DS_forR1 ?_)
  repeat walk_at "d"
  refine ⟨_, _, rfl, ?_⟩
  refine DA_nil (DC_max2 ⟨_, _, rfl, ?_⟩)
  refine DA_nil ⟨_, rfl, ?_⟩
  refine ⟨fun _ ρ => ∃ z1 z3 z4 z5, ρ = [.sh (LI ns), z1, .no, z3, z4, z5, .no, .no, .no], ⟨.no, .no, .no, .no, rfl⟩, ?_, ?_⟩
  · rintro k ρ hk ⟨z1, z3, z4, z5, rfl⟩
    have hk : k < 1000 := by
      rw [List.length_map] at hk
      omega
    refine Cg.DS_purse (b := true) (β := Cg.w_law) (DL_callF ?_)
    repeat walk_at "d"
    refine ⟨ns, k, by rw [Int.zero_add], hk, fun x y x0 y0 y1 => ⟨⟨[x, y, 0], rfl, .three x y 0 x0 y0 y1 (by decide) (by decide +kernel)⟩, fun p => ?_⟩⟩
    show Cg.DS K ⟨p, true⟩ _ _ [.sh (LI ns), .sh (.int (0 + (k : Int))), .tp, z3, z4, z5, .no, .no, .no] _ _ _ _
    rw [Int.zero_add]
    exact Cg.law_turns K p (LI ns) k z3 z4 z5 _ _ _ _ fun z3 z4 z5 => ⟨.sh (.int k), Cg.unTp z3, Cg.unTp z4, Cg.unTp z5, rfl⟩
  · rintro ρ ⟨z1, z3, z4, z5, rfl⟩
    refine DS_seq (DS_set ?_)
    repeat (first | walk_at "d" | refine ⟨by show _ ≤ 100000; simp, ?_⟩)
    refine ⟨by decide, by decide, by decide, ?_⟩
    repeat (first | walk_at "d" | refine ⟨by show _ ≤ 100000; simp, ?_⟩)
    refine DR_catL ⟨_, _, rfl, rfl, by decide, ?_⟩
    have e9 : (List.replicate (Int.toNat 9) [PyData.int 0]).flatten = List.replicate 9 (PyData.int 0) := by rw [show Int.toNat 9 = 9 by decide, List.flatten_replicate_singleton]
    rw [e9]
    have turn : ∀ (s f : Int) (w : Nat) (T : List Int) (x : Str) (ρ : Rho) (N B C : Rho → Prop) (R : PyData → Prop), x = r3 s f T → Rl s f w T → ρ[7]? = some (.sh (.str x)) → ρ[8]? = some (.sh (rlD s f w T)) → N ρ →
        DS K none (tIfS (tOr (tTest (tOp (rNeU K) (tCall (spP K W_show_rule) [] E0 (tCons (tVar 8) tNil)) (tVar 7))) (tTest (tOp (rNeU K) (tCall (spN K W_read_rule) [] E0 (tCons (tVar 7) tNil)) (tVar 8))))
          (tRet (tC (.bl false)))
          tNext) ρ N R B C := fun s f w T x ρ N B C R ex hr h7 h8 hN => by
      subst ex
      refine DS_if (DT_or (DT_test (DE_op (DE_call (DA_cons (DE_var h8 (DA_nil ⟨s, f, w, T, rfl, hr, DE_var h7 (DR_neS ⟨_, _, rfl, rfl, _, rfl, ?_⟩)⟩)))))))
      rw [str_same]
      refine iteF (DT_test (DE_op (DE_callN (DA_cons (DE_var h7 (DA_nil ⟨s, f, w, T, rfl, hr, DE_var h8 (DR_ne ⟨shp_rl .., shp_rl .., _, rfl, ?_⟩)⟩))))))
      rw [eqv_shaped (shp_rl ..)]
      exact iteF (DS_next hN)
    refine DS_seq (DS_forLP (i := 7) (j := 8) (DE_var (by rfl) ⟨_, rfl, fun k ρ => ∃ L z7 z8, ρ = [.sh (LI ns), z1, .no, z3, z4, z5, .sh L, z7, z8], ⟨_, _, _, rfl⟩, ?_, ?_⟩))
    · rintro k d ρ hd ⟨L, z7, z8, rfl⟩
      have hd := List.mem_of_getElem? hd
      simp only [List.cons_append, List.nil_append, List.mem_cons, List.not_mem_nil, or_false] at hd
      rcases hd with rfl | rfl | rfl | rfl
      · exact ⟨_, _, rfl, turn 2 (-1) 3 [0, 0, 0, 1, 1, 1, 0, 1] _ _ _ _ _ _ (by decide +kernel) ⟨by decide, by decide, by decide, by decide, by decide, fun d hd => by
          simp only [List.mem_cons, List.not_mem_nil, or_false] at hd
          omega, by decide, by decide⟩ rfl rfl ⟨_, _, _, rfl⟩⟩
      · exact ⟨_, _, rfl, turn 4 0 1 [3, 2, 1, 0] _ _ _ _ _ _ (by decide +kernel) ⟨by decide, by decide, by decide, by decide, by decide, fun d hd => by
          simp only [List.mem_cons, List.not_mem_nil, or_false] at hd
          omega, by decide, by decide⟩ rfl rfl ⟨_, _, _, rfl⟩⟩
      · exact ⟨_, _, rfl, turn 2 100 1 [1, 0] _ _ _ _ _ _ (by decide +kernel) ⟨by decide, by decide, by decide, by decide, by decide, fun d hd => by
          simp only [List.mem_cons, List.not_mem_nil, or_false] at hd
          omega, by decide, by decide⟩ rfl rfl ⟨_, _, _, rfl⟩⟩
      · exact ⟨_, _, rfl, turn 3 (-100) 2 (List.replicate 9 0) _ _ _ _ _ _ (by decide +kernel) ⟨by decide, by decide, by decide, by decide, by decide, fun d hd => by
          have := List.eq_of_mem_replicate hd
          omega, by decide, by decide⟩ rfl rfl ⟨_, _, _, rfl⟩⟩
    · rintro ρ ⟨L, z7, z8, rfl⟩
      have e1 : Str.ofString "201" = sgt [2, 0, 1] := by decide +kernel
      have e2 : Str.ofString "011" = sgt [0, 1, 1] := by decide +kernel
      have g1 : Rg 3 [2, 0, 1] := ⟨by decide, by decide, fun d hd => by
        simp only [List.mem_cons, List.not_mem_nil, or_false] at hd
        omega⟩
      have g2 : Rg 2 [0, 1, 1] := ⟨by decide, by decide, fun d hd => by
        simp only [List.mem_cons, List.not_mem_nil, or_false] at hd
        omega⟩
      refine DS_ret (DE_op (DE_new (DL_lst ?_)))
      repeat (first | walk_at "d" | refine ⟨by show _ ≤ 100000; simp, ?_⟩)
      refine ⟨3, [2, 0, 1], rfl, by decide, by decide, g1, ?_⟩
      repeat (first | walk_at "d" | refine ⟨by show _ ≤ 100000; simp, ?_⟩)
      refine ⟨2, [0, 1, 1], by rw [← e2], by decide, by decide, g2, ?_⟩
      repeat (first | walk_at "d" | refine ⟨by show _ ≤ 100000; simp, ?_⟩)
      refine ⟨by decide +kernel, by decide +kernel, ?_⟩
      have ev : PyData.eqv (.list [.str (sgt [2, 0, 1]), .list [.int 0, .int 1, .int 1]]) (.list [.str (Str.ofString "201"), .list [.int 0, .int 1, .int 1]]) = true := by
        rw [e1]
        decide +kernel
      exact (congrArg (fun b => R (.bool b)) ev).mpr q

end Cf
namespace Cf
open PySem PySem.Spec PyProof.Rows L2
open Evl (Ex)
theorem sp_of_law {K : PySem.W.Frag} {vs : List V} {H : Hp} {Q : VK} {E : XK} (h : spLaw K vs H Q E) : spP K W_law vs H Q E := by
  obtain ⟨a, ns, rfl, hS, hl, hO, q⟩ := h
  exact ⟨H, [LI ns], fun d => d = .bool true, Ex.refl H, .cons (.lst hS Dqs.ofInts) .nil, ⟨ns, rfl, hl, rfl⟩, fun d v F' H' e g z => by
    subst e
    cases z
    exact q H'⟩
end Cf
/-! ### the text of the law, its defs one by one -/
namespace Cg
open PySem PySem.Spec PyProof.Rows L2 Cf
def topS (i : Nat) : Stmt := PySem.Challenge.pw_cellflows_k50_texts_of_rules_and_rings.main.body.getD i (.Pass ⟨0, 0, 0, 0⟩)
abbrev s_is_integer : Stmt := topS 8
theorem sc_is_integer : FnScope ["value"] ["value"] (defScope s_is_integer) := ⟨rfl, rfl, rfl, by decide +kernel, rfl, by decide +kernel, by decide +kernel⟩
abbrev s_count_words : Stmt := topS 13
theorem sc_count_words : FnScope ["signs", "length", "limit", "many", "_"] ["signs", "length", "limit"] (defScope s_count_words) := ⟨rfl, rfl, rfl, by decide +kernel, rfl, by decide +kernel, by decide +kernel⟩
abbrev s_is_reached : Stmt := topS 18
theorem sc_is_reached : FnScope ["first", "width"] ["first", "width"] (defScope s_is_reached) := ⟨rfl, rfl, rfl, by decide +kernel, rfl, by decide +kernel, by decide +kernel⟩
abbrev s_is_number : Stmt := topS 25
theorem sc_is_number : FnScope ["word", "digits", "digit"] ["word"] (defScope s_is_number) := ⟨rfl, rfl, rfl, by decide +kernel, rfl, by decide +kernel, by decide +kernel⟩
abbrev s_is_sign_count_word : Stmt := topS 26
theorem sc_is_sign_count_word : FnScope ["word"] ["word"] (defScope s_is_sign_count_word) := ⟨rfl, rfl, rfl, by decide +kernel, rfl, by decide +kernel, by decide +kernel⟩
abbrev s_are_signs : Stmt := topS 27
theorem sc_are_signs : FnScope ["signs", "word", "digit"] ["signs", "word"] (defScope s_are_signs) := ⟨rfl, rfl, rfl, by decide +kernel, rfl, by decide +kernel, by decide +kernel⟩
abbrev s_signs_in : Stmt := topS 28
theorem sc_signs_in : FnScope ["word", "digit"] ["word"] (defScope s_signs_in) := ⟨rfl, rfl, rfl, by decide +kernel, rfl, by decide +kernel, by decide +kernel⟩
abbrev s_signs_text : Stmt := topS 29
theorem sc_signs_text : FnScope ["items", "item"] ["items"] (defScope s_signs_text) := ⟨rfl, rfl, rfl, by decide +kernel, rfl, by decide +kernel, by decide +kernel⟩
abbrev s_words_of : Stmt := topS 30
theorem sc_words_of : FnScope ["text"] ["text"] (defScope s_words_of) := ⟨rfl, rfl, rfl, by decide +kernel, rfl, by decide +kernel, by decide +kernel⟩
abbrev s_span_of : Stmt := topS 33
theorem sc_span_of : FnScope ["signs", "many", "span", "words"] ["signs", "many"] (defScope s_span_of) := ⟨rfl, rfl, rfl, by decide +kernel, rfl, by decide +kernel, by decide +kernel⟩
abbrev s__law_purse : Stmt := topS 39
theorem sc__law_purse : FnScope ["script", "k", "cell"] ["script", "k"] (defScope s__law_purse) := ⟨rfl, rfl, rfl, by decide +kernel, rfl, by decide +kernel, by decide +kernel⟩
abbrev s__law_coin : Stmt := topS 40
theorem sc__law_coin : FnScope ["purse", "many", "found", "mixed"] ["purse", "many"] (defScope s__law_coin) := ⟨rfl, rfl, rfl, by decide +kernel, rfl, by decide +kernel, by decide +kernel⟩
abbrev s__law_power : Stmt := topS 41
theorem sc__law_power : FnScope ["base", "many", "found", "turn"] ["base", "many"] (defScope s__law_power) := ⟨rfl, rfl, rfl, by decide +kernel, rfl, by decide +kernel, by decide +kernel⟩
abbrev s__law_signs : Stmt := topS 45
theorem sc__law_signs : FnScope ["row", "sign"] ["row"] (defScope s__law_signs) := ⟨rfl, rfl, rfl, by decide +kernel, rfl, by decide +kernel, by decide +kernel⟩
abbrev s_is_sign_count : Stmt := topS 9
theorem sc_is_sign_count : FnScope ["value"] ["value"] (defScope s_is_sign_count) := ⟨rfl, rfl, rfl, by decide +kernel, rfl, by decide +kernel, by decide +kernel⟩
abbrev s_is_integer_list : Stmt := topS 10
theorem sc_is_integer_list : FnScope ["value", "item"] ["value"] (defScope s_is_integer_list) := ⟨rfl, rfl, rfl, by decide +kernel, rfl, by decide +kernel, by decide +kernel⟩
abbrev s_stands_in_rule : Stmt := topS 32
theorem sc_stands_in_rule : FnScope ["words", "place"] ["words", "place"] (defScope s_stands_in_rule) := ⟨rfl, rfl, rfl, by decide +kernel, rfl, by decide +kernel, by decide +kernel⟩
abbrev s__law_table : Stmt := topS 42
theorem sc__law_table : FnScope ["purse", "signs_here", "width_here", "way", "spot", "found", "number", "word", "at", "some"] ["purse", "signs_here", "width_here"] (defScope s__law_table) := ⟨rfl, rfl, rfl, by decide +kernel, rfl, by decide +kernel, by decide +kernel⟩
abbrev s__law_ring : Stmt := topS 44
theorem sc__law_ring : FnScope ["purse", "signs_here", "size", "found", "wide"] ["purse", "signs_here", "size"] (defScope s__law_ring) := ⟨rfl, rfl, rfl, by decide +kernel, rfl, by decide +kernel, by decide +kernel⟩
abbrev s_is_word : Stmt := topS 11
theorem sc_is_word : FnScope ["signs", "value", "item"] ["signs", "value"] (defScope s_is_word) := ⟨rfl, rfl, rfl, by decide +kernel, rfl, by decide +kernel, by decide +kernel⟩
abbrev s_check_signs : Stmt := topS 12
theorem sc_check_signs : FnScope ["value"] ["value"] (defScope s_check_signs) := ⟨rfl, rfl, rfl, by decide +kernel, rfl, by decide +kernel, by decide +kernel⟩
abbrev s_check_words : Stmt := topS 31
theorem sc_check_words : FnScope ["words", "can_stand", "place"] ["words", "can_stand"] (defScope s_check_words) := ⟨rfl, rfl, rfl, by decide +kernel, rfl, by decide +kernel, by decide +kernel⟩
abbrev s__law_rule : Stmt := topS 43
theorem sc__law_rule : FnScope ["purse", "signs_here", "wide", "width_here", "far", "first_here"] ["purse", "signs_here", "wide"] (defScope s__law_rule) := ⟨rfl, rfl, rfl, by decide +kernel, rfl, by decide +kernel, by decide +kernel⟩
abbrev s_is_rule : Stmt := topS 17
theorem sc_is_rule : FnScope ["value", "signs", "first", "width", "table"] ["value"] (defScope s_is_rule) := ⟨rfl, rfl, rfl, by decide +kernel, rfl, by decide +kernel, by decide +kernel⟩
abbrev s_is_ring : Stmt := topS 19
theorem sc_is_ring : FnScope ["signs", "value"] ["signs", "value"] (defScope s_is_ring) := ⟨rfl, rfl, rfl, by decide +kernel, rfl, by decide +kernel, by decide +kernel⟩
abbrev s_check_rule : Stmt := topS 20
theorem sc_check_rule : FnScope ["value"] ["value"] (defScope s_check_rule) := ⟨rfl, rfl, rfl, by decide +kernel, rfl, by decide +kernel, by decide +kernel⟩
abbrev s_check_ring : Stmt := topS 21
theorem sc_check_ring : FnScope ["signs", "value"] ["signs", "value"] (defScope s_check_ring) := ⟨rfl, rfl, rfl, by decide +kernel, rfl, by decide +kernel, by decide +kernel⟩
abbrev s_read_rule : Stmt := topS 36
theorem sc_read_rule : FnScope ["text", "words", "signs", "table", "rule"] ["text"] (defScope s_read_rule) := ⟨rfl, rfl, rfl, by decide +kernel, rfl, by decide +kernel, by decide +kernel⟩
abbrev s_read_ring : Stmt := topS 37
theorem sc_read_ring : FnScope ["signs", "text", "words", "ring"] ["signs", "text"] (defScope s_read_ring) := ⟨rfl, rfl, rfl, by decide +kernel, rfl, by decide +kernel, by decide +kernel⟩
abbrev s_show_rule : Stmt := topS 34
theorem sc_show_rule : FnScope ["rule", "signs", "first", "_", "table"] ["rule"] (defScope s_show_rule) := ⟨rfl, rfl, rfl, by decide +kernel, rfl, by decide +kernel, by decide +kernel⟩
abbrev s_show_ring : Stmt := topS 35
theorem sc_show_ring : FnScope ["signs", "ring"] ["signs", "ring"] (defScope s_show_ring) := ⟨rfl, rfl, rfl, by decide +kernel, rfl, by decide +kernel, by decide +kernel⟩
abbrev s__law_rule_right : Stmt := topS 46
theorem sc__law_rule_right : FnScope ["rule_here", "due", "kept", "turn", "told"] ["rule_here"] (defScope s__law_rule_right) := ⟨rfl, rfl, rfl, by decide +kernel, rfl, by decide +kernel, by decide +kernel⟩
abbrev s__law_ring_right : Stmt := topS 47
theorem sc__law_ring_right : FnScope ["signs_here", "ring_here", "due", "kept", "turn", "told"] ["signs_here", "ring_here"] (defScope s__law_ring_right) := ⟨rfl, rfl, rfl, by decide +kernel, rfl, by decide +kernel, by decide +kernel⟩
abbrev s_law : Stmt := topS 48
theorem sc_law : FnScope ["script", "k", "purse", "turn", "signs_here", "wide", "rows", "text_here", "rule_here"] ["script"] (defScope s_law) := ⟨rfl, rfl, rfl, by decide +kernel, rfl, by decide +kernel, by decide +kernel⟩
structure Dn (K : PySem.W.Frag) (mg : Str → Option Value) (n : Str) (st : Stmt) (ps : List Str) (f : Addr) (fd : FuncData) : Prop where
  F : Fun K n n st f fd
  g : mg n = some (.ref f)
  b : Binds K fd ps []
structure Ms (mg : Str → Option Value) : Prop where
  abs : mg "abs" = none
  all : mg "all" = none
  bool : mg "bool" = none
  int : mg "int" = none
  isinstance : mg "isinstance" = none
  len : mg "len" = none
  list : mg "list" = none
  max : mg "max" = none
  min : mg "min" = none
  range : mg "range" = none
  repr : mg "repr" = none
  str : mg "str" = none
  sum : mg "sum" = none
  tuple : mg "tuple" = none
  type : mg "type" = none
structure CsL (mg : Str → Option Value) (t_CELL_LIMIT t_DIGITS t_DIGIT_LIMIT t_REACH t_WORD_LIMIT : Tok) : Prop where
  c_CELL_LIMIT : mg "CELL_LIMIT" = some (.int 512 t_CELL_LIMIT)
  c_DIGITS : mg "DIGITS" = some (.str "0123456789" t_DIGITS)
  c_DIGIT_LIMIT : mg "DIGIT_LIMIT" = some (.int 40 t_DIGIT_LIMIT)
  c_REACH : mg "REACH" = some (.int 100 t_REACH)
  c_WORD_LIMIT : mg "WORD_LIMIT" = some (.int 1024 t_WORD_LIMIT)
section
variable {P : Program} {w : World} {K : PySem.W.Frag} {mg : Str → Option Value} {base : Heap} {t_CELL_LIMIT t_DIGITS t_DIGIT_LIMIT t_REACH t_WORD_LIMIT : Tok}
theorem len_is_integer : ∀ (ds : List PyData) (R : PyData → Prop), W_is_integer ds R → ds.length = 1 := by
  intro ds R h
  unfold W_is_integer at h
  (repeat (first | (obtain ⟨rfl, _⟩ := h) | (obtain ⟨_, h⟩ := h)))
  rfl
theorem ok_is_integer {f : Addr} {fd : FuncData} (D : Dn K mg "is_integer" s_is_integer ["value"] f fd) (M : Ms mg) (Cc : CsL mg t_CELL_LIMIT t_DIGITS t_DIGIT_LIMIT t_REACH t_WORD_LIMIT) : FnG P w K mg base CX0 1 f fd ["value"] (spP K W_is_integer) := by
  refine fun_okG (k := 0) D.F sc_is_integer (fun vs H Q E h => ?_) (fun cdv A outer s H vs Q E hgu hr h => ⟨t_is_integer K, ?_, ?_⟩)
  · obtain ⟨F, ds, R, e, z, hW, k⟩ := h
    rw [z.len, len_is_integer ds R hW]
    rfl
  · unfold t_is_integer
    exact (pss_one (ps_ret (pe_and (pe_callB call_isi (by rfl) M.isinstance (by decide +kernel) (pa_cons (pv 0) (pa_cons (pe_bltn (by rfl) M.int (by decide +kernel) rfl) pa_nil))) (pe_one (pe_not (pe_callB call_isi (by rfl) M.isinstance (by decide +kernel) (pa_cons (pv 0) (pa_cons (pe_bltn (by rfl) M.bool (by decide +kernel) rfl) pa_nil))))))))
  · exact run_P h (ds_is_integer K)
theorem len_count_words : ∀ (ds : List PyData) (R : PyData → Prop), W_count_words ds R → ds.length = 3 := by
  intro ds R h
  unfold W_count_words at h
  (repeat (first | (obtain ⟨rfl, _⟩ := h) | (obtain ⟨_, h⟩ := h)))
  rfl
theorem ok_count_words {f : Addr} {fd : FuncData} (D : Dn K mg "count_words" s_count_words ["signs", "length", "limit"] f fd) (M : Ms mg) (Cc : CsL mg t_CELL_LIMIT t_DIGITS t_DIGIT_LIMIT t_REACH t_WORD_LIMIT) : FnG P w K mg base CX0 1 f fd ["signs", "length", "limit"] (spP K W_count_words) := by
  refine fun_okG (k := 0) D.F sc_count_words (fun vs H Q E h => ?_) (fun cdv A outer s H vs Q E hgu hr h => ⟨t_count_words K, ?_, ?_⟩)
  · obtain ⟨F, ds, R, e, z, hW, k⟩ := h
    rw [z.len, len_count_words ds R hW]
    rfl
  · unfold t_count_words
    exact (pss_cons (ps_set (i := 3) sc_count_words.nd rfl (by first | exact Or.inl rfl | exact Or.inr rfl) pe_int)
    (pss_cons (ps_for PassesOwn.never rfl (pi_rg1 (by rfl) M.range (pa_cons (pv 1) pa_nil)) (pg_name (i := 4) sc_count_words.nd rfl (by first | exact Or.inl rfl | exact Or.inr rfl))
    (pss_cons (ps_set (i := 3) sc_count_words.nd rfl (by first | exact Or.inl rfl | exact Or.inr rfl) (pe_op op_times (pv 3) (pv 0)))
    (pss_one (ps_if (pt_cmpR op_gtI (pv 3) (pv 2) (nomark _))
    (pss_one (ps_ret pe_non))
    pss_nil))))
    (pss_one (ps_ret (pv 3)))))
  · exact run_P h (ds_count_words K)
theorem len_is_reached : ∀ (ds : List PyData) (R : PyData → Prop), W_is_reached ds R → ds.length = 2 := by
  intro ds R h
  unfold W_is_reached at h
  (repeat (first | (obtain ⟨rfl, _⟩ := h) | (obtain ⟨_, h⟩ := h)))
  rfl
theorem ok_is_reached {f : Addr} {fd : FuncData} (D : Dn K mg "is_reached" s_is_reached ["first", "width"] f fd) (M : Ms mg) (Cc : CsL mg t_CELL_LIMIT t_DIGITS t_DIGIT_LIMIT t_REACH t_WORD_LIMIT) : FnG P w K mg base CX0 1 f fd ["first", "width"] (spP K W_is_reached) := by
  refine fun_okG (k := 0) D.F sc_is_reached (fun vs H Q E h => ?_) (fun cdv A outer s H vs Q E hgu hr h => ⟨t_is_reached K, ?_, ?_⟩)
  · obtain ⟨F, ds, R, e, z, hW, k⟩ := h
    rw [z.len, len_is_reached ds R hW]
    rfl
  · unfold t_is_reached
    exact (pss_one (ps_ret (pe_and (pe_cmpR op_geI (pv 0) (pe_un un_negI (pe_glob (by rfl) Cc.c_REACH ⟨_, rfl⟩)) (nomark _)) (pe_one (pe_cmpR op_leI (pe_op op_plus (pv 0) (pv 1)) (pe_op op_plus (pe_glob (by rfl) Cc.c_REACH ⟨_, rfl⟩) pe_int) (nomark _))))))
  · exact run_P h (ds_is_reached K)
theorem len_is_number : ∀ (ds : List PyData) (R : PyData → Prop), W_is_number ds R → ds.length = 1 := by
  intro ds R h
  unfold W_is_number at h
  (repeat (first | (obtain ⟨rfl, _⟩ := h) | (obtain ⟨_, h⟩ := h)))
  rfl
theorem ok_is_number {f : Addr} {fd : FuncData} (D : Dn K mg "is_number" s_is_number ["word"] f fd) (M : Ms mg) (Cc : CsL mg t_CELL_LIMIT t_DIGITS t_DIGIT_LIMIT t_REACH t_WORD_LIMIT) : FnG P w K mg base CX0 1 f fd ["word"] (spP K W_is_number) := by
  refine fun_okG (k := 0) D.F sc_is_number (fun vs H Q E h => ?_) (fun cdv A outer s H vs Q E hgu hr h => ⟨t_is_number K, ?_, ?_⟩)
  · obtain ⟨F, ds, R, e, z, hW, k⟩ := h
    rw [z.len, len_is_number ds R hW]
    rfl
  · unfold t_is_number
    exact (pss_cons (ps_set (i := 1) sc_is_number.nd rfl (by first | exact Or.inl rfl | exact Or.inr rfl) (pe_ifExp (pt_val (pe_m1 PySem.F.slot_str_startswith PySem.F.type_str_startswith mt_startswith (pv 0) pe_str)) (pe_slice sl_S (pv 0) (po_some pe_int) po_none) (pv 0)))
    (pss_cons (ps_if (PW.pt (pw_or (pt_cmpR op_ltI (pe_callB call_lenA (by rfl) M.len (by decide +kernel) (pa_cons (pv 1) pa_nil)) pe_int (nomark _)) (pw_or (pt_cmpR op_gtI (pe_callB call_lenA (by rfl) M.len (by decide +kernel) (pa_cons (pv 1) pa_nil)) (pe_glob (by rfl) Cc.c_DIGIT_LIMIT ⟨_, rfl⟩) (nomark _)) (pw_or1 (pt_not (pt_val (pe_callB (cr_all rfl) (by rfl) M.all (by decide +kernel) (pa_cons (pe_lc (own := [("digit", 2)]) (g := (gName 2)) (tt := tYes) rfl sc_is_number.nd (pi_str (pv 1)) (blkOk_by (N := ["word", "digits", "digit"]) (sc := defScope s_is_number) (by decide +kernel)) (fun _ _ _ _ _ => (pg_name (i := 2) sc_is_number.nd rfl (by first | exact Or.inl rfl | exact Or.inr rfl))) (fun _ _ _ _ _ => pts_nil) (fun _ _ _ _ _ => (pe_cmpR op_inS (pv 2) (pe_glob (by rfl) Cc.c_DIGITS ⟨_, rfl⟩) (by rfl)))) pa_nil))))))))
    (pss_one (ps_ret pe_bl))
    pss_nil)
    (pss_one (ps_ret (pe_or (pe_cmpR (op_eqU hr.units) (pv 0) pe_str (nomark _)) (pe_one (pe_not (pe_m1 PySem.F.slot_str_startswith PySem.F.type_str_startswith mt_startswith (pv 1) pe_str))))))))
  · exact run_P h (ds_is_number K)
theorem len_is_sign_count_word : ∀ (ds : List PyData) (R : PyData → Prop), W_is_sign_count_word ds R → ds.length = 1 := by
  intro ds R h
  unfold W_is_sign_count_word at h
  (repeat (first | (obtain ⟨rfl, _⟩ := h) | (obtain ⟨_, h⟩ := h)))
  rfl
theorem ok_is_sign_count_word {f : Addr} {fd : FuncData} (D : Dn K mg "is_sign_count_word" s_is_sign_count_word ["word"] f fd) (M : Ms mg) (Cc : CsL mg t_CELL_LIMIT t_DIGITS t_DIGIT_LIMIT t_REACH t_WORD_LIMIT) : FnG P w K mg base CX0 1 f fd ["word"] (spP K W_is_sign_count_word) := by
  refine fun_okG (k := 0) D.F sc_is_sign_count_word (fun vs H Q E h => ?_) (fun cdv A outer s H vs Q E hgu hr h => ⟨t_is_sign_count_word K, ?_, ?_⟩)
  · obtain ⟨F, ds, R, e, z, hW, k⟩ := h
    rw [z.len, len_is_sign_count_word ds R hW]
    rfl
  · unfold t_is_sign_count_word
    exact (pss_one (ps_ret (pe_cmpR op_in_seq (pv 0) (pe_tup (pa_cons pe_str (pa_cons pe_str (pa_cons pe_str pa_nil)))) (by rfl))))
  · exact run_P h (ds_is_sign_count_word K)
theorem len_are_signs : ∀ (ds : List PyData) (R : PyData → Prop), W_are_signs ds R → ds.length = 2 := by
  intro ds R h
  unfold W_are_signs at h
  (repeat (first | (obtain ⟨rfl, _⟩ := h) | (obtain ⟨_, h⟩ := h)))
  rfl
theorem ok_are_signs {f : Addr} {fd : FuncData} (D : Dn K mg "are_signs" s_are_signs ["signs", "word"] f fd) (M : Ms mg) (Cc : CsL mg t_CELL_LIMIT t_DIGITS t_DIGIT_LIMIT t_REACH t_WORD_LIMIT) : FnG P w K mg base CX0 1 f fd ["signs", "word"] (spP K W_are_signs) := by
  refine fun_okG (k := 0) D.F sc_are_signs (fun vs H Q E h => ?_) (fun cdv A outer s H vs Q E hgu hr h => ⟨t_are_signs K, ?_, ?_⟩)
  · obtain ⟨F, ds, R, e, z, hW, k⟩ := h
    rw [z.len, len_are_signs ds R hW]
    rfl
  · unfold t_are_signs
    exact (pss_one (ps_ret (pe_and (pe_cmpR op_geI (pe_callB call_lenA (by rfl) M.len (by decide +kernel) (pa_cons (pv 1) pa_nil)) pe_int (nomark _)) (pe_one (pe_callB (cr_all rfl) (by rfl) M.all (by decide +kernel) (pa_cons (pe_lc (own := [("digit", 2)]) (g := (gName 2)) (tt := tYes) rfl sc_are_signs.nd (pi_str (pv 1)) (blkOk_by (N := ["signs", "word", "digit"]) (sc := defScope s_are_signs) (by decide +kernel)) (fun _ _ _ _ _ => (pg_name (i := 2) sc_are_signs.nd rfl (by first | exact Or.inl rfl | exact Or.inr rfl))) (fun _ _ _ _ _ => pts_nil) (fun _ _ _ _ _ => (pe_cmpR op_inS (pv 2) (pe_slice sl_S (pe_glob (by rfl) Cc.c_DIGITS ⟨_, rfl⟩) po_none (po_some (pv 0))) (by rfl)))) pa_nil))))))
  · exact run_P h (ds_are_signs K)
theorem len_signs_in : ∀ (ds : List PyData) (R : List PyData → Prop), W_signs_in ds R → ds.length = 1 := by
  intro ds R h
  unfold W_signs_in at h
  (repeat (first | (obtain ⟨rfl, _⟩ := h) | (obtain ⟨_, h⟩ := h)))
  rfl
theorem ok_signs_in {f : Addr} {fd : FuncData} (D : Dn K mg "signs_in" s_signs_in ["word"] f fd) (M : Ms mg) (Cc : CsL mg t_CELL_LIMIT t_DIGITS t_DIGIT_LIMIT t_REACH t_WORD_LIMIT) : FnG P w K mg base CX0 1 f fd ["word"] (spF K W_signs_in) := by
  refine fun_okG (k := 0) D.F sc_signs_in (fun vs H Q E h => ?_) (fun cdv A outer s H vs Q E hgu hr h => ⟨t_signs_in K, ?_, ?_⟩)
  · obtain ⟨F, ds, R, e, z, hW, k⟩ := h
    rw [z.len, len_signs_in ds R hW]
    rfl
  · unfold t_signs_in
    exact (pss_one (ps_ret (pe_lc (own := [("digit", 1)]) (g := (gName 1)) (tt := tYes) rfl sc_signs_in.nd (pi_str (pv 0)) (blkOk_by (N := ["word", "digit"]) (sc := defScope s_signs_in) (by decide +kernel)) (fun _ _ _ _ _ => (pg_name (i := 1) sc_signs_in.nd rfl (by first | exact Or.inl rfl | exact Or.inr rfl))) (fun _ _ _ _ _ => pts_nil) (fun _ _ _ _ _ => (pe_callTy call_intS (by rfl) M.int (by decide +kernel) (pa_cons (pv 1) pa_nil))))))
  · exact run_F h (ds_signs_in K)
theorem len_signs_text : ∀ (ds : List PyData) (R : PyData → Prop), W_signs_text ds R → ds.length = 1 := by
  intro ds R h
  unfold W_signs_text at h
  (repeat (first | (obtain ⟨rfl, _⟩ := h) | (obtain ⟨_, h⟩ := h)))
  rfl
theorem ok_signs_text {f : Addr} {fd : FuncData} (D : Dn K mg "signs_text" s_signs_text ["items"] f fd) (M : Ms mg) (Cc : CsL mg t_CELL_LIMIT t_DIGITS t_DIGIT_LIMIT t_REACH t_WORD_LIMIT) : FnG P w K mg base CX0 1 f fd ["items"] (spP K W_signs_text) := by
  refine fun_okG (k := 0) D.F sc_signs_text (fun vs H Q E h => ?_) (fun cdv A outer s H vs Q E hgu hr h => ⟨t_signs_text K, ?_, ?_⟩)
  · obtain ⟨F, ds, R, e, z, hW, k⟩ := h
    rw [z.len, len_signs_text ds R hW]
    rfl
  · unfold t_signs_text
    exact (pss_one (ps_ret (pe_join pe_str (pe_lc (own := [("item", 1)]) (g := (gName 1)) (tt := tYes) rfl sc_signs_text.nd (pi_list (pv 0)) (blkOk_by (N := ["items", "item"]) (sc := defScope s_signs_text) (by decide +kernel)) (fun _ _ _ _ _ => (pg_name (i := 1) sc_signs_text.nd rfl (by first | exact Or.inl rfl | exact Or.inr rfl))) (fun _ _ _ _ _ => pts_nil) (fun _ _ _ _ _ => (pe_callTy call_strI (by rfl) M.str (by decide +kernel) (pa_cons (pv 1) pa_nil)))))))
  · exact run_P h (ds_signs_text K)
theorem len_words_of : ∀ (ds : List PyData) (R : PyData → Prop), Tr.W_words_of ds R → ds.length = 1 := by
  intro ds R h
  unfold Tr.W_words_of at h
  (repeat (first | (obtain ⟨rfl, _⟩ := h) | (obtain ⟨_, h⟩ := h)))
  rfl
theorem ok_words_of {f : Addr} {fd : FuncData} (D : Dn K mg "words_of" s_words_of ["text"] f fd) (M : Ms mg) (Cc : CsL mg t_CELL_LIMIT t_DIGITS t_DIGIT_LIMIT t_REACH t_WORD_LIMIT) : FnG P w K mg base CX0 1 f fd ["text"] (spP K Tr.W_words_of) := by
  refine fun_okG (k := 0) D.F sc_words_of (fun vs H Q E h => ?_) (fun cdv A outer s H vs Q E hgu hr h => ⟨Tr.t_words_of K, ?_, ?_⟩)
  · obtain ⟨F, ds, R, e, z, hW, k⟩ := h
    rw [z.len, len_words_of ds R hW]
    rfl
  · unfold Tr.t_words_of
    exact (pss_cons (ps_if (pt_not (pt_val (pe_callB call_isi (by rfl) M.isinstance (by decide +kernel) (pa_cons (pv 0) (pa_cons (pe_bltn (by rfl) M.str (by decide +kernel) rfl) pa_nil)))))
    (pss_one ps_never)
    pss_nil)
    (pss_one (ps_ret (pe_split (pv 0) pe_str))))
  · exact run_P h (Tr.ds_words_of K)
theorem len_span_of : ∀ (ds : List PyData) (R : PyData → Prop), W_span_of ds R → ds.length = 2 := by
  intro ds R h
  unfold W_span_of at h
  (repeat (first | (obtain ⟨rfl, _⟩ := h) | (obtain ⟨_, h⟩ := h)))
  rfl
theorem ok_span_of {f : Addr} {fd : FuncData} (D : Dn K mg "span_of" s_span_of ["signs", "many"] f fd) (M : Ms mg) (Cc : CsL mg t_CELL_LIMIT t_DIGITS t_DIGIT_LIMIT t_REACH t_WORD_LIMIT) : FnG P w K mg base CX0 1 f fd ["signs", "many"] (spP K W_span_of) := by
  refine fun_okG (k := 0) D.F sc_span_of (fun vs H Q E h => ?_) (fun cdv A outer s H vs Q E hgu hr h => ⟨t_span_of K, ?_, ?_⟩)
  · obtain ⟨F, ds, R, e, z, hW, k⟩ := h
    rw [z.len, len_span_of ds R hW]
    rfl
  · unfold t_span_of
    exact (pss_cons (ps_set (i := 2) sc_span_of.nd rfl (by first | exact Or.inl rfl | exact Or.inr rfl) pe_int)
    (pss_cons (ps_set (i := 3) sc_span_of.nd rfl (by first | exact Or.inl rfl | exact Or.inr rfl) (pv 0))
    (pss_cons (ps_while PassesOwn.never (pt_cmpR op_ltI (pv 3) (pv 1) (nomark _))
    (pss_cons (ps_set (i := 3) sc_span_of.nd rfl (by first | exact Or.inl rfl | exact Or.inr rfl) (pe_op op_times (pv 3) (pv 0)))
    (pss_one (ps_set (i := 2) sc_span_of.nd rfl (by first | exact Or.inl rfl | exact Or.inr rfl) (pe_op op_plus (pv 2) pe_int)))))
    (pss_one (ps_ret (pv 2))))))
  · exact run_P h (ds_span_of K)
theorem len__law_purse : ∀ (ds : List PyData) (R : List PyData → Prop), W__law_purse ds R → ds.length = 2 := by
  intro ds R h
  unfold W__law_purse at h
  (repeat (first | (obtain ⟨rfl, _⟩ := h) | (obtain ⟨_, h⟩ := h)))
  rfl
theorem ok__law_purse {f : Addr} {fd : FuncData} (D : Dn K mg "_law_purse" s__law_purse ["script", "k"] f fd) (M : Ms mg) (Cc : CsL mg t_CELL_LIMIT t_DIGITS t_DIGIT_LIMIT t_REACH t_WORD_LIMIT) : FnG P w K mg base CX0 1 f fd ["script", "k"] (spF K W__law_purse) := by
  refine fun_okG (k := 0) D.F sc__law_purse (fun vs H Q E h => ?_) (fun cdv A outer s H vs Q E hgu hr h => ⟨t__law_purse K, ?_, ?_⟩)
  · obtain ⟨F, ds, R, e, z, hW, k⟩ := h
    rw [z.len, len__law_purse ds R hW]
    rfl
  · unfold t__law_purse
    exact (pss_cons (ps_set (i := 2) sc__law_purse.nd rfl (by first | exact Or.inl rfl | exact Or.inr rfl) (pe_ifExp (pt_cmpR op_ltI (pv 1) (pe_callB call_lenA (by rfl) M.len (by decide +kernel) (pa_cons (pv 0) pa_nil)) (nomark _)) (pe_ix ix_seq (pv 0) (pv 1) (fun _ _ => rfl)) pe_int))
    (pss_one (ps_ret (pe_lst (pa_cons (pe_callB (call_max2A rfl) (by rfl) M.max (by decide +kernel) (pa_cons pe_int (pa_cons (pe_op op_minus (pv 2) (pe_op op_powI pe_int pe_int)) pa_nil))) (pa_cons (pe_op op_plus (pe_op op_plus (pe_op op_modI (pe_callTy call_intA (by rfl) M.int (by decide +kernel) (pa_cons (pe_callB call_absA (by rfl) M.abs (by decide +kernel) (pa_cons (pv 2) pa_nil)) pa_nil)) (pe_op op_plus (pe_op op_powI pe_int pe_int) pe_int)) (pe_op op_times pe_int (pv 1))) pe_int) (pa_cons pe_int pa_nil)))))))
  · exact run_F h (ds__law_purse K)
theorem len__law_coin : ∀ (ds : List PyData) (R : PyData → Prop), W__law_coin ds R → ds.length = 1 := by
  intro ds R h
  unfold W__law_coin at h
  (repeat (first | (obtain ⟨rfl, _⟩ := h) | (obtain ⟨_, h⟩ := h)))
  rfl
theorem ok__law_coin {f : Addr} {fd : FuncData} (D : Dn K mg "_law_coin" s__law_coin ["purse", "many"] f fd) (M : Ms mg) (Cc : CsL mg t_CELL_LIMIT t_DIGITS t_DIGIT_LIMIT t_REACH t_WORD_LIMIT) : FnG P w K mg base CX0 1 f fd ["purse", "many"] (spC K true w__law_coin W__law_coin) := by
  refine fun_okG (k := 0) D.F sc__law_coin (fun vs H Q E h => ?_) (fun cdv A outer s H vs Q E hgu hr h => ⟨t__law_coin K, ?_, ?_⟩)
  · obtain ⟨a, ws, F, ds, R, rfl, e, tp, z, hW, k⟩ := h
    rw [List.length_cons, z.len, len__law_coin ds R hW]
    rfl
  · unfold t__law_coin
    exact (pss_cons (ps_if (pt_cmpR op_gtI (pe_ix ix_seq (pv 0) pe_int (fun _ _ => rfl)) pe_int (nomark _))
    (pss_cons (ps_set (i := 2) sc__law_coin.nd rfl (by first | exact Or.inl rfl | exact Or.inr rfl) (pe_op op_modI (pe_callTy call_intA (by rfl) M.int (by decide +kernel) (pa_cons (pe_ix ix_seq (pv 0) pe_int (fun _ _ => rfl)) pa_nil)) (pv 1)))
    (pss_cons (ps_asg (pe_op op_divI (pe_ix ix_seq (pv 0) pe_int (fun _ _ => rfl)) (pv 1)) (pg_sub (pv 0) pe_int set_list))
    (pss_one (ps_ret (pv 2)))))
    pss_nil)
    (pss_cons (ps_asg (pe_op op_plus (pe_ix ix_seq (pv 0) pe_int (fun _ _ => rfl)) pe_int) (pg_sub (pv 0) pe_int set_list))
    (pss_cons (ps_set (i := 3) sc__law_coin.nd rfl (by first | exact Or.inl rfl | exact Or.inr rfl) (pe_op op_modI (pe_callTy call_intA (by rfl) M.int (by decide +kernel) (pa_cons (pe_op op_powW (pe_op op_plus (pe_ix ix_seq (pv 0) pe_int (fun _ _ => rfl)) (pe_op op_times pe_int (pe_ix ix_seq (pv 0) pe_int (fun _ _ => rfl)))) pe_int) pa_nil)) (pe_op op_plus (pe_op op_powW pe_int pe_int) pe_int)))
    (pss_cons (ps_set (i := 3) sc__law_coin.nd rfl (by first | exact Or.inl rfl | exact Or.inr rfl) (pe_op op_modI (pe_callTy call_intA (by rfl) M.int (by decide +kernel) (pa_cons (pe_op op_powW (pe_op op_plus (pv 3) (pe_op op_times pe_int (pe_ix ix_seq (pv 0) pe_int (fun _ _ => rfl)))) pe_int) pa_nil)) (pe_op op_plus (pe_op op_powW pe_int pe_int) pe_int)))
    (pss_one (ps_ret (pe_op op_modI (pe_callTy call_intA (by rfl) M.int (by decide +kernel) (pa_cons (pe_op op_divI (pv 3) pe_int) pa_nil)) (pv 1))))))))
  · exact run_coin h
theorem len__law_power : ∀ (ds : List PyData) (R : PyData → Prop), W__law_power ds R → ds.length = 2 := by
  intro ds R h
  unfold W__law_power at h
  (repeat (first | (obtain ⟨rfl, _⟩ := h) | (obtain ⟨_, h⟩ := h)))
  rfl
theorem ok__law_power {f : Addr} {fd : FuncData} (D : Dn K mg "_law_power" s__law_power ["base", "many"] f fd) (M : Ms mg) (Cc : CsL mg t_CELL_LIMIT t_DIGITS t_DIGIT_LIMIT t_REACH t_WORD_LIMIT) : FnG P w K mg base CX0 1 f fd ["base", "many"] (spP K W__law_power) := by
  refine fun_okG (k := 0) D.F sc__law_power (fun vs H Q E h => ?_) (fun cdv A outer s H vs Q E hgu hr h => ⟨t__law_power K, ?_, ?_⟩)
  · obtain ⟨F, ds, R, e, z, hW, k⟩ := h
    rw [z.len, len__law_power ds R hW]
    rfl
  · unfold t__law_power
    exact (pss_cons (ps_set (i := 2) sc__law_power.nd rfl (by first | exact Or.inl rfl | exact Or.inr rfl) pe_int)
    (pss_cons (ps_for PassesOwn.never rfl (pi_rg1 (by rfl) M.range (pa_cons (pv 1) pa_nil)) (pg_name (i := 3) sc__law_power.nd rfl (by first | exact Or.inl rfl | exact Or.inr rfl))
    (pss_one (ps_set (i := 2) sc__law_power.nd rfl (by first | exact Or.inl rfl | exact Or.inr rfl) (pe_op op_times (pv 2) (pv 0)))))
    (pss_one (ps_ret (pv 2)))))
  · exact run_P h (ds__law_power K)
theorem len__law_signs : ∀ (ds : List PyData) (R : PyData → Prop), W__law_signs ds R → ds.length = 1 := by
  intro ds R h
  unfold W__law_signs at h
  (repeat (first | (obtain ⟨rfl, _⟩ := h) | (obtain ⟨_, h⟩ := h)))
  rfl
theorem ok__law_signs {f : Addr} {fd : FuncData} (D : Dn K mg "_law_signs" s__law_signs ["row"] f fd) (M : Ms mg) (Cc : CsL mg t_CELL_LIMIT t_DIGITS t_DIGIT_LIMIT t_REACH t_WORD_LIMIT) : FnG P w K mg base CX0 1 f fd ["row"] (spP K W__law_signs) := by
  refine fun_okG (k := 0) D.F sc__law_signs (fun vs H Q E h => ?_) (fun cdv A outer s H vs Q E hgu hr h => ⟨t__law_signs K, ?_, ?_⟩)
  · obtain ⟨F, ds, R, e, z, hW, k⟩ := h
    rw [z.len, len__law_signs ds R hW]
    rfl
  · unfold t__law_signs
    exact (pss_one (ps_ret (pe_join pe_str (pe_lc (own := [("sign", 1)]) (g := (gName 1)) (tt := tYes) rfl sc__law_signs.nd (pi_list (pv 0)) (blkOk_by (N := ["row", "sign"]) (sc := defScope s__law_signs) (by decide +kernel)) (fun _ _ _ _ _ => (pg_name (i := 1) sc__law_signs.nd rfl (by first | exact Or.inl rfl | exact Or.inr rfl))) (fun _ _ _ _ _ => pts_nil) (fun _ _ _ _ _ => (pe_callTy call_strI (by rfl) M.str (by decide +kernel) (pa_cons (pv 1) pa_nil)))))))
  · exact run_P h (ds__law_signs K)
theorem len_is_sign_count : ∀ (ds : List PyData) (R : PyData → Prop), W_is_sign_count ds R → ds.length = 1 := by
  intro ds R h
  unfold W_is_sign_count at h
  (repeat (first | (obtain ⟨rfl, _⟩ := h) | (obtain ⟨_, h⟩ := h)))
  rfl
theorem ok_is_sign_count {f : Addr} {fd : FuncData} (D : Dn K mg "is_sign_count" s_is_sign_count ["value"] f fd) {f_is_integer : Addr} {fd_is_integer : FuncData} (D_is_integer : Dn K mg "is_integer" s_is_integer ["value"] f_is_integer fd_is_integer) (G_is_integer : FnG P w K mg base CX0 1 f_is_integer fd_is_integer ["value"] (spP K W_is_integer)) (M : Ms mg) (Cc : CsL mg t_CELL_LIMIT t_DIGITS t_DIGIT_LIMIT t_REACH t_WORD_LIMIT) : FnG P w K mg base CX0 2 f fd ["value"] (spP K W_is_sign_count) := by
  refine fun_okG (k := 1) D.F sc_is_sign_count (fun vs H Q E h => ?_) (fun cdv A outer s H vs Q E hgu hr h => ⟨t_is_sign_count K, ?_, ?_⟩)
  · obtain ⟨F, ds, R, e, z, hW, k⟩ := h
    rw [z.len, len_is_sign_count ds R hW]
    rfl
  · unfold t_is_sign_count
    exact (pss_one (ps_ret (pe_and (pe_callG G_is_integer hgu (hr.mono (by decide)) (by rfl) D_is_integer.g D_is_integer.F.kp D_is_integer.b pass0 (pa_cons (pv 0) pa_nil)) (pe_one (pe_chain op_leI op_leI pe_int (pv 0) pe_int)))))
  · exact run_P h (ds_is_sign_count K)
theorem len_is_integer_list : ∀ (ds : List PyData) (R : PyData → Prop), W_is_integer_list ds R → ds.length = 1 := by
  intro ds R h
  unfold W_is_integer_list at h
  (repeat (first | (obtain ⟨rfl, _⟩ := h) | (obtain ⟨_, h⟩ := h)))
  rfl
theorem ok_is_integer_list {f : Addr} {fd : FuncData} (D : Dn K mg "is_integer_list" s_is_integer_list ["value"] f fd) {f_is_integer : Addr} {fd_is_integer : FuncData} (D_is_integer : Dn K mg "is_integer" s_is_integer ["value"] f_is_integer fd_is_integer) (G_is_integer : FnG P w K mg base CX0 1 f_is_integer fd_is_integer ["value"] (spP K W_is_integer)) (M : Ms mg) (Cc : CsL mg t_CELL_LIMIT t_DIGITS t_DIGIT_LIMIT t_REACH t_WORD_LIMIT) : FnG P w K mg base CX0 2 f fd ["value"] (spP K W_is_integer_list) := by
  refine fun_okG (k := 1) D.F sc_is_integer_list (fun vs H Q E h => ?_) (fun cdv A outer s H vs Q E hgu hr h => ⟨t_is_integer_list K, ?_, ?_⟩)
  · obtain ⟨F, ds, R, e, z, hW, k⟩ := h
    rw [z.len, len_is_integer_list ds R hW]
    rfl
  · unfold t_is_integer_list
    exact (pss_one (ps_ret (pe_and (pe_cmpR op_isTy1 (pe_callTy call_type1 (by rfl) M.type (by decide +kernel) (pa_cons (pv 0) pa_nil)) (pe_bltn (by rfl) M.list (by decide +kernel) rfl) (nomark _)) (pe_one (pe_callB (cr_all rfl) (by rfl) M.all (by decide +kernel) (pa_cons (pe_lc (own := [("item", 1)]) (g := (gName 1)) (tt := tYes) rfl sc_is_integer_list.nd (pi_list (pv 0)) (blkOk_by (N := ["value", "item"]) (sc := defScope s_is_integer_list) (by decide +kernel)) (fun _ _ _ _ _ => (pg_name (i := 1) sc_is_integer_list.nd rfl (by first | exact Or.inl rfl | exact Or.inr rfl))) (fun _ _ _ _ _ => pts_nil) (fun _ _ _ _ _ => (pe_callG G_is_integer hgu (hr.mono (by decide)) (by rfl) D_is_integer.g D_is_integer.F.kp D_is_integer.b pass0 (pa_cons (pv 1) pa_nil)))) pa_nil))))))
  · exact run_P h (ds_is_integer_list K)
theorem len_stands_in_rule : ∀ (ds : List PyData) (R : PyData → Prop), W_stands_in_rule ds R → ds.length = 2 := by
  intro ds R h
  unfold W_stands_in_rule at h
  (repeat (first | (obtain ⟨rfl, _⟩ := h) | (obtain ⟨_, h⟩ := h)))
  rfl
theorem ok_stands_in_rule {f : Addr} {fd : FuncData} (D : Dn K mg "stands_in_rule" s_stands_in_rule ["words", "place"] f fd) {f_is_number : Addr} {fd_is_number : FuncData} (D_is_number : Dn K mg "is_number" s_is_number ["word"] f_is_number fd_is_number) (G_is_number : FnG P w K mg base CX0 1 f_is_number fd_is_number ["word"] (spP K W_is_number)) {f_is_sign_count_word : Addr} {fd_is_sign_count_word : FuncData} (D_is_sign_count_word : Dn K mg "is_sign_count_word" s_is_sign_count_word ["word"] f_is_sign_count_word fd_is_sign_count_word) (G_is_sign_count_word : FnG P w K mg base CX0 1 f_is_sign_count_word fd_is_sign_count_word ["word"] (spP K W_is_sign_count_word)) {f_are_signs : Addr} {fd_are_signs : FuncData} (D_are_signs : Dn K mg "are_signs" s_are_signs ["signs", "word"] f_are_signs fd_are_signs) (G_are_signs : FnG P w K mg base CX0 1 f_are_signs fd_are_signs ["signs", "word"] (spP K W_are_signs)) (M : Ms mg) (Cc : CsL mg t_CELL_LIMIT t_DIGITS t_DIGIT_LIMIT t_REACH t_WORD_LIMIT) : FnG P w K mg base CX0 2 f fd ["words", "place"] (spP K W_stands_in_rule) := by
  refine fun_okG (k := 1) D.F sc_stands_in_rule (fun vs H Q E h => ?_) (fun cdv A outer s H vs Q E hgu hr h => ⟨t_stands_in_rule K, ?_, ?_⟩)
  · obtain ⟨F, ds, R, e, z, hW, k⟩ := h
    rw [z.len, len_stands_in_rule ds R hW]
    rfl
  · unfold t_stands_in_rule
    exact (pss_cons (ps_if (pt_cmpR (op_eqU hr.units) (pv 1) pe_int (nomark _))
    (pss_one (ps_ret (pe_callG G_is_sign_count_word hgu (hr.mono (by decide)) (by rfl) D_is_sign_count_word.g D_is_sign_count_word.F.kp D_is_sign_count_word.b pass0 (pa_cons (pe_ix ix_seq (pv 0) pe_int (fun _ _ => rfl)) pa_nil))))
    pss_nil)
    (pss_cons (ps_if (pt_cmpR (op_eqU hr.units) (pv 1) pe_int (nomark _))
    (pss_one (ps_ret (pe_callG G_is_number hgu (hr.mono (by decide)) (by rfl) D_is_number.g D_is_number.F.kp D_is_number.b pass0 (pa_cons (pe_ix ix_seq (pv 0) pe_int (fun _ _ => rfl)) pa_nil))))
    pss_nil)
    (pss_one (ps_ret (pe_and (pe_cmpR (op_eqU hr.units) (pv 1) pe_int (nomark _)) (pe_one (pe_callG G_are_signs hgu (hr.mono (by decide)) (by rfl) D_are_signs.g D_are_signs.F.kp D_are_signs.b pass0 (pa_cons (pe_callTy call_intS (by rfl) M.int (by decide +kernel) (pa_cons (pe_ix ix_seq (pv 0) pe_int (fun _ _ => rfl)) pa_nil)) (pa_cons (pe_ix ix_seq (pv 0) pe_int (fun _ _ => rfl)) pa_nil)))))))))
  · exact run_P h (ds_stands_in_rule K)
theorem len__law_table : ∀ (ds : List PyData) (R : PyData → Prop), W__law_table ds R → ds.length = 2 := by
  intro ds R h
  unfold W__law_table at h
  (repeat (first | (obtain ⟨rfl, _⟩ := h) | (obtain ⟨_, h⟩ := h)))
  rfl
theorem ok__law_table {f : Addr} {fd : FuncData} (D : Dn K mg "_law_table" s__law_table ["purse", "signs_here", "width_here"] f fd) {f__law_coin : Addr} {fd__law_coin : FuncData} (D__law_coin : Dn K mg "_law_coin" s__law_coin ["purse", "many"] f__law_coin fd__law_coin) (G__law_coin : FnG P w K mg base CX0 1 f__law_coin fd__law_coin ["purse", "many"] (spC K true w__law_coin W__law_coin)) {f__law_power : Addr} {fd__law_power : FuncData} (D__law_power : Dn K mg "_law_power" s__law_power ["base", "many"] f__law_power fd__law_power) (G__law_power : FnG P w K mg base CX0 1 f__law_power fd__law_power ["base", "many"] (spP K W__law_power)) (M : Ms mg) (Cc : CsL mg t_CELL_LIMIT t_DIGITS t_DIGIT_LIMIT t_REACH t_WORD_LIMIT) : FnG P w K mg base CX0 2 f fd ["purse", "signs_here", "width_here"] (spC K true w__law_table W__law_table) := by
  refine fun_okG (k := 1) D.F sc__law_table (fun vs H Q E h => ?_) (fun cdv A outer s H vs Q E hgu hr h => ⟨t__law_table K, ?_, ?_⟩)
  · obtain ⟨a, ws, F, ds, R, rfl, e, tp, z, hW, k⟩ := h
    rw [List.length_cons, z.len, len__law_table ds R hW]
    rfl
  · unfold t__law_table
    exact (pss_cons (ps_par3 (i := 3) (j := 4) (l := 5) (by rfl) sc__law_table.nd rfl rfl rfl (by decide) (by decide) (by decide) rfl rfl rfl (pa_cons (pe_callG G__law_coin hgu (hr.mono (by decide)) (by rfl) D__law_coin.g D__law_coin.F.kp D__law_coin.b pass0 (pa_cons (pv 0) (pa_cons pe_int pa_nil))) (pa_cons (pe_callG G__law_coin hgu (hr.mono (by decide)) (by rfl) D__law_coin.g D__law_coin.F.kp D__law_coin.b pass0 (pa_cons (pv 0) (pa_cons (pv 2) pa_nil))) (pa_cons (pe_lst pa_nil) pa_nil))) (by rfl))
    (pss_cons (ps_for PassesOwn.never rfl (pi_rg1 (by rfl) M.range (pa_cons (pe_callG G__law_power hgu (hr.mono (by decide)) (by rfl) D__law_power.g D__law_power.F.kp D__law_power.b pass0 (pa_cons (pv 1) (pa_cons (pv 2) pa_nil))) pa_nil)) (pg_name (i := 6) sc__law_table.nd rfl (by first | exact Or.inl rfl | exact Or.inr rfl))
    (pss_cons (ps_setLc (i := 7) (own := [("at", 8)]) (g := (gName 8)) (tt := tYes) rfl sc__law_table.nd rfl rfl (sw_true rfl rfl rfl (by decide +kernel)) (pi_rg1 (by rfl) M.range (pa_cons (pv 2) pa_nil)) (blkOk_by (N := ["purse", "signs_here", "width_here", "way", "spot", "found", "number", "word", "at", "some"]) (sc := defScope s__law_table) (by decide +kernel)) (fun _ _ _ _ _ => (pg_name (i := 8) sc__law_table.nd rfl (by first | exact Or.inl rfl | exact Or.inr rfl))) (fun _ _ _ _ _ => pts_nil) (fun _ _ _ _ _ => (pe_op op_modI (pe_callTy call_intA (by rfl) M.int (by decide +kernel) (pa_cons (pe_op op_divI (pv 6) (pe_callG G__law_power hgu (hr.mono (by decide)) (by rfl) D__law_power.g D__law_power.F.kp D__law_power.b pass0 (pa_cons (pv 1) (pa_cons (pv 8) pa_nil)))) pa_nil)) (pv 1))))
    (pss_cons (ps_set (i := 9) sc__law_table.nd rfl (by first | exact Or.inl rfl | exact Or.inr rfl) (pe_lst (pa_cons (pe_callG G__law_coin hgu (hr.mono (by decide)) (by rfl) D__law_coin.g D__law_coin.F.kp D__law_coin.b pass0 (pa_cons (pv 0) (pa_cons (pv 1) pa_nil))) (pa_cons pe_int (pa_cons (pe_ix ix_seq (pv 7) (pv 4) (fun _ _ => rfl)) (pa_cons (pe_op op_modI (pe_callTy call_intA (by rfl) M.int (by decide +kernel) (pa_cons (pe_callB (cr_sum rfl) (by rfl) M.sum (by decide +kernel) (pa_cons (pv 7) pa_nil)) pa_nil)) (pv 1)) (pa_cons (pe_callB (call_maxA rfl hr.units) (by rfl) M.max (by decide +kernel) (pa_cons (pv 7) pa_nil)) pa_nil)))))))
    (pss_cons (ps_if (PW.pt (pw_and (pt_cmpR (op_eqU hr.units) (pv 3) pe_int (nomark _)) (pw_and1 (pt_cmpR (op_eqU hr.units) (pe_callG G__law_coin hgu (hr.mono (by decide)) (by rfl) D__law_coin.g D__law_coin.F.kp D__law_coin.b pass0 (pa_cons (pv 0) (pa_cons pe_int pa_nil))) pe_int (nomark _)))))
    (pss_one (ps_asg (pe_callG G__law_coin hgu (hr.mono (by decide)) (by rfl) D__law_coin.g D__law_coin.F.kp D__law_coin.b pass0 (pa_cons (pv 0) (pa_cons (pv 1) pa_nil))) (pg_sub (pv 9) pe_int set_list)))
    pss_nil)
    (pss_one (ps_expr (pe_bm PySem.F.plainAttrs_list PySem.F.slot_list_append PySem.F.type_list_append mt_append (pv 5) (pa_cons (pe_ix ix_seq (pv 9) (pv 3) (fun _ _ => rfl)) pa_nil))))))))
    (pss_one (ps_ret (pv 5)))))
  · exact run_C h (ds__law_table K)
theorem len__law_ring : ∀ (ds : List PyData) (R : PyData → Prop), W__law_ring ds R → ds.length = 2 := by
  intro ds R h
  unfold W__law_ring at h
  (repeat (first | (obtain ⟨rfl, _⟩ := h) | (obtain ⟨_, h⟩ := h)))
  rfl
theorem ok__law_ring {f : Addr} {fd : FuncData} (D : Dn K mg "_law_ring" s__law_ring ["purse", "signs_here", "size"] f fd) {f__law_coin : Addr} {fd__law_coin : FuncData} (D__law_coin : Dn K mg "_law_coin" s__law_coin ["purse", "many"] f__law_coin fd__law_coin) (G__law_coin : FnG P w K mg base CX0 1 f__law_coin fd__law_coin ["purse", "many"] (spC K true w__law_coin W__law_coin)) (M : Ms mg) (Cc : CsL mg t_CELL_LIMIT t_DIGITS t_DIGIT_LIMIT t_REACH t_WORD_LIMIT) : FnG P w K mg base CX0 2 f fd ["purse", "signs_here", "size"] (spC K true w__law_ring W__law_ring) := by
  refine fun_okG (k := 1) D.F sc__law_ring (fun vs H Q E h => ?_) (fun cdv A outer s H vs Q E hgu hr h => ⟨t__law_ring K, ?_, ?_⟩)
  · obtain ⟨a, ws, F, ds, R, rfl, e, tp, z, hW, k⟩ := h
    rw [List.length_cons, z.len, len__law_ring ds R hW]
    rfl
  · unfold t__law_ring
    exact (pss_cons (ps_par (i := 3) (j := 4) (by rfl) sc__law_ring.nd rfl rfl (by decide) rfl rfl (pa_cons (pe_lst pa_nil) (pa_cons (pe_ix ix_seq (pe_lst (pa_cons pe_int (pa_cons pe_int (pa_cons pe_int (pa_cons (pv 2) pa_nil))))) (pe_callG G__law_coin hgu (hr.mono (by decide)) (by rfl) D__law_coin.g D__law_coin.F.kp D__law_coin.b pass0 (pa_cons (pv 0) (pa_cons pe_int pa_nil))) (fun _ _ => rfl)) pa_nil)) (by rfl))
    (pss_cons (ps_while PassesOwn.never (pt_cmpR op_ltI (pe_callB call_lenA (by rfl) M.len (by decide +kernel) (pa_cons (pv 3) pa_nil)) (pv 2) (nomark _))
    (pss_one (ps_set (i := 3) sc__law_ring.nd rfl (by first | exact Or.inl rfl | exact Or.inr rfl) (pe_op op_plus (pv 3) (pe_op op_times (pe_lst (pa_cons (pe_callG G__law_coin hgu (hr.mono (by decide)) (by rfl) D__law_coin.g D__law_coin.F.kp D__law_coin.b pass0 (pa_cons (pv 0) (pa_cons (pv 1) pa_nil))) pa_nil)) (pe_op op_plus pe_int (pe_callG G__law_coin hgu (hr.mono (by decide)) (by rfl) D__law_coin.g D__law_coin.F.kp D__law_coin.b pass0 (pa_cons (pv 0) (pa_cons (pv 4) pa_nil)))))))))
    (pss_one (ps_ret (pe_slice sl_list (pv 3) po_none (po_some (pv 2)))))))
  · exact run_C h (ds__law_ring K)
theorem len_is_word : ∀ (ds : List PyData) (R : PyData → Prop), W_is_word ds R → ds.length = 2 := by
  intro ds R h
  unfold W_is_word at h
  (repeat (first | (obtain ⟨rfl, _⟩ := h) | (obtain ⟨_, h⟩ := h)))
  rfl
theorem ok_is_word {f : Addr} {fd : FuncData} (D : Dn K mg "is_word" s_is_word ["signs", "value"] f fd) {f_is_integer_list : Addr} {fd_is_integer_list : FuncData} (D_is_integer_list : Dn K mg "is_integer_list" s_is_integer_list ["value"] f_is_integer_list fd_is_integer_list) (G_is_integer_list : FnG P w K mg base CX0 2 f_is_integer_list fd_is_integer_list ["value"] (spP K W_is_integer_list)) (M : Ms mg) (Cc : CsL mg t_CELL_LIMIT t_DIGITS t_DIGIT_LIMIT t_REACH t_WORD_LIMIT) : FnG P w K mg base CX0 3 f fd ["signs", "value"] (spP K W_is_word) := by
  refine fun_okG (k := 2) D.F sc_is_word (fun vs H Q E h => ?_) (fun cdv A outer s H vs Q E hgu hr h => ⟨t_is_word K, ?_, ?_⟩)
  · obtain ⟨F, ds, R, e, z, hW, k⟩ := h
    rw [z.len, len_is_word ds R hW]
    rfl
  · unfold t_is_word
    exact (pss_one (ps_ret (pe_and (pe_callG G_is_integer_list hgu (hr.mono (by decide)) (by rfl) D_is_integer_list.g D_is_integer_list.F.kp D_is_integer_list.b pass0 (pa_cons (pv 1) pa_nil)) (pe_one (pe_callB (cr_all rfl) (by rfl) M.all (by decide +kernel) (pa_cons (pe_lc (own := [("item", 2)]) (g := (gName 2)) (tt := tYes) rfl sc_is_word.nd (pi_list (pv 1)) (blkOk_by (N := ["signs", "value", "item"]) (sc := defScope s_is_word) (by decide +kernel)) (fun _ _ _ _ _ => (pg_name (i := 2) sc_is_word.nd rfl (by first | exact Or.inl rfl | exact Or.inr rfl))) (fun _ _ _ _ _ => pts_nil) (fun _ _ _ _ _ => (pe_chain op_leI op_ltI pe_int (pv 2) (pv 0)))) pa_nil))))))
  · exact run_P h (ds_is_word K)
theorem len_check_signs : ∀ (ds : List PyData) (R : PyData → Prop), W_check_signs ds R → ds.length = 1 := by
  intro ds R h
  unfold W_check_signs at h
  (repeat (first | (obtain ⟨rfl, _⟩ := h) | (obtain ⟨_, h⟩ := h)))
  rfl
theorem ok_check_signs {f : Addr} {fd : FuncData} (D : Dn K mg "check_signs" s_check_signs ["value"] f fd) {f_is_sign_count : Addr} {fd_is_sign_count : FuncData} (D_is_sign_count : Dn K mg "is_sign_count" s_is_sign_count ["value"] f_is_sign_count fd_is_sign_count) (G_is_sign_count : FnG P w K mg base CX0 2 f_is_sign_count fd_is_sign_count ["value"] (spP K W_is_sign_count)) (M : Ms mg) (Cc : CsL mg t_CELL_LIMIT t_DIGITS t_DIGIT_LIMIT t_REACH t_WORD_LIMIT) : FnG P w K mg base CX0 3 f fd ["value"] (spP K W_check_signs) := by
  refine fun_okG (k := 2) D.F sc_check_signs (fun vs H Q E h => ?_) (fun cdv A outer s H vs Q E hgu hr h => ⟨t_check_signs K, ?_, ?_⟩)
  · obtain ⟨F, ds, R, e, z, hW, k⟩ := h
    rw [z.len, len_check_signs ds R hW]
    rfl
  · unfold t_check_signs
    exact (pss_one (ps_if (pt_not (pt_val (pe_callG G_is_sign_count hgu (hr.mono (by decide)) (by rfl) D_is_sign_count.g D_is_sign_count.F.kp D_is_sign_count.b pass0 (pa_cons (pv 0) pa_nil))))
    (pss_one ps_never)
    pss_nil))
  · exact run_P h (ds_check_signs K)
theorem ok_check_words {f : Addr} {fd : FuncData} (D : Dn K mg "check_words" s_check_words ["words", "can_stand"] f fd) {f_stands_in_rule : Addr} {fd_stands_in_rule : FuncData} (D_stands_in_rule : Dn K mg "stands_in_rule" s_stands_in_rule ["words", "place"] f_stands_in_rule fd_stands_in_rule) (G_stands_in_rule : FnG P w K mg base CX0 2 f_stands_in_rule fd_stands_in_rule ["words", "place"] (spP K W_stands_in_rule)) (M : Ms mg) (Cc : CsL mg t_CELL_LIMIT t_DIGITS t_DIGIT_LIMIT t_REACH t_WORD_LIMIT) : FnG P w K mg base CX0 3 f fd ["words", "can_stand"] (spCW K f_stands_in_rule W_stands_in_rule) := by
  refine fun_okG (k := 2) D.F sc_check_words (fun vs H Q E h => ?_) (fun cdv A outer s H vs Q E hgu hr h => ⟨t_check_words K f_stands_in_rule W_stands_in_rule, ?_, run_CW h⟩)
  · obtain ⟨F, v, ws, rfl, _⟩ := h
    rfl
  · unfold t_check_words
    exact (pss_one (ps_for PassesOwn.never rfl (pi_rg1 (by rfl) M.range (pa_cons (pe_callB call_lenA (by rfl) M.len (by decide +kernel) (pa_cons (pv 0) pa_nil)) pa_nil)) (pg_name (i := 2) sc_check_words.nd rfl (by first | exact Or.inl rfl | exact Or.inr rfl))
    (pss_one (ps_if (pt_not (pt_val (pe_callLG G_stands_in_rule hgu (hr.mono (by decide)) (pv 1) D_stands_in_rule.F.kp D_stands_in_rule.b pass0 (pa_cons (pv 0) (pa_cons (pv 2) pa_nil)))))
    (pss_one ps_never)
    pss_nil))))
theorem len__law_rule : ∀ (ds : List PyData) (R : PyData → Prop), W__law_rule ds R → ds.length = 2 := by
  intro ds R h
  unfold W__law_rule at h
  (repeat (first | (obtain ⟨rfl, _⟩ := h) | (obtain ⟨_, h⟩ := h)))
  rfl
theorem ok__law_rule {f : Addr} {fd : FuncData} (D : Dn K mg "_law_rule" s__law_rule ["purse", "signs_here", "wide"] f fd) {f__law_coin : Addr} {fd__law_coin : FuncData} (D__law_coin : Dn K mg "_law_coin" s__law_coin ["purse", "many"] f__law_coin fd__law_coin) (G__law_coin : FnG P w K mg base CX0 1 f__law_coin fd__law_coin ["purse", "many"] (spC K true w__law_coin W__law_coin)) {f__law_table : Addr} {fd__law_table : FuncData} (D__law_table : Dn K mg "_law_table" s__law_table ["purse", "signs_here", "width_here"] f__law_table fd__law_table) (G__law_table : FnG P w K mg base CX0 2 f__law_table fd__law_table ["purse", "signs_here", "width_here"] (spC K true w__law_table W__law_table)) (M : Ms mg) (Cc : CsL mg t_CELL_LIMIT t_DIGITS t_DIGIT_LIMIT t_REACH t_WORD_LIMIT) : FnG P w K mg base CX0 3 f fd ["purse", "signs_here", "wide"] (spC K true w__law_rule W__law_rule) := by
  refine fun_okG (k := 2) D.F sc__law_rule (fun vs H Q E h => ?_) (fun cdv A outer s H vs Q E hgu hr h => ⟨t__law_rule K, ?_, ?_⟩)
  · obtain ⟨a, ws, F, ds, R, rfl, e, tp, z, hW, k⟩ := h
    rw [List.length_cons, z.len, len__law_rule ds R hW]
    rfl
  · unfold t__law_rule
    exact (pss_cons (ps_set (i := 3) sc__law_rule.nd rfl (by first | exact Or.inl rfl | exact Or.inr rfl) (pe_op op_plus pe_int (pe_callG G__law_coin hgu (hr.mono (by decide)) (by rfl) D__law_coin.g D__law_coin.F.kp D__law_coin.b pass0 (pa_cons (pv 0) (pa_cons (pv 2) pa_nil)))))
    (pss_cons (ps_set (i := 4) sc__law_rule.nd rfl (by first | exact Or.inl rfl | exact Or.inr rfl) (pe_op op_minus (pe_callG G__law_coin hgu (hr.mono (by decide)) (by rfl) D__law_coin.g D__law_coin.F.kp D__law_coin.b pass0 (pa_cons (pv 0) (pa_cons (pe_op op_minus pe_int (pv 3)) pa_nil))) pe_int))
    (pss_cons (ps_set (i := 5) sc__law_rule.nd rfl (by first | exact Or.inl rfl | exact Or.inr rfl) (pe_ix ix_seq (pe_lst (pa_cons pe_int (pa_cons (pe_un un_negI pe_int) (pa_cons (pe_op op_minus pe_int (pv 3)) (pa_cons (pe_op op_minus (pe_callG G__law_coin hgu (hr.mono (by decide)) (by rfl) D__law_coin.g D__law_coin.F.kp D__law_coin.b pass0 (pa_cons (pv 0) (pa_cons pe_int pa_nil))) pe_int) (pa_cons (pv 4) pa_nil)))))) (pe_callG G__law_coin hgu (hr.mono (by decide)) (by rfl) D__law_coin.g D__law_coin.F.kp D__law_coin.b pass0 (pa_cons (pv 0) (pa_cons pe_int pa_nil))) (fun _ _ => rfl)))
    (pss_one (ps_ret (pe_tup (pa_cons (pv 1) (pa_cons (pv 5) (pa_cons (pv 3) (pa_cons (pe_callG G__law_table hgu (hr.mono (by decide)) (by rfl) D__law_table.g D__law_table.F.kp D__law_table.b pass0 (pa_cons (pv 0) (pa_cons (pv 1) (pa_cons (pv 3) pa_nil)))) pa_nil))))))))))
  · exact run_C h (ds__law_rule K)
theorem len_is_rule : ∀ (ds : List PyData) (R : PyData → Prop), W_is_rule ds R → ds.length = 1 := by
  intro ds R h
  unfold W_is_rule at h
  (repeat (first | (obtain ⟨rfl, _⟩ := h) | (obtain ⟨_, h⟩ := h)))
  rfl
theorem ok_is_rule {f : Addr} {fd : FuncData} (D : Dn K mg "is_rule" s_is_rule ["value"] f fd) {f_is_integer : Addr} {fd_is_integer : FuncData} (D_is_integer : Dn K mg "is_integer" s_is_integer ["value"] f_is_integer fd_is_integer) (G_is_integer : FnG P w K mg base CX0 1 f_is_integer fd_is_integer ["value"] (spP K W_is_integer)) {f_count_words : Addr} {fd_count_words : FuncData} (D_count_words : Dn K mg "count_words" s_count_words ["signs", "length", "limit"] f_count_words fd_count_words) (G_count_words : FnG P w K mg base CX0 1 f_count_words fd_count_words ["signs", "length", "limit"] (spP K W_count_words)) {f_is_reached : Addr} {fd_is_reached : FuncData} (D_is_reached : Dn K mg "is_reached" s_is_reached ["first", "width"] f_is_reached fd_is_reached) (G_is_reached : FnG P w K mg base CX0 1 f_is_reached fd_is_reached ["first", "width"] (spP K W_is_reached)) {f_is_sign_count : Addr} {fd_is_sign_count : FuncData} (D_is_sign_count : Dn K mg "is_sign_count" s_is_sign_count ["value"] f_is_sign_count fd_is_sign_count) (G_is_sign_count : FnG P w K mg base CX0 2 f_is_sign_count fd_is_sign_count ["value"] (spP K W_is_sign_count)) {f_is_word : Addr} {fd_is_word : FuncData} (D_is_word : Dn K mg "is_word" s_is_word ["signs", "value"] f_is_word fd_is_word) (G_is_word : FnG P w K mg base CX0 3 f_is_word fd_is_word ["signs", "value"] (spP K W_is_word)) (M : Ms mg) (Cc : CsL mg t_CELL_LIMIT t_DIGITS t_DIGIT_LIMIT t_REACH t_WORD_LIMIT) : FnG P w K mg base CX0 4 f fd ["value"] (spP K W_is_rule) := by
  refine fun_okG (k := 3) D.F sc_is_rule (fun vs H Q E h => ?_) (fun cdv A outer s H vs Q E hgu hr h => ⟨t_is_rule K, ?_, ?_⟩)
  · obtain ⟨F, ds, R, e, z, hW, k⟩ := h
    rw [z.len, len_is_rule ds R hW]
    rfl
  · unfold t_is_rule
    exact (pss_cons (ps_if (PW.pt (pw_or (pt_cmpR op_notTy1 (pe_callTy call_type1 (by rfl) M.type (by decide +kernel) (pa_cons (pv 0) pa_nil)) (pe_bltn (by rfl) M.tuple (by decide +kernel) rfl) (nomark _)) (pw_or1 (pt_cmpR (op_neU hr.units) (pe_callB call_lenA (by rfl) M.len (by decide +kernel) (pa_cons (pv 0) pa_nil)) pe_int (nomark _)))))
    (pss_one (ps_ret pe_bl))
    pss_nil)
    (pss_cons (ps_asg (pv 0) (pg_tup rfl (pgs_cons (pg_name (i := 1) sc_is_rule.nd rfl (by first | exact Or.inl rfl | exact Or.inr rfl)) (pgs_cons (pg_name (i := 2) sc_is_rule.nd rfl (by first | exact Or.inl rfl | exact Or.inr rfl)) (pgs_cons (pg_name (i := 3) sc_is_rule.nd rfl (by first | exact Or.inl rfl | exact Or.inr rfl)) (pgs_cons (pg_name (i := 4) sc_is_rule.nd rfl (by first | exact Or.inl rfl | exact Or.inr rfl)) pgs_nil))))))
    (pss_cons (ps_if (PW.pt (pw_or (pt_not (pt_val (pe_callG G_is_sign_count hgu (hr.mono (by decide)) (by rfl) D_is_sign_count.g D_is_sign_count.F.kp D_is_sign_count.b pass0 (pa_cons (pv 1) pa_nil)))) (pw_or (pt_not (pt_val (pe_callG G_is_integer hgu (hr.mono (by decide)) (by rfl) D_is_integer.g D_is_integer.F.kp D_is_integer.b pass0 (pa_cons (pv 2) pa_nil)))) (pw_or1 (pt_not (pt_val (pe_callG G_is_integer hgu (hr.mono (by decide)) (by rfl) D_is_integer.g D_is_integer.F.kp D_is_integer.b pass0 (pa_cons (pv 3) pa_nil))))))))
    (pss_one (ps_ret pe_bl))
    pss_nil)
    (pss_cons (ps_if (PW.pt (pw_or (pt_cmpR op_ltI (pv 3) pe_int (nomark _)) (pw_or (pt_not (pt_val (pe_callG G_is_reached hgu (hr.mono (by decide)) (by rfl) D_is_reached.g D_is_reached.F.kp D_is_reached.b pass0 (pa_cons (pv 2) (pa_cons (pv 3) pa_nil))))) (pw_or1 (pt_not (pt_val (pe_callG G_is_word hgu (hr.mono (by decide)) (by rfl) D_is_word.g D_is_word.F.kp D_is_word.b pass0 (pa_cons (pv 1) (pa_cons (pv 4) pa_nil)))))))))
    (pss_one (ps_ret pe_bl))
    pss_nil)
    (pss_one (ps_ret (pe_cmpR (op_eqU hr.units) (pe_callB call_lenA (by rfl) M.len (by decide +kernel) (pa_cons (pv 4) pa_nil)) (pe_callG G_count_words hgu (hr.mono (by decide)) (by rfl) D_count_words.g D_count_words.F.kp D_count_words.b pass0 (pa_cons (pv 1) (pa_cons (pv 3) (pa_cons (pe_glob (by rfl) Cc.c_WORD_LIMIT ⟨_, rfl⟩) pa_nil)))) (nomark _))))))))
  · exact run_P h (ds_is_rule K)
theorem len_is_ring : ∀ (ds : List PyData) (R : PyData → Prop), W_is_ring ds R → ds.length = 2 := by
  intro ds R h
  unfold W_is_ring at h
  (repeat (first | (obtain ⟨rfl, _⟩ := h) | (obtain ⟨_, h⟩ := h)))
  rfl
theorem ok_is_ring {f : Addr} {fd : FuncData} (D : Dn K mg "is_ring" s_is_ring ["signs", "value"] f fd) {f_is_word : Addr} {fd_is_word : FuncData} (D_is_word : Dn K mg "is_word" s_is_word ["signs", "value"] f_is_word fd_is_word) (G_is_word : FnG P w K mg base CX0 3 f_is_word fd_is_word ["signs", "value"] (spP K W_is_word)) {f_check_signs : Addr} {fd_check_signs : FuncData} (D_check_signs : Dn K mg "check_signs" s_check_signs ["value"] f_check_signs fd_check_signs) (G_check_signs : FnG P w K mg base CX0 3 f_check_signs fd_check_signs ["value"] (spP K W_check_signs)) (M : Ms mg) (Cc : CsL mg t_CELL_LIMIT t_DIGITS t_DIGIT_LIMIT t_REACH t_WORD_LIMIT) : FnG P w K mg base CX0 4 f fd ["signs", "value"] (spP K W_is_ring) := by
  refine fun_okG (k := 3) D.F sc_is_ring (fun vs H Q E h => ?_) (fun cdv A outer s H vs Q E hgu hr h => ⟨t_is_ring K, ?_, ?_⟩)
  · obtain ⟨F, ds, R, e, z, hW, k⟩ := h
    rw [z.len, len_is_ring ds R hW]
    rfl
  · unfold t_is_ring
    exact (pss_cons (ps_expr (pe_callG G_check_signs hgu (hr.mono (by decide)) (by rfl) D_check_signs.g D_check_signs.F.kp D_check_signs.b pass0 (pa_cons (pv 0) pa_nil)))
    (pss_one (ps_ret (pe_and (pe_callG G_is_word hgu (hr.mono (by decide)) (by rfl) D_is_word.g D_is_word.F.kp D_is_word.b pass0 (pa_cons (pv 0) (pa_cons (pv 1) pa_nil))) (pe_one (pe_chain op_leI op_leI pe_int (pe_callB call_lenA (by rfl) M.len (by decide +kernel) (pa_cons (pv 1) pa_nil)) (pe_glob (by rfl) Cc.c_CELL_LIMIT ⟨_, rfl⟩)))))))
  · exact run_P h (ds_is_ring K)
theorem len_check_rule : ∀ (ds : List PyData) (R : PyData → Prop), W_check_rule ds R → ds.length = 1 := by
  intro ds R h
  unfold W_check_rule at h
  (repeat (first | (obtain ⟨rfl, _⟩ := h) | (obtain ⟨_, h⟩ := h)))
  rfl
theorem ok_check_rule {f : Addr} {fd : FuncData} (D : Dn K mg "check_rule" s_check_rule ["value"] f fd) {f_is_rule : Addr} {fd_is_rule : FuncData} (D_is_rule : Dn K mg "is_rule" s_is_rule ["value"] f_is_rule fd_is_rule) (G_is_rule : FnG P w K mg base CX0 4 f_is_rule fd_is_rule ["value"] (spP K W_is_rule)) (M : Ms mg) (Cc : CsL mg t_CELL_LIMIT t_DIGITS t_DIGIT_LIMIT t_REACH t_WORD_LIMIT) : FnG P w K mg base CX0 5 f fd ["value"] (spP K W_check_rule) := by
  refine fun_okG (k := 4) D.F sc_check_rule (fun vs H Q E h => ?_) (fun cdv A outer s H vs Q E hgu hr h => ⟨t_check_rule K, ?_, ?_⟩)
  · obtain ⟨F, ds, R, e, z, hW, k⟩ := h
    rw [z.len, len_check_rule ds R hW]
    rfl
  · unfold t_check_rule
    exact (pss_one (ps_if (pt_not (pt_val (pe_callG G_is_rule hgu (hr.mono (by decide)) (by rfl) D_is_rule.g D_is_rule.F.kp D_is_rule.b pass0 (pa_cons (pv 0) pa_nil))))
    (pss_one ps_never)
    pss_nil))
  · exact run_P h (ds_check_rule K)
theorem len_check_ring : ∀ (ds : List PyData) (R : PyData → Prop), W_check_ring ds R → ds.length = 2 := by
  intro ds R h
  unfold W_check_ring at h
  (repeat (first | (obtain ⟨rfl, _⟩ := h) | (obtain ⟨_, h⟩ := h)))
  rfl
theorem ok_check_ring {f : Addr} {fd : FuncData} (D : Dn K mg "check_ring" s_check_ring ["signs", "value"] f fd) {f_is_ring : Addr} {fd_is_ring : FuncData} (D_is_ring : Dn K mg "is_ring" s_is_ring ["signs", "value"] f_is_ring fd_is_ring) (G_is_ring : FnG P w K mg base CX0 4 f_is_ring fd_is_ring ["signs", "value"] (spP K W_is_ring)) (M : Ms mg) (Cc : CsL mg t_CELL_LIMIT t_DIGITS t_DIGIT_LIMIT t_REACH t_WORD_LIMIT) : FnG P w K mg base CX0 5 f fd ["signs", "value"] (spP K W_check_ring) := by
  refine fun_okG (k := 4) D.F sc_check_ring (fun vs H Q E h => ?_) (fun cdv A outer s H vs Q E hgu hr h => ⟨t_check_ring K, ?_, ?_⟩)
  · obtain ⟨F, ds, R, e, z, hW, k⟩ := h
    rw [z.len, len_check_ring ds R hW]
    rfl
  · unfold t_check_ring
    exact (pss_one (ps_if (pt_not (pt_val (pe_callG G_is_ring hgu (hr.mono (by decide)) (by rfl) D_is_ring.g D_is_ring.F.kp D_is_ring.b pass0 (pa_cons (pv 0) (pa_cons (pv 1) pa_nil)))))
    (pss_one ps_never)
    pss_nil))
  · exact run_P h (ds_check_ring K)
theorem len_read_rule : ∀ (ds : List PyData) (R : PyData → Prop), W_read_rule ds R → ds.length = 1 := by
  intro ds R h
  unfold W_read_rule at h
  (repeat (first | (obtain ⟨rfl, _⟩ := h) | (obtain ⟨_, h⟩ := h)))
  rfl
theorem ok_read_rule {f : Addr} {fd : FuncData} (D : Dn K mg "read_rule" s_read_rule ["text"] f fd)  {f_signs_in : Addr} {fd_signs_in : FuncData} (D_signs_in : Dn K mg "signs_in" s_signs_in ["word"] f_signs_in fd_signs_in) (G_signs_in : FnG P w K mg base CX0 1 f_signs_in fd_signs_in ["word"] (spF K W_signs_in)) {f_words_of : Addr} {fd_words_of : FuncData} (D_words_of : Dn K mg "words_of" s_words_of ["text"] f_words_of fd_words_of) (G_words_of : FnG P w K mg base CX0 1 f_words_of fd_words_of ["text"] (spP K Tr.W_words_of)) {f_span_of : Addr} {fd_span_of : FuncData} (D_span_of : Dn K mg "span_of" s_span_of ["signs", "many"] f_span_of fd_span_of) (G_span_of : FnG P w K mg base CX0 1 f_span_of fd_span_of ["signs", "many"] (spP K W_span_of)) {f_stands_in_rule : Addr} {fd_stands_in_rule : FuncData} (D_stands_in_rule : Dn K mg "stands_in_rule" s_stands_in_rule ["words", "place"] f_stands_in_rule fd_stands_in_rule) (G_stands_in_rule : FnG P w K mg base CX0 2 f_stands_in_rule fd_stands_in_rule ["words", "place"] (spP K W_stands_in_rule)) {f_check_words : Addr} {fd_check_words : FuncData} (D_check_words : Dn K mg "check_words" s_check_words ["words", "can_stand"] f_check_words fd_check_words) (G_check_words : FnG P w K mg base CX0 3 f_check_words fd_check_words ["words", "can_stand"] (spCW K f_stands_in_rule W_stands_in_rule)) {f_is_rule : Addr} {fd_is_rule : FuncData} (D_is_rule : Dn K mg "is_rule" s_is_rule ["value"] f_is_rule fd_is_rule) (G_is_rule : FnG P w K mg base CX0 4 f_is_rule fd_is_rule ["value"] (spP K W_is_rule)) (M : Ms mg) (Cc : CsL mg t_CELL_LIMIT t_DIGITS t_DIGIT_LIMIT t_REACH t_WORD_LIMIT) : FnG P w K mg base CX0 5 f fd ["text"] (spN K W_read_rule) := by
  refine fun_okG (k := 4) D.F sc_read_rule (fun vs H Q E h => ?_) (fun cdv A outer s H vs Q E hgu hr h => ⟨t_read_rule f_stands_in_rule K, ?_, ?_⟩)
  · obtain ⟨F, ds, R, e, z, hW, k⟩ := h
    rw [z.len, len_read_rule ds R hW]
    rfl
  · unfold t_read_rule
    exact (pss_cons (ps_set (i := 1) sc_read_rule.nd rfl (by first | exact Or.inl rfl | exact Or.inr rfl) (pe_callG G_words_of hgu (hr.mono (by decide)) (by rfl) D_words_of.g D_words_of.F.kp D_words_of.b pass0 (pa_cons (pv 0) pa_nil)))
    (pss_cons (ps_expr (pe_callG G_check_words hgu (hr.mono (by decide)) (by rfl) D_check_words.g D_check_words.F.kp D_check_words.b pass0 (pa_cons (pv 1) (pa_cons (pe_glob (by rfl) D_stands_in_rule.g rfl) pa_nil))))
    (pss_cons (ps_if (pt_cmpR (op_eqU hr.units) (pe_callB call_lenA (by rfl) M.len (by decide +kernel) (pa_cons (pv 1) pa_nil)) pe_int (nomark _))
    (pss_cons (ps_par (i := 2) (j := 3) (by rfl) sc_read_rule.nd rfl rfl (by decide) rfl rfl (pa_cons (pe_callTy call_intS (by rfl) M.int (by decide +kernel) (pa_cons (pe_ix ix_seq (pv 1) pe_int (fun _ _ => rfl)) pa_nil)) (pa_cons (pe_callG G_signs_in hgu (hr.mono (by decide)) (by rfl) D_signs_in.g D_signs_in.F.kp D_signs_in.b pass0 (pa_cons (pe_ix ix_seq (pv 1) pe_int (fun _ _ => rfl)) pa_nil)) pa_nil)) (by rfl))
    (pss_cons (ps_set (i := 4) sc_read_rule.nd rfl (by first | exact Or.inl rfl | exact Or.inr rfl) (pe_tup (pa_cons (pv 2) (pa_cons (pe_callTy call_intS (by rfl) M.int (by decide +kernel) (pa_cons (pe_ix ix_seq (pv 1) pe_int (fun _ _ => rfl)) pa_nil)) (pa_cons (pe_callG G_span_of hgu (hr.mono (by decide)) (by rfl) D_span_of.g D_span_of.F.kp D_span_of.b pass0 (pa_cons (pv 2) (pa_cons (pe_callB call_lenA (by rfl) M.len (by decide +kernel) (pa_cons (pv 3) pa_nil)) pa_nil))) (pa_cons (pv 3) pa_nil))))))
    (pss_one (ps_if (pt_val (pe_callG G_is_rule hgu (hr.mono (by decide)) (by rfl) D_is_rule.g D_is_rule.F.kp D_is_rule.b pass0 (pa_cons (pv 4) pa_nil)))
    (pss_one (ps_ret (pv 4)))
    pss_nil))))
    pss_nil)
    (pss_one ps_never))))
  · exact run_N h (ds_read_rule f_stands_in_rule K)
theorem len_read_ring : ∀ (ds : List PyData) (R : List PyData → Prop), W_read_ring ds R → ds.length = 2 := by
  intro ds R h
  unfold W_read_ring at h
  (repeat (first | (obtain ⟨rfl, _⟩ := h) | (obtain ⟨_, h⟩ := h)))
  rfl
theorem ok_read_ring {f : Addr} {fd : FuncData} (D : Dn K mg "read_ring" s_read_ring ["signs", "text"] f fd) {f_are_signs : Addr} {fd_are_signs : FuncData} (D_are_signs : Dn K mg "are_signs" s_are_signs ["signs", "word"] f_are_signs fd_are_signs) (G_are_signs : FnG P w K mg base CX0 1 f_are_signs fd_are_signs ["signs", "word"] (spP K W_are_signs)) {f_signs_in : Addr} {fd_signs_in : FuncData} (D_signs_in : Dn K mg "signs_in" s_signs_in ["word"] f_signs_in fd_signs_in) (G_signs_in : FnG P w K mg base CX0 1 f_signs_in fd_signs_in ["word"] (spF K W_signs_in)) {f_words_of : Addr} {fd_words_of : FuncData} (D_words_of : Dn K mg "words_of" s_words_of ["text"] f_words_of fd_words_of) (G_words_of : FnG P w K mg base CX0 1 f_words_of fd_words_of ["text"] (spP K Tr.W_words_of)) {f_check_signs : Addr} {fd_check_signs : FuncData} (D_check_signs : Dn K mg "check_signs" s_check_signs ["value"] f_check_signs fd_check_signs) (G_check_signs : FnG P w K mg base CX0 3 f_check_signs fd_check_signs ["value"] (spP K W_check_signs)) {f_is_ring : Addr} {fd_is_ring : FuncData} (D_is_ring : Dn K mg "is_ring" s_is_ring ["signs", "value"] f_is_ring fd_is_ring) (G_is_ring : FnG P w K mg base CX0 4 f_is_ring fd_is_ring ["signs", "value"] (spP K W_is_ring)) (M : Ms mg) (Cc : CsL mg t_CELL_LIMIT t_DIGITS t_DIGIT_LIMIT t_REACH t_WORD_LIMIT) : FnG P w K mg base CX0 5 f fd ["signs", "text"] (spF K W_read_ring) := by
  refine fun_okG (k := 4) D.F sc_read_ring (fun vs H Q E h => ?_) (fun cdv A outer s H vs Q E hgu hr h => ⟨t_read_ring K, ?_, ?_⟩)
  · obtain ⟨F, ds, R, e, z, hW, k⟩ := h
    rw [z.len, len_read_ring ds R hW]
    rfl
  · unfold t_read_ring
    exact (pss_cons (ps_expr (pe_callG G_check_signs hgu (hr.mono (by decide)) (by rfl) D_check_signs.g D_check_signs.F.kp D_check_signs.b pass0 (pa_cons (pv 0) pa_nil)))
    (pss_cons (ps_set (i := 2) sc_read_ring.nd rfl (by first | exact Or.inl rfl | exact Or.inr rfl) (pe_callG G_words_of hgu (hr.mono (by decide)) (by rfl) D_words_of.g D_words_of.F.kp D_words_of.b pass0 (pa_cons (pv 1) pa_nil)))
    (pss_cons (ps_if (pt_not (pt_val (pe_callG G_are_signs hgu (hr.mono (by decide)) (by rfl) D_are_signs.g D_are_signs.F.kp D_are_signs.b pass0 (pa_cons (pv 0) (pa_cons (pe_ix ix_seq (pv 2) pe_int (fun _ _ => rfl)) pa_nil)))))
    (pss_one ps_never)
    pss_nil)
    (pss_cons (ps_set (i := 3) sc_read_ring.nd rfl (by first | exact Or.inl rfl | exact Or.inr rfl) (pe_callG G_signs_in hgu (hr.mono (by decide)) (by rfl) D_signs_in.g D_signs_in.F.kp D_signs_in.b pass0 (pa_cons (pe_ix ix_seq (pv 2) pe_int (fun _ _ => rfl)) pa_nil)))
    (pss_cons (ps_if (PW.pt (pw_or (pt_cmpR op_gtI (pe_callB call_lenA (by rfl) M.len (by decide +kernel) (pa_cons (pv 2) pa_nil)) pe_int (nomark _)) (pw_or1 (pt_not (pt_val (pe_callG G_is_ring hgu (hr.mono (by decide)) (by rfl) D_is_ring.g D_is_ring.F.kp D_is_ring.b pass0 (pa_cons (pv 0) (pa_cons (pv 3) pa_nil))))))))
    (pss_one ps_never)
    pss_nil)
    (pss_one (ps_ret (pv 3))))))))
  · exact run_G h (ds_read_ring K)
theorem len_show_rule : ∀ (ds : List PyData) (R : PyData → Prop), W_show_rule ds R → ds.length = 1 := by
  intro ds R h
  unfold W_show_rule at h
  (repeat (first | (obtain ⟨rfl, _⟩ := h) | (obtain ⟨_, h⟩ := h)))
  rfl
theorem ok_show_rule {f : Addr} {fd : FuncData} (D : Dn K mg "show_rule" s_show_rule ["rule"] f fd) {f_signs_text : Addr} {fd_signs_text : FuncData} (D_signs_text : Dn K mg "signs_text" s_signs_text ["items"] f_signs_text fd_signs_text) (G_signs_text : FnG P w K mg base CX0 1 f_signs_text fd_signs_text ["items"] (spP K W_signs_text)) {f_check_rule : Addr} {fd_check_rule : FuncData} (D_check_rule : Dn K mg "check_rule" s_check_rule ["value"] f_check_rule fd_check_rule) (G_check_rule : FnG P w K mg base CX0 5 f_check_rule fd_check_rule ["value"] (spP K W_check_rule)) (M : Ms mg) (Cc : CsL mg t_CELL_LIMIT t_DIGITS t_DIGIT_LIMIT t_REACH t_WORD_LIMIT) : FnG P w K mg base CX0 6 f fd ["rule"] (spP K W_show_rule) := by
  refine fun_okG (k := 5) D.F sc_show_rule (fun vs H Q E h => ?_) (fun cdv A outer s H vs Q E hgu hr h => ⟨t_show_rule K, ?_, ?_⟩)
  · obtain ⟨F, ds, R, e, z, hW, k⟩ := h
    rw [z.len, len_show_rule ds R hW]
    rfl
  · unfold t_show_rule
    exact (pss_cons (ps_expr (pe_callG G_check_rule hgu (hr.mono (by decide)) (by rfl) D_check_rule.g D_check_rule.F.kp D_check_rule.b pass0 (pa_cons (pv 0) pa_nil)))
    (pss_cons (ps_asg (pv 0) (pg_tup rfl (pgs_cons (pg_name (i := 1) sc_show_rule.nd rfl (by first | exact Or.inl rfl | exact Or.inr rfl)) (pgs_cons (pg_name (i := 2) sc_show_rule.nd rfl (by first | exact Or.inl rfl | exact Or.inr rfl)) (pgs_cons (pg_name (i := 3) sc_show_rule.nd rfl (by first | exact Or.inl rfl | exact Or.inr rfl)) (pgs_cons (pg_name (i := 4) sc_show_rule.nd rfl (by first | exact Or.inl rfl | exact Or.inr rfl)) pgs_nil))))))
    (pss_one (ps_ret (pe_joinedJ (PJ.cons (pe_fmt (pv 1)) (PJ.cons pe_str (PJ.cons (pe_fmt (pv 2)) (PJ.cons pe_str (PJ.cons (pe_fmt (pe_callG G_signs_text hgu (hr.mono (by decide)) (by rfl) D_signs_text.g D_signs_text.F.kp D_signs_text.b pass0 (pa_cons (pv 4) pa_nil))) PJ.nil))))))))))
  · exact run_P h (ds_show_rule K)
theorem len_show_ring : ∀ (ds : List PyData) (R : PyData → Prop), W_show_ring ds R → ds.length = 2 := by
  intro ds R h
  unfold W_show_ring at h
  (repeat (first | (obtain ⟨rfl, _⟩ := h) | (obtain ⟨_, h⟩ := h)))
  rfl
theorem ok_show_ring {f : Addr} {fd : FuncData} (D : Dn K mg "show_ring" s_show_ring ["signs", "ring"] f fd) {f_signs_text : Addr} {fd_signs_text : FuncData} (D_signs_text : Dn K mg "signs_text" s_signs_text ["items"] f_signs_text fd_signs_text) (G_signs_text : FnG P w K mg base CX0 1 f_signs_text fd_signs_text ["items"] (spP K W_signs_text)) {f_check_ring : Addr} {fd_check_ring : FuncData} (D_check_ring : Dn K mg "check_ring" s_check_ring ["signs", "value"] f_check_ring fd_check_ring) (G_check_ring : FnG P w K mg base CX0 5 f_check_ring fd_check_ring ["signs", "value"] (spP K W_check_ring)) (M : Ms mg) (Cc : CsL mg t_CELL_LIMIT t_DIGITS t_DIGIT_LIMIT t_REACH t_WORD_LIMIT) : FnG P w K mg base CX0 6 f fd ["signs", "ring"] (spP K W_show_ring) := by
  refine fun_okG (k := 5) D.F sc_show_ring (fun vs H Q E h => ?_) (fun cdv A outer s H vs Q E hgu hr h => ⟨t_show_ring K, ?_, ?_⟩)
  · obtain ⟨F, ds, R, e, z, hW, k⟩ := h
    rw [z.len, len_show_ring ds R hW]
    rfl
  · unfold t_show_ring
    exact (pss_cons (ps_expr (pe_callG G_check_ring hgu (hr.mono (by decide)) (by rfl) D_check_ring.g D_check_ring.F.kp D_check_ring.b pass0 (pa_cons (pv 0) (pa_cons (pv 1) pa_nil))))
    (pss_one (ps_ret (pe_callG G_signs_text hgu (hr.mono (by decide)) (by rfl) D_signs_text.g D_signs_text.F.kp D_signs_text.b pass0 (pa_cons (pv 1) pa_nil)))))
  · exact run_P h (ds_show_ring K)
theorem len__law_rule_right : ∀ (ds : List PyData) (R : PyData → Prop), W__law_rule_right ds R → ds.length = 1 := by
  intro ds R h
  unfold W__law_rule_right at h
  (repeat (first | (obtain ⟨rfl, _⟩ := h) | (obtain ⟨_, h⟩ := h)))
  rfl
theorem ok__law_rule_right {f : Addr} {fd : FuncData} (D : Dn K mg "_law_rule_right" s__law_rule_right ["rule_here"] f fd) {f__law_signs : Addr} {fd__law_signs : FuncData} (D__law_signs : Dn K mg "_law_signs" s__law_signs ["row"] f__law_signs fd__law_signs) (G__law_signs : FnG P w K mg base CX0 1 f__law_signs fd__law_signs ["row"] (spP K W__law_signs)) {f_read_rule : Addr} {fd_read_rule : FuncData} (D_read_rule : Dn K mg "read_rule" s_read_rule ["text"] f_read_rule fd_read_rule) (G_read_rule : FnG P w K mg base CX0 5 f_read_rule fd_read_rule ["text"] (spN K W_read_rule)) {f_show_rule : Addr} {fd_show_rule : FuncData} (D_show_rule : Dn K mg "show_rule" s_show_rule ["rule"] f_show_rule fd_show_rule) (G_show_rule : FnG P w K mg base CX0 6 f_show_rule fd_show_rule ["rule"] (spP K W_show_rule)) (M : Ms mg) (Cc : CsL mg t_CELL_LIMIT t_DIGITS t_DIGIT_LIMIT t_REACH t_WORD_LIMIT) : FnG P w K mg base CX0 7 f fd ["rule_here"] (spP K W__law_rule_right) := by
  refine fun_okG (k := 6) D.F sc__law_rule_right (fun vs H Q E h => ?_) (fun cdv A outer s H vs Q E hgu hr h => ⟨t__law_rule_right K, ?_, ?_⟩)
  · obtain ⟨F, ds, R, e, z, hW, k⟩ := h
    rw [z.len, len__law_rule_right ds R hW]
    rfl
  · unfold t__law_rule_right
    exact (pss_cons (ps_set (i := 1) sc__law_rule_right.nd rfl (by first | exact Or.inl rfl | exact Or.inr rfl) (pe_op op_plus (pe_op op_plus (pe_op op_plus (pe_op op_plus (pe_callTy call_strI (by rfl) M.str (by decide +kernel) (pa_cons (pe_ix ix_seq (pv 0) pe_int (fun _ _ => rfl)) pa_nil)) pe_str) (pe_callTy call_strI (by rfl) M.str (by decide +kernel) (pa_cons (pe_ix ix_seq (pv 0) pe_int (fun _ _ => rfl)) pa_nil))) pe_str) (pe_callG G__law_signs hgu (hr.mono (by decide)) (by rfl) D__law_signs.g D__law_signs.F.kp D__law_signs.b pass0 (pa_cons (pe_ix ix_seq (pv 0) pe_int (fun _ _ => rfl)) pa_nil))))
    (pss_cons (ps_set (i := 2) sc__law_rule_right.nd rfl (by first | exact Or.inl rfl | exact Or.inr rfl) (pe_callB (call_reprD hgu hr.units) (by rfl) M.repr (by decide +kernel) (pa_cons (pv 0) pa_nil)))
    (pss_cons (ps_if (PW.pt (pw_or (pt_cmpR (op_neU hr.units) (pe_callB (call_reprD hgu hr.units) (by rfl) M.repr (by decide +kernel) (pa_cons (pe_callG G_show_rule hgu (hr.mono (by decide)) (by rfl) D_show_rule.g D_show_rule.F.kp D_show_rule.b pass0 (pa_cons (pv 0) pa_nil)) pa_nil)) (pe_callB (call_reprD hgu hr.units) (by rfl) M.repr (by decide +kernel) (pa_cons (pv 1) pa_nil)) (nomark _)) (pw_or1 (pt_cmpR (op_neU hr.units) (pe_callB (call_reprD hgu hr.units) (by rfl) M.repr (by decide +kernel) (pa_cons (pv 0) pa_nil)) (pv 2) (nomark _)))))
    (pss_one (ps_ret pe_bl))
    pss_nil)
    (pss_cons (ps_for PassesOwn.never rfl (pi_rg1 (by rfl) M.range (pa_cons pe_int pa_nil)) (pg_name (i := 3) sc__law_rule_right.nd rfl (by first | exact Or.inl rfl | exact Or.inr rfl))
    (pss_cons (ps_set (i := 4) sc__law_rule_right.nd rfl (by first | exact Or.inl rfl | exact Or.inr rfl) (pe_callG G_read_rule hgu (hr.mono (by decide)) (by rfl) D_read_rule.g D_read_rule.F.kp D_read_rule.b pass0 (pa_cons (pv 1) pa_nil)))
    (pss_cons (ps_if (pt_cmpR (op_neU hr.units) (pe_callB (call_reprD hgu hr.units) (by rfl) M.repr (by decide +kernel) (pa_cons (pv 4) pa_nil)) (pv 2) (nomark _))
    (pss_one (ps_ret pe_bl))
    pss_nil)
    (pss_one (ps_expr (pe_bm PySem.F.plainAttrs_list PySem.F.slot_list_append PySem.F.type_list_append mt_append (pe_ix ix_seq (pv 4) pe_int (fun _ _ => rfl)) (pa_cons pe_str pa_nil)))))))
    (pss_one (ps_ret pe_bl))))))
  · exact run_P h (ds__law_rule_right K)
theorem len__law_ring_right : ∀ (ds : List PyData) (R : PyData → Prop), W__law_ring_right ds R → ds.length = 2 := by
  intro ds R h
  unfold W__law_ring_right at h
  (repeat (first | (obtain ⟨rfl, _⟩ := h) | (obtain ⟨_, h⟩ := h)))
  rfl
theorem ok__law_ring_right {f : Addr} {fd : FuncData} (D : Dn K mg "_law_ring_right" s__law_ring_right ["signs_here", "ring_here"] f fd) {f__law_signs : Addr} {fd__law_signs : FuncData} (D__law_signs : Dn K mg "_law_signs" s__law_signs ["row"] f__law_signs fd__law_signs) (G__law_signs : FnG P w K mg base CX0 1 f__law_signs fd__law_signs ["row"] (spP K W__law_signs)) {f_read_ring : Addr} {fd_read_ring : FuncData} (D_read_ring : Dn K mg "read_ring" s_read_ring ["signs", "text"] f_read_ring fd_read_ring) (G_read_ring : FnG P w K mg base CX0 5 f_read_ring fd_read_ring ["signs", "text"] (spF K W_read_ring)) {f_show_ring : Addr} {fd_show_ring : FuncData} (D_show_ring : Dn K mg "show_ring" s_show_ring ["signs", "ring"] f_show_ring fd_show_ring) (G_show_ring : FnG P w K mg base CX0 6 f_show_ring fd_show_ring ["signs", "ring"] (spP K W_show_ring)) (M : Ms mg) (Cc : CsL mg t_CELL_LIMIT t_DIGITS t_DIGIT_LIMIT t_REACH t_WORD_LIMIT) : FnG P w K mg base CX0 7 f fd ["signs_here", "ring_here"] (spP K W__law_ring_right) := by
  refine fun_okG (k := 6) D.F sc__law_ring_right (fun vs H Q E h => ?_) (fun cdv A outer s H vs Q E hgu hr h => ⟨t__law_ring_right K, ?_, ?_⟩)
  · obtain ⟨F, ds, R, e, z, hW, k⟩ := h
    rw [z.len, len__law_ring_right ds R hW]
    rfl
  · unfold t__law_ring_right
    exact (pss_cons (ps_par (i := 2) (j := 3) (by rfl) sc__law_ring_right.nd rfl rfl (by decide) rfl rfl (pa_cons (pe_callG G__law_signs hgu (hr.mono (by decide)) (by rfl) D__law_signs.g D__law_signs.F.kp D__law_signs.b pass0 (pa_cons (pv 1) pa_nil)) (pa_cons (pe_callTy call_listA (by rfl) M.list (by decide +kernel) (pa_cons (pv 1) pa_nil)) pa_nil)) (by rfl))
    (pss_cons (ps_if (PW.pt (pw_or (pt_cmpR (op_neU hr.units) (pe_callB (call_reprD hgu hr.units) (by rfl) M.repr (by decide +kernel) (pa_cons (pe_callG G_show_ring hgu (hr.mono (by decide)) (by rfl) D_show_ring.g D_show_ring.F.kp D_show_ring.b pass0 (pa_cons (pv 0) (pa_cons (pv 1) pa_nil))) pa_nil)) (pe_callB (call_reprD hgu hr.units) (by rfl) M.repr (by decide +kernel) (pa_cons (pv 2) pa_nil)) (nomark _)) (pw_or1 (pt_cmpR (op_neU hr.units) (pv 1) (pv 3) (nomark _)))))
    (pss_one (ps_ret pe_bl))
    pss_nil)
    (pss_cons (ps_for PassesOwn.never rfl (pi_rg1 (by rfl) M.range (pa_cons pe_int pa_nil)) (pg_name (i := 4) sc__law_ring_right.nd rfl (by first | exact Or.inl rfl | exact Or.inr rfl))
    (pss_cons (ps_set (i := 5) sc__law_ring_right.nd rfl (by first | exact Or.inl rfl | exact Or.inr rfl) (pe_callG G_read_ring hgu (hr.mono (by decide)) (by rfl) D_read_ring.g D_read_ring.F.kp D_read_ring.b pass0 (pa_cons (pv 0) (pa_cons (pv 2) pa_nil))))
    (pss_cons (ps_if (pt_cmpR (op_neU hr.units) (pe_callB (call_reprD hgu hr.units) (by rfl) M.repr (by decide +kernel) (pa_cons (pv 5) pa_nil)) (pe_callB (call_reprD hgu hr.units) (by rfl) M.repr (by decide +kernel) (pa_cons (pv 3) pa_nil)) (nomark _))
    (pss_one (ps_ret pe_bl))
    pss_nil)
    (pss_one (ps_expr (pe_bm PySem.F.plainAttrs_list PySem.F.slot_list_append PySem.F.type_list_append mt_append (pv 5) (pa_cons pe_str pa_nil)))))))
    (pss_one (ps_ret (pe_or (pe_cmpR (op_eqU hr.units) (pv 0) pe_int (nomark _)) (pe_one (pe_cmpR (op_eqU hr.units) (pe_callG G_show_ring hgu (hr.mono (by decide)) (by rfl) D_show_ring.g D_show_ring.F.kp D_show_ring.b pass0 (pa_cons (pe_op op_plus (pv 0) pe_int) (pa_cons (pv 1) pa_nil))) (pv 2) (nomark _)))))))))
  · exact run_P h (ds__law_ring_right K)
theorem ok_law {f : Addr} {fd : FuncData} (D : Dn K mg "law" s_law ["script"] f fd) {f__law_purse : Addr} {fd__law_purse : FuncData} (D__law_purse : Dn K mg "_law_purse" s__law_purse ["script", "k"] f__law_purse fd__law_purse) (G__law_purse : FnG P w K mg base CX0 1 f__law_purse fd__law_purse ["script", "k"] (spF K W__law_purse)) {f__law_coin : Addr} {fd__law_coin : FuncData} (D__law_coin : Dn K mg "_law_coin" s__law_coin ["purse", "many"] f__law_coin fd__law_coin) (G__law_coin : FnG P w K mg base CX0 1 f__law_coin fd__law_coin ["purse", "many"] (spC K true w__law_coin W__law_coin)) {f__law_ring : Addr} {fd__law_ring : FuncData} (D__law_ring : Dn K mg "_law_ring" s__law_ring ["purse", "signs_here", "size"] f__law_ring fd__law_ring) (G__law_ring : FnG P w K mg base CX0 2 f__law_ring fd__law_ring ["purse", "signs_here", "size"] (spC K true w__law_ring W__law_ring)) {f__law_rule : Addr} {fd__law_rule : FuncData} (D__law_rule : Dn K mg "_law_rule" s__law_rule ["purse", "signs_here", "wide"] f__law_rule fd__law_rule) (G__law_rule : FnG P w K mg base CX0 3 f__law_rule fd__law_rule ["purse", "signs_here", "wide"] (spC K true w__law_rule W__law_rule)) {f_read_rule : Addr} {fd_read_rule : FuncData} (D_read_rule : Dn K mg "read_rule" s_read_rule ["text"] f_read_rule fd_read_rule) (G_read_rule : FnG P w K mg base CX0 5 f_read_rule fd_read_rule ["text"] (spN K W_read_rule)) {f_read_ring : Addr} {fd_read_ring : FuncData} (D_read_ring : Dn K mg "read_ring" s_read_ring ["signs", "text"] f_read_ring fd_read_ring) (G_read_ring : FnG P w K mg base CX0 5 f_read_ring fd_read_ring ["signs", "text"] (spF K W_read_ring)) {f_show_rule : Addr} {fd_show_rule : FuncData} (D_show_rule : Dn K mg "show_rule" s_show_rule ["rule"] f_show_rule fd_show_rule) (G_show_rule : FnG P w K mg base CX0 6 f_show_rule fd_show_rule ["rule"] (spP K W_show_rule)) {f_show_ring : Addr} {fd_show_ring : FuncData} (D_show_ring : Dn K mg "show_ring" s_show_ring ["signs", "ring"] f_show_ring fd_show_ring) (G_show_ring : FnG P w K mg base CX0 6 f_show_ring fd_show_ring ["signs", "ring"] (spP K W_show_ring)) {f__law_rule_right : Addr} {fd__law_rule_right : FuncData} (D__law_rule_right : Dn K mg "_law_rule_right" s__law_rule_right ["rule_here"] f__law_rule_right fd__law_rule_right) (G__law_rule_right : FnG P w K mg base CX0 7 f__law_rule_right fd__law_rule_right ["rule_here"] (spP K W__law_rule_right)) {f__law_ring_right : Addr} {fd__law_ring_right : FuncData} (D__law_ring_right : Dn K mg "_law_ring_right" s__law_ring_right ["signs_here", "ring_here"] f__law_ring_right fd__law_ring_right) (G__law_ring_right : FnG P w K mg base CX0 7 f__law_ring_right fd__law_ring_right ["signs_here", "ring_here"] (spP K W__law_ring_right)) (M : Ms mg) (Cc : CsL mg t_CELL_LIMIT t_DIGITS t_DIGIT_LIMIT t_REACH t_WORD_LIMIT) : FnG P w K mg base CX0 8 f fd ["script"] (spLaw K) := by
  refine fun_okG (k := 7) D.F sc_law (fun vs H Q E h => ?_) (fun cdv A outer s H vs Q E hgu hr h => ⟨t_law K, ?_, ?_⟩)
  · obtain ⟨a, ns, rfl, _⟩ := h
    rfl
  · unfold t_law
    exact (pss_cons (ps_for PassesOwn.never rfl (pi_rg1 (by rfl) M.range (pa_cons (pe_callB (call_max2A rfl) (by rfl) M.max (by decide +kernel) (pa_cons pe_int (pa_cons (pe_callB (call_min2A rfl) (by rfl) M.min (by decide +kernel) (pa_cons pe_int (pa_cons (pe_callB call_lenA (by rfl) M.len (by decide +kernel) (pa_cons (pv 0) pa_nil)) pa_nil))) pa_nil))) pa_nil)) (pg_name (i := 1) sc_law.nd rfl (by first | exact Or.inl rfl | exact Or.inr rfl))
    (pss_cons (ps_set (i := 2) sc_law.nd rfl (by first | exact Or.inl rfl | exact Or.inr rfl) (pe_callG G__law_purse hgu (hr.mono (by decide)) (by rfl) D__law_purse.g D__law_purse.F.kp D__law_purse.b pass0 (pa_cons (pv 0) (pa_cons (pv 1) pa_nil))))
    (pss_one (ps_for PassesOwn.never rfl (pi_rg1 (by rfl) M.range (pa_cons pe_int pa_nil)) (pg_name (i := 3) sc_law.nd rfl (by first | exact Or.inl rfl | exact Or.inr rfl))
    (pss_cons (ps_set (i := 4) sc_law.nd rfl (by first | exact Or.inl rfl | exact Or.inr rfl) (pe_op op_plus pe_int (pe_callG G__law_coin hgu (hr.mono (by decide)) (by rfl) D__law_coin.g D__law_coin.F.kp D__law_coin.b pass0 (pa_cons (pv 2) (pa_cons pe_int pa_nil)))))
    (pss_cons (ps_set (i := 5) sc_law.nd rfl (by first | exact Or.inl rfl | exact Or.inr rfl) (pe_ifExp (PW.pt (pw_and (pt_cmpR (op_eqU hr.units) (pv 1) pe_int (nomark _)) (pw_and1 (pt_cmpR (op_eqU hr.units) (pv 3) pe_int (nomark _))))) (pe_ix ix_seq (pe_lst (pa_cons pe_int (pa_cons pe_int (pa_cons pe_int pa_nil)))) (pe_op op_minus (pv 4) pe_int) (fun _ _ => rfl)) (pe_ix ix_seq (pe_lst (pa_cons pe_int (pa_cons pe_int (pa_cons pe_int pa_nil)))) (pe_op op_minus (pv 4) pe_int) (fun _ _ => rfl))))
    (pss_cons (ps_if (pt_not (pt_val (pe_callG G__law_rule_right hgu (hr.mono (by decide)) (by rfl) D__law_rule_right.g D__law_rule_right.F.kp D__law_rule_right.b pass0 (pa_cons (pe_callG G__law_rule hgu (hr.mono (by decide)) (by rfl) D__law_rule.g D__law_rule.F.kp D__law_rule.b pass0 (pa_cons (pv 2) (pa_cons (pv 4) (pa_cons (pv 5) pa_nil)))) pa_nil))))
    (pss_one (ps_ret pe_bl))
    pss_nil)
    (pss_one (ps_if (pt_not (pt_val (pe_callG G__law_ring_right hgu (hr.mono (by decide)) (by rfl) D__law_ring_right.g D__law_ring_right.F.kp D__law_ring_right.b pass0 (pa_cons (pv 4) (pa_cons (pe_callG G__law_ring hgu (hr.mono (by decide)) (by rfl) D__law_ring.g D__law_ring.F.kp D__law_ring.b pass0 (pa_cons (pv 2) (pa_cons (pv 4) (pa_cons (pe_ix ix_seq (pe_lst (pa_cons pe_int (pa_cons pe_int (pa_cons pe_int (pa_cons pe_int (pa_cons pe_int (pa_cons pe_int pa_nil))))))) (pv 3) (fun _ _ => rfl)) pa_nil)))) pa_nil)))))
    (pss_one (ps_ret pe_bl))
    pss_nil)))))))))
    (pss_cons (ps_set (i := 6) sc_law.nd rfl (by first | exact Or.inl rfl | exact Or.inr rfl) (pe_lst (pa_cons (pe_tup (pa_cons pe_str (pa_cons (pe_tup (pa_cons pe_int (pa_cons (pe_un un_negI pe_int) (pa_cons pe_int (pa_cons (pe_lst (pa_cons pe_int (pa_cons pe_int (pa_cons pe_int (pa_cons pe_int (pa_cons pe_int (pa_cons pe_int (pa_cons pe_int (pa_cons pe_int pa_nil))))))))) pa_nil))))) pa_nil))) (pa_cons (pe_tup (pa_cons pe_str (pa_cons (pe_tup (pa_cons pe_int (pa_cons pe_int (pa_cons pe_int (pa_cons (pe_lst (pa_cons pe_int (pa_cons pe_int (pa_cons pe_int (pa_cons pe_int pa_nil))))) pa_nil))))) pa_nil))) pa_nil))))
    (pss_cons (ps_set (i := 6) sc_law.nd rfl (by first | exact Or.inl rfl | exact Or.inr rfl) (pe_op op_plus (pv 6) (pe_lst (pa_cons (pe_tup (pa_cons pe_str (pa_cons (pe_tup (pa_cons pe_int (pa_cons pe_int (pa_cons pe_int (pa_cons (pe_lst (pa_cons pe_int (pa_cons pe_int pa_nil))) pa_nil))))) pa_nil))) (pa_cons (pe_tup (pa_cons pe_str (pa_cons (pe_tup (pa_cons pe_int (pa_cons (pe_un un_negI pe_int) (pa_cons pe_int (pa_cons (pe_op op_times (pe_lst (pa_cons pe_int pa_nil)) pe_int) pa_nil))))) pa_nil))) pa_nil)))))
    (pss_cons (ps_for PassesOwn.never rfl (pi_list (pv 6)) (pg_tup rfl (pgs_cons (pg_name (i := 7) sc_law.nd rfl (by first | exact Or.inl rfl | exact Or.inr rfl)) (pgs_cons (pg_name (i := 8) sc_law.nd rfl (by first | exact Or.inl rfl | exact Or.inr rfl)) pgs_nil)))
    (pss_one (ps_if (PW.pt (pw_or (pt_cmpR (op_neU hr.units) (pe_callG G_show_rule hgu (hr.mono (by decide)) (by rfl) D_show_rule.g D_show_rule.F.kp D_show_rule.b pass0 (pa_cons (pv 8) pa_nil)) (pv 7) (nomark _)) (pw_or1 (pt_cmpR (op_neU hr.units) (pe_callG G_read_rule hgu (hr.mono (by decide)) (by rfl) D_read_rule.g D_read_rule.F.kp D_read_rule.b pass0 (pa_cons (pv 7) pa_nil)) (pv 8) (nomark _)))))
    (pss_one (ps_ret pe_bl))
    pss_nil)))
    (pss_one (ps_ret (pe_cmpR (op_eqU hr.units) (pe_lst (pa_cons (pe_callG G_show_ring hgu (hr.mono (by decide)) (by rfl) D_show_ring.g D_show_ring.F.kp D_show_ring.b pass0 (pa_cons pe_int (pa_cons (pe_lst (pa_cons pe_int (pa_cons pe_int (pa_cons pe_int pa_nil)))) pa_nil))) (pa_cons (pe_callG G_read_ring hgu (hr.mono (by decide)) (by rfl) D_read_ring.g D_read_ring.F.kp D_read_ring.b pass0 (pa_cons pe_int (pa_cons pe_str pa_nil))) pa_nil))) (pe_lst (pa_cons pe_str (pa_cons (pe_lst (pa_cons pe_int (pa_cons pe_int (pa_cons pe_int pa_nil)))) pa_nil))) (nomark _))))))))
  · exact run_P (sp_of_law h) (ds_law K)
end
theorem all_mk {l : PySem.W.OpenLaw} {w : World} {K : PySem.W.Frag} {h : Heap} {mg : Str → Option Value} {fa : Addr} (X : K.In h) (G : h.Ns mainGlobals mg) (hfa : mg "law" = some (.ref fa))
    {f1 f2 f3 f4 f5 f6 f7 f8 f9 f10 f11 f12 f13 f14 f15 f16 f17 f18 f19 f20 f21 f22 f23 f24 f25 f26 f27 f28 f29 f30 f31 f32 f33 f34 : Addr}
    {od1 an1 od2 an2 od3 an3 od4 an4 od5 an5 od6 an6 od7 an7 od8 an8 od9 an9 od10 an10 od11 an11 od12 an12 od13 an13 od14 an14 od15 an15 od16 an16 od17 an17 od18 an18 od19 an19 od20 an20 od21 an21 od22 an22 od23 an23 od24 an24 od25 an25 od26 an26 od27 an27 od28 an28 od29 an29 od30 an30 od31 an31 od32 an32 od33 an33 od34 an34 : Option Addr}
    {sl1 sl2 sl3 sl4 sl5 sl6 sl7 sl8 sl9 sl10 sl11 sl12 sl13 sl14 sl15 sl16 sl17 sl18 sl19 sl20 sl21 sl22 sl23 sl24 sl25 sl26 sl27 sl28 sl29 sl30 sl31 sl32 sl33 sl34 : Array (Option Value)}
    {oc1 kV1 dc1 pm1 cd1 ct1 oc2 kV2 dc2 pm2 cd2 ct2 oc3 kV3 dc3 pm3 cd3 ct3 oc4 kV4 dc4 pm4 cd4 ct4 oc5 kV5 dc5 pm5 cd5 ct5 oc6 kV6 dc6 pm6 cd6 ct6 oc7 kV7 dc7 pm7 cd7 ct7 oc8 kV8 dc8 pm8 cd8 ct8 oc9 kV9 dc9 pm9 cd9 ct9 oc10 kV10 dc10 pm10 cd10 ct10 oc11 kV11 dc11 pm11 cd11 ct11 oc12 kV12 dc12 pm12 cd12 ct12 oc13 kV13 dc13 pm13 cd13 ct13 oc14 kV14 dc14 pm14 cd14 ct14 oc15 kV15 dc15 pm15 cd15 ct15 oc16 kV16 dc16 pm16 cd16 ct16 oc17 kV17 dc17 pm17 cd17 ct17 oc18 kV18 dc18 pm18 cd18 ct18 oc19 kV19 dc19 pm19 cd19 ct19 oc20 kV20 dc20 pm20 cd20 ct20 oc21 kV21 dc21 pm21 cd21 ct21 oc22 kV22 dc22 pm22 cd22 ct22 oc23 kV23 dc23 pm23 cd23 ct23 oc24 kV24 dc24 pm24 cd24 ct24 oc25 kV25 dc25 pm25 cd25 ct25 oc26 kV26 dc26 pm26 cd26 ct26 oc27 kV27 dc27 pm27 cd27 ct27 oc28 kV28 dc28 pm28 cd28 ct28 oc29 kV29 dc29 pm29 cd29 ct29 oc30 kV30 dc30 pm30 cd30 ct30 oc31 kV31 dc31 pm31 cd31 ct31 oc32 kV32 dc32 pm32 cd32 ct32 oc33 kV33 dc33 pm33 cd33 ct33 oc34 kV34 dc34 pm34 cd34 ct34 : Value}
    {t_CELL_LIMIT t_DIGITS t_DIGIT_LIMIT t_REACH t_WORD_LIMIT : Tok}
    (a1 : PySem.W.nsIn K mainGlobals "is_integer" = some (some (.ref f1))) (l1 : K.lookup f1 = some ⟨oc1, od1, .func (PySem.W.fnOf "is_integer" "is_integer" (defArgs s_is_integer) (defBody s_is_integer) (defScope s_is_integer) .none kV1 dc1 pm1 an1 cd1 ct1), sl1⟩) (c1 : PySem.W.codeIn K cd1 "is_integer" = true) (k1 : PySem.W.keepIn K (.ref f1) = true)
    (a2 : PySem.W.nsIn K mainGlobals "count_words" = some (some (.ref f2))) (l2 : K.lookup f2 = some ⟨oc2, od2, .func (PySem.W.fnOf "count_words" "count_words" (defArgs s_count_words) (defBody s_count_words) (defScope s_count_words) .none kV2 dc2 pm2 an2 cd2 ct2), sl2⟩) (c2 : PySem.W.codeIn K cd2 "count_words" = true) (k2 : PySem.W.keepIn K (.ref f2) = true)
    (a3 : PySem.W.nsIn K mainGlobals "is_reached" = some (some (.ref f3))) (l3 : K.lookup f3 = some ⟨oc3, od3, .func (PySem.W.fnOf "is_reached" "is_reached" (defArgs s_is_reached) (defBody s_is_reached) (defScope s_is_reached) .none kV3 dc3 pm3 an3 cd3 ct3), sl3⟩) (c3 : PySem.W.codeIn K cd3 "is_reached" = true) (k3 : PySem.W.keepIn K (.ref f3) = true)
    (a4 : PySem.W.nsIn K mainGlobals "is_number" = some (some (.ref f4))) (l4 : K.lookup f4 = some ⟨oc4, od4, .func (PySem.W.fnOf "is_number" "is_number" (defArgs s_is_number) (defBody s_is_number) (defScope s_is_number) .none kV4 dc4 pm4 an4 cd4 ct4), sl4⟩) (c4 : PySem.W.codeIn K cd4 "is_number" = true) (k4 : PySem.W.keepIn K (.ref f4) = true)
    (a5 : PySem.W.nsIn K mainGlobals "is_sign_count_word" = some (some (.ref f5))) (l5 : K.lookup f5 = some ⟨oc5, od5, .func (PySem.W.fnOf "is_sign_count_word" "is_sign_count_word" (defArgs s_is_sign_count_word) (defBody s_is_sign_count_word) (defScope s_is_sign_count_word) .none kV5 dc5 pm5 an5 cd5 ct5), sl5⟩) (c5 : PySem.W.codeIn K cd5 "is_sign_count_word" = true) (k5 : PySem.W.keepIn K (.ref f5) = true)
    (a6 : PySem.W.nsIn K mainGlobals "are_signs" = some (some (.ref f6))) (l6 : K.lookup f6 = some ⟨oc6, od6, .func (PySem.W.fnOf "are_signs" "are_signs" (defArgs s_are_signs) (defBody s_are_signs) (defScope s_are_signs) .none kV6 dc6 pm6 an6 cd6 ct6), sl6⟩) (c6 : PySem.W.codeIn K cd6 "are_signs" = true) (k6 : PySem.W.keepIn K (.ref f6) = true)
    (a7 : PySem.W.nsIn K mainGlobals "signs_in" = some (some (.ref f7))) (l7 : K.lookup f7 = some ⟨oc7, od7, .func (PySem.W.fnOf "signs_in" "signs_in" (defArgs s_signs_in) (defBody s_signs_in) (defScope s_signs_in) .none kV7 dc7 pm7 an7 cd7 ct7), sl7⟩) (c7 : PySem.W.codeIn K cd7 "signs_in" = true) (k7 : PySem.W.keepIn K (.ref f7) = true)
    (a8 : PySem.W.nsIn K mainGlobals "signs_text" = some (some (.ref f8))) (l8 : K.lookup f8 = some ⟨oc8, od8, .func (PySem.W.fnOf "signs_text" "signs_text" (defArgs s_signs_text) (defBody s_signs_text) (defScope s_signs_text) .none kV8 dc8 pm8 an8 cd8 ct8), sl8⟩) (c8 : PySem.W.codeIn K cd8 "signs_text" = true) (k8 : PySem.W.keepIn K (.ref f8) = true)
    (a9 : PySem.W.nsIn K mainGlobals "words_of" = some (some (.ref f9))) (l9 : K.lookup f9 = some ⟨oc9, od9, .func (PySem.W.fnOf "words_of" "words_of" (defArgs s_words_of) (defBody s_words_of) (defScope s_words_of) .none kV9 dc9 pm9 an9 cd9 ct9), sl9⟩) (c9 : PySem.W.codeIn K cd9 "words_of" = true) (k9 : PySem.W.keepIn K (.ref f9) = true)
    (a10 : PySem.W.nsIn K mainGlobals "span_of" = some (some (.ref f10))) (l10 : K.lookup f10 = some ⟨oc10, od10, .func (PySem.W.fnOf "span_of" "span_of" (defArgs s_span_of) (defBody s_span_of) (defScope s_span_of) .none kV10 dc10 pm10 an10 cd10 ct10), sl10⟩) (c10 : PySem.W.codeIn K cd10 "span_of" = true) (k10 : PySem.W.keepIn K (.ref f10) = true)
    (a11 : PySem.W.nsIn K mainGlobals "_law_purse" = some (some (.ref f11))) (l11 : K.lookup f11 = some ⟨oc11, od11, .func (PySem.W.fnOf "_law_purse" "_law_purse" (defArgs s__law_purse) (defBody s__law_purse) (defScope s__law_purse) .none kV11 dc11 pm11 an11 cd11 ct11), sl11⟩) (c11 : PySem.W.codeIn K cd11 "_law_purse" = true) (k11 : PySem.W.keepIn K (.ref f11) = true)
    (a12 : PySem.W.nsIn K mainGlobals "_law_coin" = some (some (.ref f12))) (l12 : K.lookup f12 = some ⟨oc12, od12, .func (PySem.W.fnOf "_law_coin" "_law_coin" (defArgs s__law_coin) (defBody s__law_coin) (defScope s__law_coin) .none kV12 dc12 pm12 an12 cd12 ct12), sl12⟩) (c12 : PySem.W.codeIn K cd12 "_law_coin" = true) (k12 : PySem.W.keepIn K (.ref f12) = true)
    (a13 : PySem.W.nsIn K mainGlobals "_law_power" = some (some (.ref f13))) (l13 : K.lookup f13 = some ⟨oc13, od13, .func (PySem.W.fnOf "_law_power" "_law_power" (defArgs s__law_power) (defBody s__law_power) (defScope s__law_power) .none kV13 dc13 pm13 an13 cd13 ct13), sl13⟩) (c13 : PySem.W.codeIn K cd13 "_law_power" = true) (k13 : PySem.W.keepIn K (.ref f13) = true)
    (a14 : PySem.W.nsIn K mainGlobals "_law_signs" = some (some (.ref f14))) (l14 : K.lookup f14 = some ⟨oc14, od14, .func (PySem.W.fnOf "_law_signs" "_law_signs" (defArgs s__law_signs) (defBody s__law_signs) (defScope s__law_signs) .none kV14 dc14 pm14 an14 cd14 ct14), sl14⟩) (c14 : PySem.W.codeIn K cd14 "_law_signs" = true) (k14 : PySem.W.keepIn K (.ref f14) = true)
    (a15 : PySem.W.nsIn K mainGlobals "is_sign_count" = some (some (.ref f15))) (l15 : K.lookup f15 = some ⟨oc15, od15, .func (PySem.W.fnOf "is_sign_count" "is_sign_count" (defArgs s_is_sign_count) (defBody s_is_sign_count) (defScope s_is_sign_count) .none kV15 dc15 pm15 an15 cd15 ct15), sl15⟩) (c15 : PySem.W.codeIn K cd15 "is_sign_count" = true) (k15 : PySem.W.keepIn K (.ref f15) = true)
    (a16 : PySem.W.nsIn K mainGlobals "is_integer_list" = some (some (.ref f16))) (l16 : K.lookup f16 = some ⟨oc16, od16, .func (PySem.W.fnOf "is_integer_list" "is_integer_list" (defArgs s_is_integer_list) (defBody s_is_integer_list) (defScope s_is_integer_list) .none kV16 dc16 pm16 an16 cd16 ct16), sl16⟩) (c16 : PySem.W.codeIn K cd16 "is_integer_list" = true) (k16 : PySem.W.keepIn K (.ref f16) = true)
    (a17 : PySem.W.nsIn K mainGlobals "stands_in_rule" = some (some (.ref f17))) (l17 : K.lookup f17 = some ⟨oc17, od17, .func (PySem.W.fnOf "stands_in_rule" "stands_in_rule" (defArgs s_stands_in_rule) (defBody s_stands_in_rule) (defScope s_stands_in_rule) .none kV17 dc17 pm17 an17 cd17 ct17), sl17⟩) (c17 : PySem.W.codeIn K cd17 "stands_in_rule" = true) (k17 : PySem.W.keepIn K (.ref f17) = true)
    (a18 : PySem.W.nsIn K mainGlobals "_law_table" = some (some (.ref f18))) (l18 : K.lookup f18 = some ⟨oc18, od18, .func (PySem.W.fnOf "_law_table" "_law_table" (defArgs s__law_table) (defBody s__law_table) (defScope s__law_table) .none kV18 dc18 pm18 an18 cd18 ct18), sl18⟩) (c18 : PySem.W.codeIn K cd18 "_law_table" = true) (k18 : PySem.W.keepIn K (.ref f18) = true)
    (a19 : PySem.W.nsIn K mainGlobals "_law_ring" = some (some (.ref f19))) (l19 : K.lookup f19 = some ⟨oc19, od19, .func (PySem.W.fnOf "_law_ring" "_law_ring" (defArgs s__law_ring) (defBody s__law_ring) (defScope s__law_ring) .none kV19 dc19 pm19 an19 cd19 ct19), sl19⟩) (c19 : PySem.W.codeIn K cd19 "_law_ring" = true) (k19 : PySem.W.keepIn K (.ref f19) = true)
    (a20 : PySem.W.nsIn K mainGlobals "is_word" = some (some (.ref f20))) (l20 : K.lookup f20 = some ⟨oc20, od20, .func (PySem.W.fnOf "is_word" "is_word" (defArgs s_is_word) (defBody s_is_word) (defScope s_is_word) .none kV20 dc20 pm20 an20 cd20 ct20), sl20⟩) (c20 : PySem.W.codeIn K cd20 "is_word" = true) (k20 : PySem.W.keepIn K (.ref f20) = true)
    (a21 : PySem.W.nsIn K mainGlobals "check_signs" = some (some (.ref f21))) (l21 : K.lookup f21 = some ⟨oc21, od21, .func (PySem.W.fnOf "check_signs" "check_signs" (defArgs s_check_signs) (defBody s_check_signs) (defScope s_check_signs) .none kV21 dc21 pm21 an21 cd21 ct21), sl21⟩) (c21 : PySem.W.codeIn K cd21 "check_signs" = true) (k21 : PySem.W.keepIn K (.ref f21) = true)
    (a22 : PySem.W.nsIn K mainGlobals "check_words" = some (some (.ref f22))) (l22 : K.lookup f22 = some ⟨oc22, od22, .func (PySem.W.fnOf "check_words" "check_words" (defArgs s_check_words) (defBody s_check_words) (defScope s_check_words) .none kV22 dc22 pm22 an22 cd22 ct22), sl22⟩) (c22 : PySem.W.codeIn K cd22 "check_words" = true) (k22 : PySem.W.keepIn K (.ref f22) = true)
    (a23 : PySem.W.nsIn K mainGlobals "_law_rule" = some (some (.ref f23))) (l23 : K.lookup f23 = some ⟨oc23, od23, .func (PySem.W.fnOf "_law_rule" "_law_rule" (defArgs s__law_rule) (defBody s__law_rule) (defScope s__law_rule) .none kV23 dc23 pm23 an23 cd23 ct23), sl23⟩) (c23 : PySem.W.codeIn K cd23 "_law_rule" = true) (k23 : PySem.W.keepIn K (.ref f23) = true)
    (a24 : PySem.W.nsIn K mainGlobals "is_rule" = some (some (.ref f24))) (l24 : K.lookup f24 = some ⟨oc24, od24, .func (PySem.W.fnOf "is_rule" "is_rule" (defArgs s_is_rule) (defBody s_is_rule) (defScope s_is_rule) .none kV24 dc24 pm24 an24 cd24 ct24), sl24⟩) (c24 : PySem.W.codeIn K cd24 "is_rule" = true) (k24 : PySem.W.keepIn K (.ref f24) = true)
    (a25 : PySem.W.nsIn K mainGlobals "is_ring" = some (some (.ref f25))) (l25 : K.lookup f25 = some ⟨oc25, od25, .func (PySem.W.fnOf "is_ring" "is_ring" (defArgs s_is_ring) (defBody s_is_ring) (defScope s_is_ring) .none kV25 dc25 pm25 an25 cd25 ct25), sl25⟩) (c25 : PySem.W.codeIn K cd25 "is_ring" = true) (k25 : PySem.W.keepIn K (.ref f25) = true)
    (a26 : PySem.W.nsIn K mainGlobals "check_rule" = some (some (.ref f26))) (l26 : K.lookup f26 = some ⟨oc26, od26, .func (PySem.W.fnOf "check_rule" "check_rule" (defArgs s_check_rule) (defBody s_check_rule) (defScope s_check_rule) .none kV26 dc26 pm26 an26 cd26 ct26), sl26⟩) (c26 : PySem.W.codeIn K cd26 "check_rule" = true) (k26 : PySem.W.keepIn K (.ref f26) = true)
    (a27 : PySem.W.nsIn K mainGlobals "check_ring" = some (some (.ref f27))) (l27 : K.lookup f27 = some ⟨oc27, od27, .func (PySem.W.fnOf "check_ring" "check_ring" (defArgs s_check_ring) (defBody s_check_ring) (defScope s_check_ring) .none kV27 dc27 pm27 an27 cd27 ct27), sl27⟩) (c27 : PySem.W.codeIn K cd27 "check_ring" = true) (k27 : PySem.W.keepIn K (.ref f27) = true)
    (a28 : PySem.W.nsIn K mainGlobals "read_rule" = some (some (.ref f28))) (l28 : K.lookup f28 = some ⟨oc28, od28, .func (PySem.W.fnOf "read_rule" "read_rule" (defArgs s_read_rule) (defBody s_read_rule) (defScope s_read_rule) .none kV28 dc28 pm28 an28 cd28 ct28), sl28⟩) (c28 : PySem.W.codeIn K cd28 "read_rule" = true) (k28 : PySem.W.keepIn K (.ref f28) = true)
    (a29 : PySem.W.nsIn K mainGlobals "read_ring" = some (some (.ref f29))) (l29 : K.lookup f29 = some ⟨oc29, od29, .func (PySem.W.fnOf "read_ring" "read_ring" (defArgs s_read_ring) (defBody s_read_ring) (defScope s_read_ring) .none kV29 dc29 pm29 an29 cd29 ct29), sl29⟩) (c29 : PySem.W.codeIn K cd29 "read_ring" = true) (k29 : PySem.W.keepIn K (.ref f29) = true)
    (a30 : PySem.W.nsIn K mainGlobals "show_rule" = some (some (.ref f30))) (l30 : K.lookup f30 = some ⟨oc30, od30, .func (PySem.W.fnOf "show_rule" "show_rule" (defArgs s_show_rule) (defBody s_show_rule) (defScope s_show_rule) .none kV30 dc30 pm30 an30 cd30 ct30), sl30⟩) (c30 : PySem.W.codeIn K cd30 "show_rule" = true) (k30 : PySem.W.keepIn K (.ref f30) = true)
    (a31 : PySem.W.nsIn K mainGlobals "show_ring" = some (some (.ref f31))) (l31 : K.lookup f31 = some ⟨oc31, od31, .func (PySem.W.fnOf "show_ring" "show_ring" (defArgs s_show_ring) (defBody s_show_ring) (defScope s_show_ring) .none kV31 dc31 pm31 an31 cd31 ct31), sl31⟩) (c31 : PySem.W.codeIn K cd31 "show_ring" = true) (k31 : PySem.W.keepIn K (.ref f31) = true)
    (a32 : PySem.W.nsIn K mainGlobals "_law_rule_right" = some (some (.ref f32))) (l32 : K.lookup f32 = some ⟨oc32, od32, .func (PySem.W.fnOf "_law_rule_right" "_law_rule_right" (defArgs s__law_rule_right) (defBody s__law_rule_right) (defScope s__law_rule_right) .none kV32 dc32 pm32 an32 cd32 ct32), sl32⟩) (c32 : PySem.W.codeIn K cd32 "_law_rule_right" = true) (k32 : PySem.W.keepIn K (.ref f32) = true)
    (a33 : PySem.W.nsIn K mainGlobals "_law_ring_right" = some (some (.ref f33))) (l33 : K.lookup f33 = some ⟨oc33, od33, .func (PySem.W.fnOf "_law_ring_right" "_law_ring_right" (defArgs s__law_ring_right) (defBody s__law_ring_right) (defScope s__law_ring_right) .none kV33 dc33 pm33 an33 cd33 ct33), sl33⟩) (c33 : PySem.W.codeIn K cd33 "_law_ring_right" = true) (k33 : PySem.W.keepIn K (.ref f33) = true)
    (a34 : PySem.W.nsIn K mainGlobals "law" = some (some (.ref f34))) (l34 : K.lookup f34 = some ⟨oc34, od34, .func (PySem.W.fnOf "law" "law" (defArgs s_law) (defBody s_law) (defScope s_law) .none kV34 dc34 pm34 an34 cd34 ct34), sl34⟩) (c34 : PySem.W.codeIn K cd34 "law" = true) (k34 : PySem.W.keepIn K (.ref f34) = true)
    (z_abs : PySem.W.nsIn K mainGlobals "abs" = some none)
    (z_all : PySem.W.nsIn K mainGlobals "all" = some none)
    (z_bool : PySem.W.nsIn K mainGlobals "bool" = some none)
    (z_int : PySem.W.nsIn K mainGlobals "int" = some none)
    (z_isinstance : PySem.W.nsIn K mainGlobals "isinstance" = some none)
    (z_len : PySem.W.nsIn K mainGlobals "len" = some none)
    (z_list : PySem.W.nsIn K mainGlobals "list" = some none)
    (z_max : PySem.W.nsIn K mainGlobals "max" = some none)
    (z_min : PySem.W.nsIn K mainGlobals "min" = some none)
    (z_range : PySem.W.nsIn K mainGlobals "range" = some none)
    (z_repr : PySem.W.nsIn K mainGlobals "repr" = some none)
    (z_str : PySem.W.nsIn K mainGlobals "str" = some none)
    (z_sum : PySem.W.nsIn K mainGlobals "sum" = some none)
    (z_tuple : PySem.W.nsIn K mainGlobals "tuple" = some none)
    (z_type : PySem.W.nsIn K mainGlobals "type" = some none)
    (y_CELL_LIMIT : PySem.W.nsIn K mainGlobals "CELL_LIMIT" = some (some (.int 512 t_CELL_LIMIT)))
    (y_DIGITS : PySem.W.nsIn K mainGlobals "DIGITS" = some (some (.str "0123456789" t_DIGITS)))
    (y_DIGIT_LIMIT : PySem.W.nsIn K mainGlobals "DIGIT_LIMIT" = some (some (.int 40 t_DIGIT_LIMIT)))
    (y_REACH : PySem.W.nsIn K mainGlobals "REACH" = some (some (.int 100 t_REACH)))
    (y_WORD_LIMIT : PySem.W.nsIn K mainGlobals "WORD_LIMIT" = some (some (.int 1024 t_WORD_LIMIT)))
    : ∃ fd : FuncData, (∀ (s : Shared) (u : Value), BindsTo s fd ⟨[u], []⟩ [("script", u)]) ∧ ∀ base : Heap, K.In base → base.Ns mainGlobals mg → FnG l.prog w K mg base CX0 8 fa fd ["script"] (spLaw K) := by
  have e := hfa.symm.trans (PySem.W.mg_of X G a34)
  cases e
  have M : Ms mg := ⟨PySem.W.mg_none_of X G z_abs, PySem.W.mg_none_of X G z_all, PySem.W.mg_none_of X G z_bool, PySem.W.mg_none_of X G z_int, PySem.W.mg_none_of X G z_isinstance, PySem.W.mg_none_of X G z_len, PySem.W.mg_none_of X G z_list, PySem.W.mg_none_of X G z_max, PySem.W.mg_none_of X G z_min, PySem.W.mg_none_of X G z_range, PySem.W.mg_none_of X G z_repr, PySem.W.mg_none_of X G z_str, PySem.W.mg_none_of X G z_sum, PySem.W.mg_none_of X G z_tuple, PySem.W.mg_none_of X G z_type⟩
  have Cc : CsL mg t_CELL_LIMIT t_DIGITS t_DIGIT_LIMIT t_REACH t_WORD_LIMIT := ⟨PySem.W.mg_of X G y_CELL_LIMIT, PySem.W.mg_of X G y_DIGITS, PySem.W.mg_of X G y_DIGIT_LIMIT, PySem.W.mg_of X G y_REACH, PySem.W.mg_of X G y_WORD_LIMIT⟩
  have F1 := fun_mk (st := s_is_integer) l1 c1 k1
  have D_is_integer : Dn K mg "is_integer" s_is_integer ["value"] f1 (PySem.W.fnOf "is_integer" "is_integer" (defArgs s_is_integer) (defBody s_is_integer) (defScope s_is_integer) .none kV1 dc1 pm1 an1 cd1 ct1) := ⟨F1, PySem.W.mg_of X G a1, F1.binds (ps := ["value"]) fun _ _ _ _ _ _ us hl => match us, hl with | [_], _ => rfl⟩
  have F2 := fun_mk (st := s_count_words) l2 c2 k2
  have D_count_words : Dn K mg "count_words" s_count_words ["signs", "length", "limit"] f2 (PySem.W.fnOf "count_words" "count_words" (defArgs s_count_words) (defBody s_count_words) (defScope s_count_words) .none kV2 dc2 pm2 an2 cd2 ct2) := ⟨F2, PySem.W.mg_of X G a2, F2.binds (ps := ["signs", "length", "limit"]) fun _ _ _ _ _ _ us hl => match us, hl with | [_, _, _], _ => rfl⟩
  have F3 := fun_mk (st := s_is_reached) l3 c3 k3
  have D_is_reached : Dn K mg "is_reached" s_is_reached ["first", "width"] f3 (PySem.W.fnOf "is_reached" "is_reached" (defArgs s_is_reached) (defBody s_is_reached) (defScope s_is_reached) .none kV3 dc3 pm3 an3 cd3 ct3) := ⟨F3, PySem.W.mg_of X G a3, F3.binds (ps := ["first", "width"]) fun _ _ _ _ _ _ us hl => match us, hl with | [_, _], _ => rfl⟩
  have F4 := fun_mk (st := s_is_number) l4 c4 k4
  have D_is_number : Dn K mg "is_number" s_is_number ["word"] f4 (PySem.W.fnOf "is_number" "is_number" (defArgs s_is_number) (defBody s_is_number) (defScope s_is_number) .none kV4 dc4 pm4 an4 cd4 ct4) := ⟨F4, PySem.W.mg_of X G a4, F4.binds (ps := ["word"]) fun _ _ _ _ _ _ us hl => match us, hl with | [_], _ => rfl⟩
  have F5 := fun_mk (st := s_is_sign_count_word) l5 c5 k5
  have D_is_sign_count_word : Dn K mg "is_sign_count_word" s_is_sign_count_word ["word"] f5 (PySem.W.fnOf "is_sign_count_word" "is_sign_count_word" (defArgs s_is_sign_count_word) (defBody s_is_sign_count_word) (defScope s_is_sign_count_word) .none kV5 dc5 pm5 an5 cd5 ct5) := ⟨F5, PySem.W.mg_of X G a5, F5.binds (ps := ["word"]) fun _ _ _ _ _ _ us hl => match us, hl with | [_], _ => rfl⟩
  have F6 := fun_mk (st := s_are_signs) l6 c6 k6
  have D_are_signs : Dn K mg "are_signs" s_are_signs ["signs", "word"] f6 (PySem.W.fnOf "are_signs" "are_signs" (defArgs s_are_signs) (defBody s_are_signs) (defScope s_are_signs) .none kV6 dc6 pm6 an6 cd6 ct6) := ⟨F6, PySem.W.mg_of X G a6, F6.binds (ps := ["signs", "word"]) fun _ _ _ _ _ _ us hl => match us, hl with | [_, _], _ => rfl⟩
  have F7 := fun_mk (st := s_signs_in) l7 c7 k7
  have D_signs_in : Dn K mg "signs_in" s_signs_in ["word"] f7 (PySem.W.fnOf "signs_in" "signs_in" (defArgs s_signs_in) (defBody s_signs_in) (defScope s_signs_in) .none kV7 dc7 pm7 an7 cd7 ct7) := ⟨F7, PySem.W.mg_of X G a7, F7.binds (ps := ["word"]) fun _ _ _ _ _ _ us hl => match us, hl with | [_], _ => rfl⟩
  have F8 := fun_mk (st := s_signs_text) l8 c8 k8
  have D_signs_text : Dn K mg "signs_text" s_signs_text ["items"] f8 (PySem.W.fnOf "signs_text" "signs_text" (defArgs s_signs_text) (defBody s_signs_text) (defScope s_signs_text) .none kV8 dc8 pm8 an8 cd8 ct8) := ⟨F8, PySem.W.mg_of X G a8, F8.binds (ps := ["items"]) fun _ _ _ _ _ _ us hl => match us, hl with | [_], _ => rfl⟩
  have F9 := fun_mk (st := s_words_of) l9 c9 k9
  have D_words_of : Dn K mg "words_of" s_words_of ["text"] f9 (PySem.W.fnOf "words_of" "words_of" (defArgs s_words_of) (defBody s_words_of) (defScope s_words_of) .none kV9 dc9 pm9 an9 cd9 ct9) := ⟨F9, PySem.W.mg_of X G a9, F9.binds (ps := ["text"]) fun _ _ _ _ _ _ us hl => match us, hl with | [_], _ => rfl⟩
  have F10 := fun_mk (st := s_span_of) l10 c10 k10
  have D_span_of : Dn K mg "span_of" s_span_of ["signs", "many"] f10 (PySem.W.fnOf "span_of" "span_of" (defArgs s_span_of) (defBody s_span_of) (defScope s_span_of) .none kV10 dc10 pm10 an10 cd10 ct10) := ⟨F10, PySem.W.mg_of X G a10, F10.binds (ps := ["signs", "many"]) fun _ _ _ _ _ _ us hl => match us, hl with | [_, _], _ => rfl⟩
  have F11 := fun_mk (st := s__law_purse) l11 c11 k11
  have D__law_purse : Dn K mg "_law_purse" s__law_purse ["script", "k"] f11 (PySem.W.fnOf "_law_purse" "_law_purse" (defArgs s__law_purse) (defBody s__law_purse) (defScope s__law_purse) .none kV11 dc11 pm11 an11 cd11 ct11) := ⟨F11, PySem.W.mg_of X G a11, F11.binds (ps := ["script", "k"]) fun _ _ _ _ _ _ us hl => match us, hl with | [_, _], _ => rfl⟩
  have F12 := fun_mk (st := s__law_coin) l12 c12 k12
  have D__law_coin : Dn K mg "_law_coin" s__law_coin ["purse", "many"] f12 (PySem.W.fnOf "_law_coin" "_law_coin" (defArgs s__law_coin) (defBody s__law_coin) (defScope s__law_coin) .none kV12 dc12 pm12 an12 cd12 ct12) := ⟨F12, PySem.W.mg_of X G a12, F12.binds (ps := ["purse", "many"]) fun _ _ _ _ _ _ us hl => match us, hl with | [_, _], _ => rfl⟩
  have F13 := fun_mk (st := s__law_power) l13 c13 k13
  have D__law_power : Dn K mg "_law_power" s__law_power ["base", "many"] f13 (PySem.W.fnOf "_law_power" "_law_power" (defArgs s__law_power) (defBody s__law_power) (defScope s__law_power) .none kV13 dc13 pm13 an13 cd13 ct13) := ⟨F13, PySem.W.mg_of X G a13, F13.binds (ps := ["base", "many"]) fun _ _ _ _ _ _ us hl => match us, hl with | [_, _], _ => rfl⟩
  have F14 := fun_mk (st := s__law_signs) l14 c14 k14
  have D__law_signs : Dn K mg "_law_signs" s__law_signs ["row"] f14 (PySem.W.fnOf "_law_signs" "_law_signs" (defArgs s__law_signs) (defBody s__law_signs) (defScope s__law_signs) .none kV14 dc14 pm14 an14 cd14 ct14) := ⟨F14, PySem.W.mg_of X G a14, F14.binds (ps := ["row"]) fun _ _ _ _ _ _ us hl => match us, hl with | [_], _ => rfl⟩
  have F15 := fun_mk (st := s_is_sign_count) l15 c15 k15
  have D_is_sign_count : Dn K mg "is_sign_count" s_is_sign_count ["value"] f15 (PySem.W.fnOf "is_sign_count" "is_sign_count" (defArgs s_is_sign_count) (defBody s_is_sign_count) (defScope s_is_sign_count) .none kV15 dc15 pm15 an15 cd15 ct15) := ⟨F15, PySem.W.mg_of X G a15, F15.binds (ps := ["value"]) fun _ _ _ _ _ _ us hl => match us, hl with | [_], _ => rfl⟩
  have F16 := fun_mk (st := s_is_integer_list) l16 c16 k16
  have D_is_integer_list : Dn K mg "is_integer_list" s_is_integer_list ["value"] f16 (PySem.W.fnOf "is_integer_list" "is_integer_list" (defArgs s_is_integer_list) (defBody s_is_integer_list) (defScope s_is_integer_list) .none kV16 dc16 pm16 an16 cd16 ct16) := ⟨F16, PySem.W.mg_of X G a16, F16.binds (ps := ["value"]) fun _ _ _ _ _ _ us hl => match us, hl with | [_], _ => rfl⟩
  have F17 := fun_mk (st := s_stands_in_rule) l17 c17 k17
  have D_stands_in_rule : Dn K mg "stands_in_rule" s_stands_in_rule ["words", "place"] f17 (PySem.W.fnOf "stands_in_rule" "stands_in_rule" (defArgs s_stands_in_rule) (defBody s_stands_in_rule) (defScope s_stands_in_rule) .none kV17 dc17 pm17 an17 cd17 ct17) := ⟨F17, PySem.W.mg_of X G a17, F17.binds (ps := ["words", "place"]) fun _ _ _ _ _ _ us hl => match us, hl with | [_, _], _ => rfl⟩
  have F18 := fun_mk (st := s__law_table) l18 c18 k18
  have D__law_table : Dn K mg "_law_table" s__law_table ["purse", "signs_here", "width_here"] f18 (PySem.W.fnOf "_law_table" "_law_table" (defArgs s__law_table) (defBody s__law_table) (defScope s__law_table) .none kV18 dc18 pm18 an18 cd18 ct18) := ⟨F18, PySem.W.mg_of X G a18, F18.binds (ps := ["purse", "signs_here", "width_here"]) fun _ _ _ _ _ _ us hl => match us, hl with | [_, _, _], _ => rfl⟩
  have F19 := fun_mk (st := s__law_ring) l19 c19 k19
  have D__law_ring : Dn K mg "_law_ring" s__law_ring ["purse", "signs_here", "size"] f19 (PySem.W.fnOf "_law_ring" "_law_ring" (defArgs s__law_ring) (defBody s__law_ring) (defScope s__law_ring) .none kV19 dc19 pm19 an19 cd19 ct19) := ⟨F19, PySem.W.mg_of X G a19, F19.binds (ps := ["purse", "signs_here", "size"]) fun _ _ _ _ _ _ us hl => match us, hl with | [_, _, _], _ => rfl⟩
  have F20 := fun_mk (st := s_is_word) l20 c20 k20
  have D_is_word : Dn K mg "is_word" s_is_word ["signs", "value"] f20 (PySem.W.fnOf "is_word" "is_word" (defArgs s_is_word) (defBody s_is_word) (defScope s_is_word) .none kV20 dc20 pm20 an20 cd20 ct20) := ⟨F20, PySem.W.mg_of X G a20, F20.binds (ps := ["signs", "value"]) fun _ _ _ _ _ _ us hl => match us, hl with | [_, _], _ => rfl⟩
  have F21 := fun_mk (st := s_check_signs) l21 c21 k21
  have D_check_signs : Dn K mg "check_signs" s_check_signs ["value"] f21 (PySem.W.fnOf "check_signs" "check_signs" (defArgs s_check_signs) (defBody s_check_signs) (defScope s_check_signs) .none kV21 dc21 pm21 an21 cd21 ct21) := ⟨F21, PySem.W.mg_of X G a21, F21.binds (ps := ["value"]) fun _ _ _ _ _ _ us hl => match us, hl with | [_], _ => rfl⟩
  have F22 := fun_mk (st := s_check_words) l22 c22 k22
  have D_check_words : Dn K mg "check_words" s_check_words ["words", "can_stand"] f22 (PySem.W.fnOf "check_words" "check_words" (defArgs s_check_words) (defBody s_check_words) (defScope s_check_words) .none kV22 dc22 pm22 an22 cd22 ct22) := ⟨F22, PySem.W.mg_of X G a22, F22.binds (ps := ["words", "can_stand"]) fun _ _ _ _ _ _ us hl => match us, hl with | [_, _], _ => rfl⟩
  have F23 := fun_mk (st := s__law_rule) l23 c23 k23
  have D__law_rule : Dn K mg "_law_rule" s__law_rule ["purse", "signs_here", "wide"] f23 (PySem.W.fnOf "_law_rule" "_law_rule" (defArgs s__law_rule) (defBody s__law_rule) (defScope s__law_rule) .none kV23 dc23 pm23 an23 cd23 ct23) := ⟨F23, PySem.W.mg_of X G a23, F23.binds (ps := ["purse", "signs_here", "wide"]) fun _ _ _ _ _ _ us hl => match us, hl with | [_, _, _], _ => rfl⟩
  have F24 := fun_mk (st := s_is_rule) l24 c24 k24
  have D_is_rule : Dn K mg "is_rule" s_is_rule ["value"] f24 (PySem.W.fnOf "is_rule" "is_rule" (defArgs s_is_rule) (defBody s_is_rule) (defScope s_is_rule) .none kV24 dc24 pm24 an24 cd24 ct24) := ⟨F24, PySem.W.mg_of X G a24, F24.binds (ps := ["value"]) fun _ _ _ _ _ _ us hl => match us, hl with | [_], _ => rfl⟩
  have F25 := fun_mk (st := s_is_ring) l25 c25 k25
  have D_is_ring : Dn K mg "is_ring" s_is_ring ["signs", "value"] f25 (PySem.W.fnOf "is_ring" "is_ring" (defArgs s_is_ring) (defBody s_is_ring) (defScope s_is_ring) .none kV25 dc25 pm25 an25 cd25 ct25) := ⟨F25, PySem.W.mg_of X G a25, F25.binds (ps := ["signs", "value"]) fun _ _ _ _ _ _ us hl => match us, hl with | [_, _], _ => rfl⟩
  have F26 := fun_mk (st := s_check_rule) l26 c26 k26
  have D_check_rule : Dn K mg "check_rule" s_check_rule ["value"] f26 (PySem.W.fnOf "check_rule" "check_rule" (defArgs s_check_rule) (defBody s_check_rule) (defScope s_check_rule) .none kV26 dc26 pm26 an26 cd26 ct26) := ⟨F26, PySem.W.mg_of X G a26, F26.binds (ps := ["value"]) fun _ _ _ _ _ _ us hl => match us, hl with | [_], _ => rfl⟩
  have F27 := fun_mk (st := s_check_ring) l27 c27 k27
  have D_check_ring : Dn K mg "check_ring" s_check_ring ["signs", "value"] f27 (PySem.W.fnOf "check_ring" "check_ring" (defArgs s_check_ring) (defBody s_check_ring) (defScope s_check_ring) .none kV27 dc27 pm27 an27 cd27 ct27) := ⟨F27, PySem.W.mg_of X G a27, F27.binds (ps := ["signs", "value"]) fun _ _ _ _ _ _ us hl => match us, hl with | [_, _], _ => rfl⟩
  have F28 := fun_mk (st := s_read_rule) l28 c28 k28
  have D_read_rule : Dn K mg "read_rule" s_read_rule ["text"] f28 (PySem.W.fnOf "read_rule" "read_rule" (defArgs s_read_rule) (defBody s_read_rule) (defScope s_read_rule) .none kV28 dc28 pm28 an28 cd28 ct28) := ⟨F28, PySem.W.mg_of X G a28, F28.binds (ps := ["text"]) fun _ _ _ _ _ _ us hl => match us, hl with | [_], _ => rfl⟩
  have F29 := fun_mk (st := s_read_ring) l29 c29 k29
  have D_read_ring : Dn K mg "read_ring" s_read_ring ["signs", "text"] f29 (PySem.W.fnOf "read_ring" "read_ring" (defArgs s_read_ring) (defBody s_read_ring) (defScope s_read_ring) .none kV29 dc29 pm29 an29 cd29 ct29) := ⟨F29, PySem.W.mg_of X G a29, F29.binds (ps := ["signs", "text"]) fun _ _ _ _ _ _ us hl => match us, hl with | [_, _], _ => rfl⟩
  have F30 := fun_mk (st := s_show_rule) l30 c30 k30
  have D_show_rule : Dn K mg "show_rule" s_show_rule ["rule"] f30 (PySem.W.fnOf "show_rule" "show_rule" (defArgs s_show_rule) (defBody s_show_rule) (defScope s_show_rule) .none kV30 dc30 pm30 an30 cd30 ct30) := ⟨F30, PySem.W.mg_of X G a30, F30.binds (ps := ["rule"]) fun _ _ _ _ _ _ us hl => match us, hl with | [_], _ => rfl⟩
  have F31 := fun_mk (st := s_show_ring) l31 c31 k31
  have D_show_ring : Dn K mg "show_ring" s_show_ring ["signs", "ring"] f31 (PySem.W.fnOf "show_ring" "show_ring" (defArgs s_show_ring) (defBody s_show_ring) (defScope s_show_ring) .none kV31 dc31 pm31 an31 cd31 ct31) := ⟨F31, PySem.W.mg_of X G a31, F31.binds (ps := ["signs", "ring"]) fun _ _ _ _ _ _ us hl => match us, hl with | [_, _], _ => rfl⟩
  have F32 := fun_mk (st := s__law_rule_right) l32 c32 k32
  have D__law_rule_right : Dn K mg "_law_rule_right" s__law_rule_right ["rule_here"] f32 (PySem.W.fnOf "_law_rule_right" "_law_rule_right" (defArgs s__law_rule_right) (defBody s__law_rule_right) (defScope s__law_rule_right) .none kV32 dc32 pm32 an32 cd32 ct32) := ⟨F32, PySem.W.mg_of X G a32, F32.binds (ps := ["rule_here"]) fun _ _ _ _ _ _ us hl => match us, hl with | [_], _ => rfl⟩
  have F33 := fun_mk (st := s__law_ring_right) l33 c33 k33
  have D__law_ring_right : Dn K mg "_law_ring_right" s__law_ring_right ["signs_here", "ring_here"] f33 (PySem.W.fnOf "_law_ring_right" "_law_ring_right" (defArgs s__law_ring_right) (defBody s__law_ring_right) (defScope s__law_ring_right) .none kV33 dc33 pm33 an33 cd33 ct33) := ⟨F33, PySem.W.mg_of X G a33, F33.binds (ps := ["signs_here", "ring_here"]) fun _ _ _ _ _ _ us hl => match us, hl with | [_, _], _ => rfl⟩
  have F34 := fun_mk (st := s_law) l34 c34 k34
  have D_law : Dn K mg "law" s_law ["script"] fa (PySem.W.fnOf "law" "law" (defArgs s_law) (defBody s_law) (defScope s_law) .none kV34 dc34 pm34 an34 cd34 ct34) := ⟨F34, PySem.W.mg_of X G a34, F34.binds (ps := ["script"]) fun _ _ _ _ _ _ us hl => match us, hl with | [_], _ => rfl⟩
  refine ⟨PySem.W.fnOf "law" "law" (defArgs s_law) (defBody s_law) (defScope s_law) .none kV34 dc34 pm34 an34 cd34 ct34, fun s v => .of_eq rfl, fun base _ _ => ?_⟩
  have G_is_integer := ok_is_integer (P := l.prog) (w := w) (base := base) D_is_integer  M Cc
  have G_count_words := ok_count_words (P := l.prog) (w := w) (base := base) D_count_words  M Cc
  have G_is_reached := ok_is_reached (P := l.prog) (w := w) (base := base) D_is_reached  M Cc
  have G_is_number := ok_is_number (P := l.prog) (w := w) (base := base) D_is_number  M Cc
  have G_is_sign_count_word := ok_is_sign_count_word (P := l.prog) (w := w) (base := base) D_is_sign_count_word  M Cc
  have G_are_signs := ok_are_signs (P := l.prog) (w := w) (base := base) D_are_signs  M Cc
  have G_signs_in := ok_signs_in (P := l.prog) (w := w) (base := base) D_signs_in  M Cc
  have G_signs_text := ok_signs_text (P := l.prog) (w := w) (base := base) D_signs_text  M Cc
  have G_words_of := ok_words_of (P := l.prog) (w := w) (base := base) D_words_of  M Cc
  have G_span_of := ok_span_of (P := l.prog) (w := w) (base := base) D_span_of  M Cc
  have G__law_purse := ok__law_purse (P := l.prog) (w := w) (base := base) D__law_purse  M Cc
  have G__law_coin := ok__law_coin (P := l.prog) (w := w) (base := base) D__law_coin  M Cc
  have G__law_power := ok__law_power (P := l.prog) (w := w) (base := base) D__law_power  M Cc
  have G__law_signs := ok__law_signs (P := l.prog) (w := w) (base := base) D__law_signs  M Cc
  have G_is_sign_count := ok_is_sign_count (P := l.prog) (w := w) (base := base) D_is_sign_count D_is_integer G_is_integer M Cc
  have G_is_integer_list := ok_is_integer_list (P := l.prog) (w := w) (base := base) D_is_integer_list D_is_integer G_is_integer M Cc
  have G_stands_in_rule := ok_stands_in_rule (P := l.prog) (w := w) (base := base) D_stands_in_rule D_is_number G_is_number D_is_sign_count_word G_is_sign_count_word D_are_signs G_are_signs M Cc
  have G__law_table := ok__law_table (P := l.prog) (w := w) (base := base) D__law_table D__law_coin G__law_coin D__law_power G__law_power M Cc
  have G__law_ring := ok__law_ring (P := l.prog) (w := w) (base := base) D__law_ring D__law_coin G__law_coin M Cc
  have G_is_word := ok_is_word (P := l.prog) (w := w) (base := base) D_is_word D_is_integer_list G_is_integer_list M Cc
  have G_check_signs := ok_check_signs (P := l.prog) (w := w) (base := base) D_check_signs D_is_sign_count G_is_sign_count M Cc
  have G_check_words := ok_check_words (P := l.prog) (w := w) (base := base) D_check_words D_stands_in_rule G_stands_in_rule M Cc
  have G__law_rule := ok__law_rule (P := l.prog) (w := w) (base := base) D__law_rule D__law_coin G__law_coin D__law_table G__law_table M Cc
  have G_is_rule := ok_is_rule (P := l.prog) (w := w) (base := base) D_is_rule D_is_integer G_is_integer D_count_words G_count_words D_is_reached G_is_reached D_is_sign_count G_is_sign_count D_is_word G_is_word M Cc
  have G_is_ring := ok_is_ring (P := l.prog) (w := w) (base := base) D_is_ring D_is_word G_is_word D_check_signs G_check_signs M Cc
  have G_check_rule := ok_check_rule (P := l.prog) (w := w) (base := base) D_check_rule D_is_rule G_is_rule M Cc
  have G_check_ring := ok_check_ring (P := l.prog) (w := w) (base := base) D_check_ring D_is_ring G_is_ring M Cc
  have G_read_rule := ok_read_rule (P := l.prog) (w := w) (base := base) D_read_rule D_signs_in G_signs_in D_words_of G_words_of D_span_of G_span_of D_stands_in_rule G_stands_in_rule D_check_words G_check_words D_is_rule G_is_rule M Cc
  have G_read_ring := ok_read_ring (P := l.prog) (w := w) (base := base) D_read_ring D_are_signs G_are_signs D_signs_in G_signs_in D_words_of G_words_of D_check_signs G_check_signs D_is_ring G_is_ring M Cc
  have G_show_rule := ok_show_rule (P := l.prog) (w := w) (base := base) D_show_rule D_signs_text G_signs_text D_check_rule G_check_rule M Cc
  have G_show_ring := ok_show_ring (P := l.prog) (w := w) (base := base) D_show_ring D_signs_text G_signs_text D_check_ring G_check_ring M Cc
  have G__law_rule_right := ok__law_rule_right (P := l.prog) (w := w) (base := base) D__law_rule_right D__law_signs G__law_signs D_read_rule G_read_rule D_show_rule G_show_rule M Cc
  have G__law_ring_right := ok__law_ring_right (P := l.prog) (w := w) (base := base) D__law_ring_right D__law_signs G__law_signs D_read_ring G_read_ring D_show_ring G_show_ring M Cc
  have G_law := ok_law (P := l.prog) (w := w) (base := base) D_law D__law_purse G__law_purse D__law_coin G__law_coin D__law_ring G__law_ring D__law_rule G__law_rule D_read_rule G_read_rule D_read_ring G_read_ring D_show_rule G_show_rule D_show_ring G_show_ring D__law_rule_right G__law_rule_right D__law_ring_right G__law_ring_right M Cc
  exact G_law
end Cg
open PySem PySem.W PyProof.Rows
set_option maxHeartbeats 0 in
theorem PySem.Challenge.cw_cellflows_k50_texts_of_rules_and_rings_holds : PySem.Challenge.rw_cellflows_k50_texts_of_rules_and_rings.Holds := by
  w_on; o_law; k_head; (case hw => w_witness2)
  k_fill
  refine Cf.walk_G (l := PySem.Challenge.rw_cellflows_k50_texts_of_rules_and_rings) (k := 8) (x := "script") rfl (by decide) ⟨rfl, by decide, by decide⟩ (fun w h Y => PySem.W.kIn_of Y) ?F
  case F =>
    intro w mg fa h KX G hmg
    refine' Cg.all_mk KX G hmg ?a1 ?l1 ?c1 ?k1 ?a2 ?l2 ?c2 ?k2 ?a3 ?l3 ?c3 ?k3 ?a4 ?l4 ?c4 ?k4 ?a5 ?l5 ?c5 ?k5 ?a6 ?l6 ?c6 ?k6 ?a7 ?l7 ?c7 ?k7 ?a8 ?l8 ?c8 ?k8 ?a9 ?l9 ?c9 ?k9 ?a10 ?l10 ?c10 ?k10 ?a11 ?l11 ?c11 ?k11 ?a12 ?l12 ?c12 ?k12 ?a13 ?l13 ?c13 ?k13 ?a14 ?l14 ?c14 ?k14 ?a15 ?l15 ?c15 ?k15 ?a16 ?l16 ?c16 ?k16 ?a17 ?l17 ?c17 ?k17 ?a18 ?l18 ?c18 ?k18 ?a19 ?l19 ?c19 ?k19 ?a20 ?l20 ?c20 ?k20 ?a21 ?l21 ?c21 ?k21 ?a22 ?l22 ?c22 ?k22 ?a23 ?l23 ?c23 ?k23 ?a24 ?l24 ?c24 ?k24 ?a25 ?l25 ?c25 ?k25 ?a26 ?l26 ?c26 ?k26 ?a27 ?l27 ?c27 ?k27 ?a28 ?l28 ?c28 ?k28 ?a29 ?l29 ?c29 ?k29 ?a30 ?l30 ?c30 ?k30 ?a31 ?l31 ?c31 ?k31 ?a32 ?l32 ?c32 ?k32 ?a33 ?l33 ?c33 ?k33 ?a34 ?l34 ?c34 ?k34 ?z_abs ?z_all ?z_bool ?z_int ?z_isinstance ?z_len ?z_list ?z_max ?z_min ?z_range ?z_repr ?z_str ?z_sum ?z_tuple ?z_type ?y_CELL_LIMIT ?y_DIGITS ?y_DIGIT_LIMIT ?y_REACH ?y_WORD_LIMIT
    (case a1 => k_is)
    (case l1 => k_is)
    (case c1 => k_is)
    (case k1 => k_is)
    (case a2 => k_is)
    (case l2 => k_is)
    (case c2 => k_is)
    (case k2 => k_is)
    (case a3 => k_is)
    (case l3 => k_is)
    (case c3 => k_is)
    (case k3 => k_is)
    (case a4 => k_is)
    (case l4 => k_is)
    (case c4 => k_is)
    (case k4 => k_is)
    (case a5 => k_is)
    (case l5 => k_is)
    (case c5 => k_is)
    (case k5 => k_is)
    (case a6 => k_is)
    (case l6 => k_is)
    (case c6 => k_is)
    (case k6 => k_is)
    (case a7 => k_is)
    (case l7 => k_is)
    (case c7 => k_is)
    (case k7 => k_is)
    (case a8 => k_is)
    (case l8 => k_is)
    (case c8 => k_is)
    (case k8 => k_is)
    (case a9 => k_is)
    (case l9 => k_is)
    (case c9 => k_is)
    (case k9 => k_is)
    (case a10 => k_is)
    (case l10 => k_is)
    (case c10 => k_is)
    (case k10 => k_is)
    (case a11 => k_is)
    (case l11 => k_is)
    (case c11 => k_is)
    (case k11 => k_is)
    (case a12 => k_is)
    (case l12 => k_is)
    (case c12 => k_is)
    (case k12 => k_is)
    (case a13 => k_is)
    (case l13 => k_is)
    (case c13 => k_is)
    (case k13 => k_is)
    (case a14 => k_is)
    (case l14 => k_is)
    (case c14 => k_is)
    (case k14 => k_is)
    (case a15 => k_is)
    (case l15 => k_is)
    (case c15 => k_is)
    (case k15 => k_is)
    (case a16 => k_is)
    (case l16 => k_is)
    (case c16 => k_is)
    (case k16 => k_is)
    (case a17 => k_is)
    (case l17 => k_is)
    (case c17 => k_is)
    (case k17 => k_is)
    (case a18 => k_is)
    (case l18 => k_is)
    (case c18 => k_is)
    (case k18 => k_is)
    (case a19 => k_is)
    (case l19 => k_is)
    (case c19 => k_is)
    (case k19 => k_is)
    (case a20 => k_is)
    (case l20 => k_is)
    (case c20 => k_is)
    (case k20 => k_is)
    (case a21 => k_is)
    (case l21 => k_is)
    (case c21 => k_is)
    (case k21 => k_is)
    (case a22 => k_is)
    (case l22 => k_is)
    (case c22 => k_is)
    (case k22 => k_is)
    (case a23 => k_is)
    (case l23 => k_is)
    (case c23 => k_is)
    (case k23 => k_is)
    (case a24 => k_is)
    (case l24 => k_is)
    (case c24 => k_is)
    (case k24 => k_is)
    (case a25 => k_is)
    (case l25 => k_is)
    (case c25 => k_is)
    (case k25 => k_is)
    (case a26 => k_is)
    (case l26 => k_is)
    (case c26 => k_is)
    (case k26 => k_is)
    (case a27 => k_is)
    (case l27 => k_is)
    (case c27 => k_is)
    (case k27 => k_is)
    (case a28 => k_is)
    (case l28 => k_is)
    (case c28 => k_is)
    (case k28 => k_is)
    (case a29 => k_is)
    (case l29 => k_is)
    (case c29 => k_is)
    (case k29 => k_is)
    (case a30 => k_is)
    (case l30 => k_is)
    (case c30 => k_is)
    (case k30 => k_is)
    (case a31 => k_is)
    (case l31 => k_is)
    (case c31 => k_is)
    (case k31 => k_is)
    (case a32 => k_is)
    (case l32 => k_is)
    (case c32 => k_is)
    (case k32 => k_is)
    (case a33 => k_is)
    (case l33 => k_is)
    (case c33 => k_is)
    (case k33 => k_is)
    (case a34 => k_is)
    (case l34 => k_is)
    (case c34 => k_is)
    (case k34 => k_is)
    (case z_abs => k_is)
    (case z_all => k_is)
    (case z_bool => k_is)
    (case z_int => k_is)
    (case z_isinstance => k_is)
    (case z_len => k_is)
    (case z_list => k_is)
    (case z_max => k_is)
    (case z_min => k_is)
    (case z_range => k_is)
    (case z_repr => k_is)
    (case z_str => k_is)
    (case z_sum => k_is)
    (case z_tuple => k_is)
    (case z_type => k_is)
    (case y_CELL_LIMIT => k_is)
    (case y_DIGITS => k_is)
    (case y_DIGIT_LIMIT => k_is)
    (case y_REACH => k_is)
    (case y_WORD_LIMIT => k_is)
