import PyProof.Rows.All
import Wide.All
import OpenK.AllK
import Wide.FinOn
import HandS.ForMost
import HandS.Evl
import HandS.Walk
import HandS.IsInst
import HandS.Wide
import HandS.Conv
import HandS.More
import HandS.Style
import HandS.TupLe
import HandS.Flow
import HandS.Exc
import HandS.TryOnly
import HandS.ExcOwn
import HandS.RaiseMore
import HandS.Gcd
import KE.DataEq
import PyProof.LongRange
import HandS.ExcIs
import HandS.WordsExc
import HandS.FStr
import HandS.ExcInit
import KE.KExcSuper
import KE.KSuper
import PyProof.FString2
import HandS.ExcValue
import HandS.ExcField
import KE.KExcIs
import KE.KDictZip
import KE.KStar
import HandS.Star
import KE.DataMinMax
import PyProof.AutoListH
import HandS.Codes
import HandS.Text
import HandS.CallLocal
import PySem.Challenge.RW_cellflows_k19_errors_made
set_option Elab.async false
set_option linter.all false
set_option maxRecDepth 100000
set_option maxHeartbeats 4000000
/-! data over the abstract heap: Dq; the state of a def's body: At; judgements DE, DT, DA, DS over data alone -/
namespace Cf
open PySem PySem.Spec PyProof.Rows L2
open Evl (Ex)

mutual
inductive Dq (K : PySem.W.Frag) (F : Hp) : PyData → V → Prop
  | non : Dq K F .none .non
  | bl (b : Bool) : Dq K F (.bool b) (.bl b)
  | int (i : Int) : Dq K F (.int i) (.int i)
  | str (x : Str) : Dq K F (.str x) (.str x)
  | lst {a : Addr} {xs : List V} {ds : List PyData} : SqL K F a xs → Dqs K F ds xs → Dq K F (.list ds) (.ref a)
  | tup {a : Addr} {xs : List V} {ds : List PyData} : SqT K F a xs → Dqs K F ds xs → Dq K F (.tuple ds) (.ref a)
  | emp {a : Addr} : F a = some (.dK []) → Dq K F (.dict []) (.ref a)
  | one {a : Addr} {k n : Int} : F a = some (.dK [(.inl k, .int n)]) → Dq K F (.dict [(.int k, .int n)]) (.ref a)
inductive Dqs (K : PySem.W.Frag) (F : Hp) : List PyData → List V → Prop
  | nil : Dqs K F [] []
  | cons {v : V} {vs : List V} {d : PyData} {ds : List PyData} : Dq K F d v → Dqs K F ds vs → Dqs K F (d :: ds) (v :: vs)
end
section
variable {K : PySem.W.Frag} {F F' : Hp}
mutual
theorem Dq.mono (e : Ex F F') : ∀ (d : PyData) (v : V), Dq K F d v → Dq K F' d v
  | .none, _, .non => .non
  | .bool _, _, .bl b => .bl b
  | .int _, _, .int i => .int i
  | .str _, _, .str x => .str x
  | .list ds, _, .lst h1 h2 => .lst (Evl.ex_l e h1) (Dqs.mono e ds _ h2)
  | .tuple ds, _, .tup h1 h2 => .tup (Evl.ex_t e h1) (Dqs.mono e ds _ h2)
  | .dict _, _, .emp h => .emp (e _ _ h)
  | .dict _, _, .one h => .one (e _ _ h)
theorem Dqs.mono (e : Ex F F') : ∀ (ds : List PyData) (vs : List V), Dqs K F ds vs → Dqs K F' ds vs
  | [], _, .nil => .nil
  | d :: ds, _, .cons h1 h2 => .cons (Dq.mono e d _ h1) (Dqs.mono e ds _ h2)
end
theorem Dq.up (e : Ex F F') {d : PyData} {v : V} (h : Dq K F d v) : Dq K F' d v := Dq.mono e d v h
theorem Dqs.up (e : Ex F F') {ds : List PyData} {vs : List V} (h : Dqs K F ds vs) : Dqs K F' ds vs := Dqs.mono e ds vs h
theorem Dqs.len : ∀ {ds : List PyData} {vs : List V}, Dqs K F ds vs → vs.length = ds.length
  | [], _, .nil => rfl
  | _ :: _, _, .cons _ h => congrArg (· + 1) (Dqs.len h)
theorem Dqs.at : ∀ {ds : List PyData} {vs : List V} {i : Nat} {d : PyData}, Dqs K F ds vs → ds[i]? = some d → ∃ v, vs[i]? = some v ∧ Dq K F d v
  | [], _, i, d, .nil, h => by simp at h
  | d' :: _, v :: _, 0, d, .cons h1 _, h => ⟨v, rfl, by cases h; exact h1⟩
  | _ :: ds, _ :: vs, i + 1, d, .cons _ h2, h => Dqs.at (i := i) h2 (by simpa using h)
theorem Dqs.app : ∀ {ds es : List PyData} {vs ws : List V}, Dqs K F ds vs → Dqs K F es ws → Dqs K F (ds ++ es) (vs ++ ws)
  | [], _, _, _, .nil, h => h
  | _ :: _, _, _, _, .cons h1 h2, h => .cons h1 (Dqs.app h2 h)
theorem Dqs.drop : ∀ {ds : List PyData} {vs : List V} (n : Nat), Dqs K F ds vs → Dqs K F (ds.drop n) (vs.drop n)
  | _, _, 0, h => h
  | [], _, _ + 1, .nil => .nil
  | _ :: _, _, n + 1, .cons _ h => Dqs.drop n h
theorem Dqs.take : ∀ {ds : List PyData} {vs : List V} (n : Nat), Dqs K F ds vs → Dqs K F (ds.take n) (vs.take n)
  | _, _, 0, _ => .nil
  | [], _, _ + 1, .nil => .nil
  | _ :: _, _, n + 1, .cons h1 h => .cons h1 (Dqs.take n h)
theorem Dqs.set : ∀ {ds : List PyData} {vs : List V} {d : PyData} {v : V} (n : Nat), Dqs K F ds vs → Dq K F d v → Dqs K F (ds.set n d) (vs.set n v)
  | [], _, _, _, _, .nil, _ => .nil
  | _ :: _, _, _, _, 0, .cons _ h, q => .cons q h
  | _ :: _, _, _, _, n + 1, .cons h1 h, q => .cons h1 (Dqs.set n h q)
theorem Dqs.ints : ∀ {ns : List Int} {vs : List V}, Dqs K F (ns.map .int) vs → vs = ns.map V.int
  | [], _, .nil => rfl
  | _ :: ns, _, .cons h1 h2 => by
    cases h1
    rw [Dqs.ints (ns := ns) h2]
    rfl
theorem Dqs.ofInts : ∀ {ns : List Int}, Dqs K F (ns.map .int) (ns.map V.int)
  | [] => .nil
  | n :: ns => .cons (.int n) Dqs.ofInts
theorem Dqs.bls : ∀ {ns : List Bool} {vs : List V}, Dqs K F (ns.map .bool) vs → vs = ns.map V.bl
  | [], _, .nil => rfl
  | _ :: ns, _, .cons h1 h2 => by
    cases h1
    rw [Dqs.bls (ns := ns) h2]
    rfl
end

/-! ### growth of the frozen part F and the heap H; t: the list of draws -/
structure Tap (x y z : Int) : Prop where
  x0 : 0 ≤ x
  y0 : 0 ≤ y
  y1 : y < 2 ^ 40
  z0 : 0 ≤ z
  z1 : z < 2 ^ 40
def TpOk (t : Option Addr) (F H : Hp) : Prop := ∀ a, t = some a → F a = none ∧ ∃ x y z, H a = some (.lst [.int x, .int y, .int z]) ∧ Tap x y z
structure Gr (t : Option Addr) (F0 H0 F H : Hp) : Prop where
  ff : Ex F0 F
  hh : ∀ a o, t ≠ some a → H0 a = some o → H a = some o
  fh : Ex F H
  nw : ∀ a o, F a = some o → F0 a = none → H0 a = none
section
variable {t : Option Addr} {F0 H0 F H F' H' : Hp}
theorem Gr.refl (h : Ex F H) : Gr t F H F H := ⟨Ex.refl F, fun _ _ _ h => h, h, fun a o h1 h2 => by rw [h2] at h1; cases h1⟩
theorem none_back {H H' : Hp} {a : Addr} (h : ∀ o, H a = some o → H' a = some o) (n : H' a = none) : H a = none := by
  cases e : H a with
  | none => rfl
  | some o =>
    rw [h o e] at n
    cases n
theorem Gr.trans (g : Gr t F0 H0 F H) (g' : Gr t F H F' H') (ht : ∀ a, t = some a → F' a = none) : Gr t F0 H0 F' H' :=
  ⟨g.ff.trans g'.ff, fun a o n h => g'.hh a o n (g.hh a o n h), g'.fh, fun a o h1 h2 => by
    cases e : F a with
    | some u => exact g.nw a u e h2
    | none =>
      have nt : t ≠ some a := fun z => by
        rw [ht a z] at h1
        cases h1
      exact none_back (fun o q => g.hh a o nt q) (g'.nw a o h1 e)⟩
/-- nothing but fresh objects come: from a callee without draws -/
theorem Gr.any (g : Gr none F H F' H') : Gr t F H F' H' := ⟨g.ff, fun a o _ h => g.hh a o (by simp) h, g.fh, g.nw⟩
end

/-! ### slots -/
/-- the entries of a dict: keys, data -/
inductive Dkv {κ : Type} (K : PySem.W.Frag) (F : Hp) : List (κ × PyData) → List (κ × V) → Prop
  | nil : Dkv K F [] []
  | cons {k : κ} {d : PyData} {v : V} {kvs : List (κ × PyData)} {xs : List (κ × V)} : Dq K F d v → Dkv K F kvs xs → Dkv K F ((k, d) :: kvs) ((k, v) :: xs)
theorem Dkv.up {κ : Type} {K : PySem.W.Frag} {F F' : Hp} (e : Ex F F') : ∀ {kvs : List (κ × PyData)} {xs : List (κ × V)}, Dkv K F kvs xs → Dkv K F' kvs xs
  | [], _, .nil => .nil
  | _ :: _, _, .cons h1 h2 => .cons (h1.up e) (h2.up e)
theorem rd_up {F F' : Hp} {a : Addr} {o : HO} (e : Ex F F') (h : Rd F a o) : Rd F' a o := by
  rcases h with h | ⟨od, h⟩
  · exact .inl (e _ _ h)
  · exact .inr ⟨od, e _ _ h⟩
/-- the entries of a dict of dicts -/
inductive Dkd {κ : Type} (K : PySem.W.Frag) (F : Hp) : List (κ × List (L2.Key × PyData)) → List (κ × V) → Prop
  | nil : Dkd K F [] []
  | cons {k : κ} {es : List (L2.Key × PyData)} {b : Addr} {ys : List (L2.Key × V)} {kds : List (κ × List (L2.Key × PyData))} {xs : List (κ × V)} : Rd F b (.dK ys) → Dkv K F es ys → Dkd K F kds xs → Dkd K F ((k, es) :: kds) ((k, .ref b) :: xs)
theorem Dkd.up {κ : Type} {K : PySem.W.Frag} {F F' : Hp} (e : Ex F F') : ∀ {kds : List (κ × List (L2.Key × PyData))} {xs : List (κ × V)}, Dkd K F kds xs → Dkd K F' kds xs
  | [], _, .nil => .nil
  | _ :: _, _, .cons h1 h2 h3 => .cons (rd_up e h1) (h2.up e) (Dkd.up e h3)
inductive Sl where
  | no
  | sh (d : PyData)
  | ow (ds : List PyData)
  | tp
  | vl (v : V)
  | od (d : PyData)
  | nw (d : PyData)
  | dk (p : Addr) (kvs : List (L2.Key × PyData))
  | dt (p : Addr) (kvs : List (List L2.Key × PyData))
  | fx (kds : List (L2.Key × PyData))
  | fd (kds : List (L2.Key × PyData))
  | ft (kds : List (List L2.Key × List (L2.Key × PyData)))
  | pr (φ : Hp → V → Prop)
abbrev Rho := List Sl
/-- v is, or ends with, a list that was not there at the base -/
def Nw (F0 H0 F : Hp) (d : PyData) (v : V) : Prop := ∃ p xs, F p = some (.lst xs) ∧ H0 p = none ∧ F0 p = none ∧ xs.length < 100000 ∧ (∀ ds, d = .list ds → v = .ref p) ∧ ∀ ds, d = .tuple ds → ∃ q vs, v = .ref q ∧ F q = some (.tup (vs ++ [.ref p])) ∧ vs.length + 1 = ds.length
theorem Nw.up {F0 H0 F F' : Hp} {d : PyData} {v : V} (e : Ex F F') (h : Nw F0 H0 F d v) : Nw F0 H0 F' d v := by
  obtain ⟨p, xs, h1, h2, h3, h4, h5, h6⟩ := h
  refine ⟨p, xs, e _ _ h1, h2, h3, h4, h5, fun ds hd => ?_⟩
  obtain ⟨q, vs, a, b, c⟩ := h6 ds hd
  exact ⟨q, vs, a, e _ _ b, c⟩
def SlOk (K : PySem.W.Frag) (t : Option Addr) (F0 H0 F H : Hp) (o : Option V) : Sl → Prop
  | .no => True
  | .sh d => ∃ v, o = some v ∧ Dq K F d v
  | .ow ds => ∃ p xs, o = some (.ref p) ∧ H p = some (.lst xs) ∧ F p = none ∧ H0 p = none ∧ t ≠ some p ∧ Dqs K F ds xs
  | .tp => ∃ a, t = some a ∧ o = some (.ref a)
  | .vl v => o = some v
  | .od d => ∃ v, o = some v ∧ Dq K F0 d v
  | .nw d => ∃ v, o = some v ∧ Dq K F d v ∧ Nw F0 H0 F d v
  | .dk p kvs => o = some (.ref p) ∧ (∃ xs, H p = some (.dK xs) ∧ Dkv K F kvs xs) ∧ F p = none ∧ H0 p = none ∧ t ≠ some p
  | .fx kds => ∃ a xs, o = some (.ref a) ∧ F a = some (.dK xs) ∧ Dkv K F kds xs
  | .fd kds => ∃ a xs, o = some (.ref a) ∧ Rd F a (.dK xs) ∧ Dkv K F kds xs
  | .ft kds => ∃ a xs, o = some (.ref a) ∧ Rd F a (.dT xs) ∧ Dkd K F kds xs
  | .pr φ => ∃ v, o = some v ∧ ∀ F9, Ex F F9 → φ F9 v
  | .dt p kvs => o = some (.ref p) ∧ (∃ xs, H p = some (.dT xs) ∧ Dkv K F kvs xs) ∧ F p = none ∧ H0 p = none ∧ t ≠ some p
structure At (K : PySem.W.Frag) (t : Option Addr) (F0 H0 F H : Hp) (σ : L2.St) (ρ : Rho) : Prop where
  gr : Gr t F0 H0 F H
  len : σ.length = ρ.length
  sl : ∀ (i : Nat) (o : Option V) (s : Sl), σ[i]? = some o → ρ[i]? = some s → SlOk K t F0 H0 F H o s
  ap : ∀ (i j : Nat) (p : Addr) (ds es : List PyData), i ≠ j → ρ[i]? = some (.ow ds) → ρ[j]? = some (.ow es) → σ[i]? = some (some (.ref p)) → σ[j]? ≠ some (some (.ref p))
  tp : TpOk t F H

section
variable {K : PySem.W.Frag} {t : Option Addr} {F0 H0 F H F' H' : Hp} {σ : L2.St} {ρ : Rho} {i : Nat} {d : PyData} {v : V}
theorem At.slot (A : At K t F0 H0 F H σ ρ) {s : Sl} (h : ρ[i]? = some s) : ∃ o, σ[i]? = some o ∧ SlOk K t F0 H0 F H o s := by
  have hi : i < σ.length := by
    rw [A.len]
    exact (List.getElem?_eq_some_iff.mp h).1
  exact ⟨σ[i], List.getElem?_eq_getElem hi, A.sl i _ s (List.getElem?_eq_getElem hi) h⟩
theorem At.var (A : At K t F0 H0 F H σ ρ) (h : ρ[i]? = some (.sh d)) : ∃ v, σ[i]? = some (some v) ∧ Dq K F d v := by
  obtain ⟨o, e, v, rfl, q⟩ := A.slot h
  exact ⟨v, e, q⟩
theorem At.own (A : At K t F0 H0 F H σ ρ) {ds : List PyData} (h : ρ[i]? = some (.ow ds)) :
    ∃ p xs, σ[i]? = some (some (.ref p)) ∧ H p = some (.lst xs) ∧ F p = none ∧ H0 p = none ∧ t ≠ some p ∧ Dqs K F ds xs := by
  obtain ⟨o, e, p, xs, rfl, q⟩ := A.slot h
  exact ⟨p, xs, e, q⟩
/-- the heaps grow, the slots stay -/
theorem At.grow (A : At K t F0 H0 F H σ ρ) (g : Gr t F H F' H') (ht : TpOk t F' H') : At K t F0 H0 F' H' σ ρ where
  gr := A.gr.trans g fun a e => (ht a e).1
  len := A.len
  sl := fun i o s h1 h2 => by
    have q := A.sl i o s h1 h2
    cases s with
    | no => trivial
    | sh d =>
      obtain ⟨v, e, h⟩ := q
      exact ⟨v, e, h.up g.ff⟩
    | ow ds =>
      obtain ⟨p, xs, e, h1, h2, h3, h4, h5⟩ := q
      refine ⟨p, xs, e, g.hh p _ h4 h1, ?_, h3, h4, h5.up g.ff⟩
      cases e' : F' p with
      | none => rfl
      | some o =>
        have z := g.nw p o e' h2
        rw [h1] at z
        cases z
    | tp => exact q
    | vl v => exact q
    | od d => exact q
    | nw d =>
      obtain ⟨v, e, h, n⟩ := q
      exact ⟨v, e, h.up g.ff, n.up g.ff⟩
    | dk p kvs =>
      obtain ⟨e, ⟨xs, h1, hq⟩, h2, h3, h4⟩ := q
      refine ⟨e, ⟨xs, g.hh p _ h4 h1, hq.up g.ff⟩, ?_, h3, h4⟩
      cases e' : F' p with
      | none => rfl
      | some o =>
        have z := g.nw p o e' h2
        rw [h1] at z
        cases z
    | fx kds =>
      obtain ⟨a, xs, e, h1, h2⟩ := q
      exact ⟨a, xs, e, g.ff _ _ h1, h2.up g.ff⟩
    | fd kds =>
      obtain ⟨a, xs, e, h1, h2⟩ := q
      exact ⟨a, xs, e, rd_up g.ff h1, h2.up g.ff⟩
    | ft kds =>
      obtain ⟨a, xs, e, h1, h2⟩ := q
      exact ⟨a, xs, e, rd_up g.ff h1, h2.up g.ff⟩
    | pr φ =>
      obtain ⟨v, e9, h9⟩ := q
      exact ⟨v, e9, fun F9 x9 => h9 F9 (g.ff.trans x9)⟩
    | dt p kvs =>
      obtain ⟨e, ⟨xs, h1, hq⟩, h2, h3, h4⟩ := q
      refine ⟨e, ⟨xs, g.hh p _ h4 h1, hq.up g.ff⟩, ?_, h3, h4⟩
      cases e' : F' p with
      | none => rfl
      | some o =>
        have z := g.nw p o e' h2
        rw [h1] at z
        cases z
  ap := A.ap
  tp := ht
/-- what a pure callee leaves -/
theorem At.call (A : At K t F0 H0 F H σ ρ) (g : Gr none F H F' H') : At K t F0 H0 F' H' σ ρ := by
  refine A.grow g.any fun a e => ?_
  obtain ⟨h1, x, y, z, h2, h3⟩ := A.tp a e
  refine ⟨?_, x, y, z, g.hh a _ (by simp) h2, h3⟩
  cases e' : F' a with
  | none => rfl
  | some o =>
    have q := g.nw a o e' h1
    rw [h2] at q
    cases q
/-- a new frozen object -/
theorem Gr.new (h : Ex F H) {p : Addr} {o : HO} (n : H p = none) : Gr none F H (upd F p o) (upd H p o) where
  ff := Ex.new (by
    cases e : F p with
    | none => rfl
    | some u =>
      rw [h p u e] at n
      cases n)
  hh := fun a u _ q => Ex.new n a u q
  fh := fun a u q => by
    by_cases e : a = p
    · subst e
      rw [upd_same] at q ⊢
      exact q
    · rw [upd_ne e] at q ⊢
      exact h a u q
  nw := fun a u q f => by
    by_cases e : a = p
    · rw [e]
      exact n
    · rw [upd_ne e, f] at q
      cases q
/-- a new object that is not frozen -/
theorem Gr.free (h : Ex F H) {p : Addr} {o : HO} (n : H p = none) : Gr none F H F (upd H p o) where
  ff := Ex.refl F
  hh := fun a u _ q => Ex.new n a u q
  fh := h.trans (Ex.new n)
  nw := fun a u q f => by
    rw [f] at q
    cases q
theorem At.fh (A : At K t F0 H0 F H σ ρ) : Ex F H := A.gr.fh
/-- a slot is given another value -/
theorem At.set (A : At K t F0 H0 F H σ ρ) {s : Sl} {o : Option V} (h : SlOk K t F0 H0 F H o s) (hn : ∀ ds, s ≠ .ow ds) : At K t F0 H0 F H (σ.set i o) (ρ.set i s) where
  gr := A.gr
  len := by rw [List.length_set, List.length_set, A.len]
  sl := fun j o' s' h1 h2 => by
    by_cases e : i = j
    · subst e
      have hi : i < σ.length := by
        have := (List.getElem?_eq_some_iff.mp h1).1
        rwa [List.length_set] at this
      rw [List.getElem?_set_self hi] at h1
      rw [List.getElem?_set_self (by rw [← A.len]; exact hi)] at h2
      cases h1
      cases h2
      exact h
    · rw [List.getElem?_set_ne e] at h1 h2
      exact A.sl j o' s' h1 h2
  ap := fun a b p ds es n h1 h2 h3 => by
    have ha : i ≠ a := fun e => by
      subst e
      have hi := (List.getElem?_eq_some_iff.mp h1).1
      rw [List.length_set] at hi
      rw [List.getElem?_set_self hi] at h1
      cases h1
      exact hn ds rfl
    have hb : i ≠ b := fun e => by
      subst e
      have hi := (List.getElem?_eq_some_iff.mp h2).1
      rw [List.length_set] at hi
      rw [List.getElem?_set_self hi] at h2
      cases h2
      exact hn es rfl
    rw [List.getElem?_set_ne ha] at h1 h3
    rw [List.getElem?_set_ne hb] at h2 ⊢
    exact A.ap a b p ds es n h1 h2 h3
  tp := A.tp
/-- a slot is given a list of its own -/
theorem At.setOw (A : At K t F0 H0 F H σ ρ) {p : Addr} {ds : List PyData} (h : SlOk K t F0 H0 F H (some (.ref p)) (.ow ds)) (hn : ∀ (j : Nat) (es : List PyData), i ≠ j → ρ[j]? = some (.ow es) → σ[j]? ≠ some (some (.ref p))) :
    At K t F0 H0 F H (σ.set i (some (.ref p))) (ρ.set i (.ow ds)) where
  gr := A.gr
  len := by rw [List.length_set, List.length_set, A.len]
  sl := fun j o' s' h1 h2 => by
    by_cases e : i = j
    · subst e
      have hi : i < σ.length := by
        have := (List.getElem?_eq_some_iff.mp h1).1
        rwa [List.length_set] at this
      rw [List.getElem?_set_self hi] at h1
      rw [List.getElem?_set_self (by rw [← A.len]; exact hi)] at h2
      cases h1
      cases h2
      exact h
    · rw [List.getElem?_set_ne e] at h1 h2
      exact A.sl j o' s' h1 h2
  ap := fun a b q ds' es n h1 h2 h3 => by
    by_cases ha : i = a
    · subst ha
      have hi : i < σ.length := by
        have := (List.getElem?_eq_some_iff.mp h3).1
        rwa [List.length_set] at this
      rw [List.getElem?_set_self hi] at h3
      cases h3
      rw [List.getElem?_set_ne n] at h2 ⊢
      exact hn b es n h2
    · rw [List.getElem?_set_ne ha] at h1 h3
      by_cases hb : i = b
      · subst hb
        intro h4
        have hi : i < σ.length := by
          have := (List.getElem?_eq_some_iff.mp h4).1
          rwa [List.length_set] at this
        rw [List.getElem?_set_self hi] at h4
        cases h4
        exact hn a ds' (fun e => ha e) h1 h3
      · rw [List.getElem?_set_ne hb] at h2 ⊢
        exact A.ap a b q ds' es n h1 h2 h3
  tp := A.tp
/-- an owned list is changed -/
theorem At.put (A : At K t F0 H0 F H σ ρ) {p : Addr} {ds es : List PyData} {ys : List V} (h : ρ[i]? = some (.ow ds)) (hp : σ[i]? = some (some (.ref p))) (hy : Dqs K F es ys) :
    At K t F0 H0 F (upd H p (.lst ys)) σ (ρ.set i (.ow es)) := by
  obtain ⟨p', xs, e, h1, h2, h3, h4, h5⟩ := A.own h
  rw [hp] at e
  cases e
  refine ⟨⟨A.gr.ff, fun a o n q => ?_, fun a o q => ?_, A.gr.nw⟩, ?_, fun j o s q1 q2 => ?_, fun a b q ds' es' n q1 q2 q3 => ?_, fun a q => ?_⟩
  · rw [upd_ne (fun z => by rw [z, h3] at q; cases q)]
    exact A.gr.hh a o n q
  · rw [upd_ne (fun z => by rw [z, h2] at q; cases q)]
    exact A.fh a o q
  · rw [List.length_set]
    exact A.len
  · by_cases z : i = j
    · subst z
      have hi : i < ρ.length := (List.getElem?_eq_some_iff.mp h).1
      rw [List.getElem?_set_self hi] at q2
      cases q2
      rw [hp] at q1
      cases q1
      exact ⟨p, ys, rfl, upd_same, h2, h3, h4, hy⟩
    · rw [List.getElem?_set_ne z] at q2
      have w := A.sl j o s q1 q2
      cases s with
      | no => trivial
      | sh d => exact w
      | ow fs =>
        obtain ⟨r, zs, e, w1, w2⟩ := w
        subst e
        refine ⟨r, zs, rfl, ?_, w2⟩
        rw [upd_ne (fun y => A.ap i j p ds fs z h q2 hp (by rw [q1, y]))]
        exact w1
      | tp => exact w
      | vl v => exact w
      | od d => exact w
      | nw d => exact w
      | dk r kvs =>
        obtain ⟨e, ⟨zs, w1, wq⟩, w2⟩ := w
        exact ⟨e, ⟨zs, by rw [upd_ne (fun y => by rw [y, h1] at w1; cases w1)]; exact w1, wq⟩, w2⟩
      | fx kds => exact w
      | fd kds => exact w
      | ft kds => exact w
      | pr φ => exact w
      | dt r kvs =>
        obtain ⟨e, ⟨zs, w1, wq⟩, w2⟩ := w
        exact ⟨e, ⟨zs, by rw [upd_ne (fun y => by rw [y, h1] at w1; cases w1)]; exact w1, wq⟩, w2⟩
  · have ow : ∀ (c : Nat) (fs : List PyData), (ρ.set i (Sl.ow es))[c]? = some (Sl.ow fs) → ∃ gs, ρ[c]? = some (Sl.ow gs) := fun c fs z => by
      by_cases y : i = c
      · subst y
        exact ⟨ds, h⟩
      · rw [List.getElem?_set_ne y] at z
        exact ⟨fs, z⟩
    obtain ⟨g1, r1⟩ := ow a ds' q1
    obtain ⟨g2, r2⟩ := ow b es' q2
    exact A.ap a b q g1 g2 n r1 r2 q3
  · obtain ⟨w1, x, y, z, w2, w3⟩ := A.tp a q
    refine ⟨w1, x, y, z, ?_, w3⟩
    rw [upd_ne (fun e => h4 (by rw [q, e]))]
    exact w2
/-- an owned list is frozen -/
theorem At.freeze (A : At K t F0 H0 F H σ ρ) {ds : List PyData} (h : ρ[i]? = some (.ow ds)) : ∃ F', At K t F0 H0 F' H σ (ρ.set i (.sh (.list ds))) ∧ Ex F F' := by
  obtain ⟨p, xs, e, h1, h2, h3, h4, h5⟩ := A.own h
  have ef : Ex F (upd F p (.lst xs)) := Ex.new h2
  refine ⟨upd F p (.lst xs), ⟨⟨A.gr.ff.trans ef, A.gr.hh, fun a o q => ?_, fun a o q f => ?_⟩, ?_, fun j o s q1 q2 => ?_, fun a b q ds' es' n q1 q2 q3 => ?_, fun a q => ?_⟩, ef⟩
  · by_cases z : a = p
    · subst z
      rw [upd_same] at q
      cases q
      exact h1
    · rw [upd_ne z] at q
      exact A.fh a o q
  · by_cases z : a = p
    · subst z
      exact h3
    · rw [upd_ne z] at q
      exact A.gr.nw a o q f
  · rw [List.length_set]
    exact A.len
  · by_cases z : i = j
    · subst z
      have hi : i < ρ.length := (List.getElem?_eq_some_iff.mp h).1
      rw [List.getElem?_set_self hi] at q2
      cases q2
      rw [e] at q1
      cases q1
      exact ⟨.ref p, rfl, .lst (.inl (.inl upd_same)) (h5.up ef)⟩
    · rw [List.getElem?_set_ne z] at q2
      have w := A.sl j o s q1 q2
      cases s with
      | no => trivial
      | sh d =>
        obtain ⟨v, e', w'⟩ := w
        exact ⟨v, e', w'.up ef⟩
      | ow fs =>
        obtain ⟨r, zs, e', w1, w2, w3, w4, w5⟩ := w
        subst e'
        refine ⟨r, zs, rfl, w1, ?_, w3, w4, w5.up ef⟩
        rw [upd_ne (fun y => A.ap i j p ds fs z h q2 e (by rw [q1, y]))]
        exact w2
      | tp => exact w
      | vl v => exact w
      | od d => exact w
      | nw d =>
        obtain ⟨v, e', w', n'⟩ := w
        exact ⟨v, e', w'.up ef, n'.up ef⟩
      | dk r kvs =>
        obtain ⟨e', ⟨zs, w1, wq⟩, w2, w3⟩ := w
        exact ⟨e', ⟨zs, w1, wq.up ef⟩, by rw [upd_ne (fun y => by rw [y, h1] at w1; cases w1)]; exact w2, w3⟩
      | fx kds =>
        obtain ⟨a, xs, e', w1, w2⟩ := w
        exact ⟨a, xs, e', ef _ _ w1, w2.up ef⟩
      | fd kds =>
        obtain ⟨a, xs, e', w1, w2⟩ := w
        exact ⟨a, xs, e', rd_up ef w1, w2.up ef⟩
      | ft kds =>
        obtain ⟨a, xs, e', w1, w2⟩ := w
        exact ⟨a, xs, e', rd_up ef w1, w2.up ef⟩
      | pr φ =>
        obtain ⟨v, e9, h9⟩ := w
        exact ⟨v, e9, fun F9 x9 => h9 F9 (ef.trans x9)⟩
      | dt r kvs =>
        obtain ⟨e', ⟨zs, w1, wq⟩, w2, w3⟩ := w
        exact ⟨e', ⟨zs, w1, wq.up ef⟩, by rw [upd_ne (fun y => by rw [y, h1] at w1; cases w1)]; exact w2, w3⟩
  · have ow : ∀ (c : Nat) (fs : List PyData), (ρ.set i (Sl.sh (.list ds)))[c]? = some (Sl.ow fs) → ρ[c]? = some (Sl.ow fs) := fun c fs z => by
      by_cases y : i = c
      · subst y
        have hi : i < ρ.length := (List.getElem?_eq_some_iff.mp h).1
        rw [List.getElem?_set_self hi] at z
        cases z
      · rw [List.getElem?_set_ne y] at z
        exact z
    exact A.ap a b q ds' es' n (ow a ds' q1) (ow b es' q2) q3
  · obtain ⟨w1, x, y, z, w2, w3⟩ := A.tp a q
    refine ⟨?_, x, y, z, w2, w3⟩
    rw [upd_ne (fun e => h4 (by rw [q, e]))]
    exact w1
end
end Cf
namespace Cf
open PySem PySem.Spec PyProof.Rows L2
open Evl (Ex)

/-- a step of evaluation: nothing that was there changes, but the draws -/
structure Stp (t : Option Addr) (F H F' H' : Hp) : Prop where
  g : Gr t F H F' H'
  tp : TpOk t F' H'
section
variable {K : PySem.W.Frag} {t : Option Addr} {F0 H0 F H F' H' F2 H2 : Hp} {σ : L2.St} {ρ : Rho}
theorem At.step (A : At K t F0 H0 F H σ ρ) (e : Stp t F H F' H') : At K t F0 H0 F' H' σ ρ := A.grow e.g e.tp
theorem Stp.ff (e : Stp t F H F' H') : Ex F F' := e.g.ff
theorem Stp.trans (e : Stp t F H F' H') (e' : Stp t F' H' F2 H2) : Stp t F H F2 H2 := ⟨e.g.trans e'.g fun a z => (e'.tp a z).1, e'.tp⟩
theorem At.stp (A : At K t F0 H0 F H σ ρ) (g : Gr none F H F' H') : Stp t F H F' H' := ⟨g.any, (A.call g).tp⟩
theorem Stp.back (e : Stp t F H F' H') {p : Addr} (n : H' p = none) : H p = none := by
  have nt : t ≠ some p := fun z => by
    obtain ⟨_, x, y, w, h, _⟩ := e.tp p z
    rw [n] at h
    cases h
  exact none_back (fun o q => e.g.hh p o nt q) n
/-- what is new is frozen -/
theorem Stp.ice (A : At K t F0 H0 F H σ ρ) (e : Stp t F H F' H') {p : Addr} {xs : List V} {ds : List PyData} (f : H p = none) (n : F' p = none) (h : H' p = some (.lst xs)) (q : Dqs K F' ds xs) :
    Stp t F H (upd F' p (.lst xs)) H' ∧ Dq K (upd F' p (.lst xs)) (.list ds) (.ref p) := by
  have e1 : Ex F' (upd F' p (.lst xs)) := Ex.new n
  refine ⟨⟨⟨e.ff.trans e1, e.g.hh, fun a o z => ?_, fun a o z w => ?_⟩, fun a z => ?_⟩, .lst (.inl (.inl upd_same)) (q.up e1)⟩
  · by_cases y : a = p
    · subst y
      rw [upd_same] at z
      cases z
      exact h
    · rw [upd_ne y] at z
      exact e.g.fh a o z
  · by_cases y : a = p
    · rw [y]
      exact f
    · rw [upd_ne y] at z
      exact e.g.nw a o z w
  · obtain ⟨w1, x, y, u, w2, w3⟩ := e.tp a z
    refine ⟨?_, x, y, u, w2, w3⟩
    by_cases y : a = p
    · subst y
      obtain ⟨_, x, y, u, w4, _⟩ := A.tp a z
      rw [f] at w4
      cases w4
    · rw [upd_ne y]
      exact w1
theorem At.rfl (A : At K t F0 H0 F H σ ρ) : Stp t F H F H := ⟨Gr.refl A.fh, A.tp⟩
end

def DE (K : PySem.W.Frag) (t : Option Addr) (te : TE) (ρ : Rho) (Q : PyData → Prop) : Prop :=
  ∀ (F0 H0 F H : Hp) (σ : L2.St), At K t F0 H0 F H σ ρ → ∀ QK : VK, (∀ d v F' H', Q d → Stp t F H F' H' → Dq K F' d v → QK v H') → te σ H QK
/-- p is apart from what was there -/
structure Fs (t : Option Addr) (H0 : Hp) (σ : L2.St) (ρ : Rho) (p : Addr) : Prop where
  old : H0 p = none
  tap : t ≠ some p
  own : ∀ (j : Nat) (es : List PyData), ρ[j]? = some (.ow es) → σ[j]? ≠ some (some (.ref p))
theorem At.fs {K : PySem.W.Frag} {t : Option Addr} {F0 H0 F H : Hp} {σ : L2.St} {ρ : Rho} (A : At K t F0 H0 F H σ ρ) {p : Addr} (n : H p = none) : Fs t H0 σ ρ p := by
  have nt : t ≠ some p := fun e => by
    obtain ⟨_, x, y, z, h, _⟩ := A.tp p e
    rw [n] at h
    cases h
  refine ⟨none_back (fun o q => A.gr.hh p o nt q) n, nt, fun j es h e => ?_⟩
  obtain ⟨q, xs, e', h1, _⟩ := A.own h
  rw [e] at e'
  cases e'
  rw [n] at h1
  cases h1
/-- a new list, not frozen -/
def DL (K : PySem.W.Frag) (t : Option Addr) (te : TE) (ρ : Rho) (Q : List PyData → Prop) : Prop :=
  ∀ (F0 H0 F H : Hp) (σ : L2.St), At K t F0 H0 F H σ ρ → ∀ QK : VK, (∀ ds p xs F' H', Q ds → Stp t F H F' H' → H p = none → F' p = none → H' p = some (.lst xs) → Dqs K F' ds xs → QK (.ref p) H') → te σ H QK
def DA (K : PySem.W.Frag) (t : Option Addr) (ta : TA) (ρ : Rho) (Q : List PyData → Prop) : Prop :=
  ∀ (F0 H0 F H : Hp) (σ : L2.St), At K t F0 H0 F H σ ρ → ∀ QK : List V → Hp → Prop, (∀ ds vs F' H', Q ds → Stp t F H F' H' → Dqs K F' ds vs → QK vs H') → ta σ H QK
def DT (K : PySem.W.Frag) (t : Option Addr) (tt : TT) (ρ : Rho) (Q : Bool → Prop) : Prop :=
  ∀ (F0 H0 F H : Hp) (σ : L2.St), At K t F0 H0 F H σ ρ → ∀ QK : Bool → Hp → Prop, (∀ b F' H', Q b → Stp t F H F' H' → QK b H') → tt σ H QK
def DO (K : PySem.W.Frag) (t : Option Addr) (to : TO) (ρ : Rho) (Q : Option Int → Prop) : Prop :=
  ∀ (F0 H0 F H : Hp) (σ : L2.St), At K t F0 H0 F H σ ρ → ∀ QK : Option Int → Hp → Prop, (∀ b F' H', Q b → Stp t F H F' H' → QK b H') → to σ H QK
/-- operations on values, over data -/
def DR (K : PySem.W.Frag) (r : R2) (x y : PyData) (Q : PyData → Prop) : Prop :=
  ∀ (v w : V) (F H : Hp), Ex F H → Dq K F x v → Dq K F y w → ∀ QK : VK, (∀ d u F' H', Q d → Gr none F H F' H' → Dq K F' d u → QK u H') → r v w H QK
def DRL (K : PySem.W.Frag) (r : R2) (x y : PyData) (Q : List PyData → Prop) : Prop :=
  ∀ (v w : V) (F H : Hp), Ex F H → Dq K F x v → Dq K F y w → ∀ QK : VK, (∀ ds p xs F' H', Q ds → Gr none F H F' H' → H p = none → F' p = none → H' p = some (.lst xs) → Dqs K F' ds xs → QK (.ref p) H') → r v w H QK
def DU (K : PySem.W.Frag) (r : V → Hp → VK → Prop) (x : PyData) (Q : PyData → Prop) : Prop :=
  ∀ (v : V) (F H : Hp), Ex F H → Dq K F x v → ∀ QK : VK, (∀ d u F' H', Q d → Gr none F H F' H' → Dq K F' d u → QK u H') → r v H QK
def DC (K : PySem.W.Frag) (r : List V → Hp → VK → Prop) (xs : List PyData) (Q : PyData → Prop) : Prop :=
  ∀ (vs : List V) (F H : Hp), Ex F H → Dqs K F xs vs → ∀ QK : VK, (∀ d u F' H', Q d → Gr none F H F' H' → Dq K F' d u → QK u H') → r vs H QK
def DCL (K : PySem.W.Frag) (r : List V → Hp → VK → Prop) (xs : List PyData) (Q : List PyData → Prop) : Prop :=
  ∀ (vs : List V) (F H : Hp), Ex F H → Dqs K F xs vs → ∀ QK : VK, (∀ ds p ys F' H', Q ds → Gr none F H F' H' → H p = none → F' p = none → H' p = some (.lst ys) → Dqs K F' ds ys → QK (.ref p) H') → r vs H QK

/-- ranges of any size -/
def iRg1 (ta : TA) : TI := fun σ H R => ta σ H fun vs H1 => ∃ j : Int, vs = [.int j] ∧ R (Itr 0 j.toNat) H1
def iRg2 (ta : TA) : TI := fun σ H R => ta σ H fun vs H1 => ∃ i j : Int, vs = [.int i, .int j] ∧ R (Itr i (j - i).toNat) H1
theorem ex_none {F H : Hp} (e : Ex F H) {p : Addr} (h : H p = none) : F p = none := none_back (fun o q => e p o q) h
theorem dqs1 {K : PySem.W.Frag} {F : Hp} {d : PyData} {vs : List V} (h : Dqs K F [d] vs) : ∃ v, vs = [v] ∧ Dq K F d v := by
  cases h with
  | cons h1 h2 =>
    cases h2
    exact ⟨_, rfl, h1⟩
theorem dqs2 {K : PySem.W.Frag} {F : Hp} {d e : PyData} {vs : List V} (h : Dqs K F [d, e] vs) : ∃ v w, vs = [v, w] ∧ Dq K F d v ∧ Dq K F e w := by
  cases h with
  | cons h1 h2 =>
    obtain ⟨w, rfl, h3⟩ := dqs1 h2
    exact ⟨_, _, rfl, h1, h3⟩

section
variable {K : PySem.W.Frag} {t : Option Addr} {ρ : Rho} {i : Nat} {d : PyData} {te ta tb tc : TE} {Q : PyData → Prop}
theorem DE.mono {Q' : PyData → Prop} (h : DE K t te ρ Q) (m : ∀ d, Q d → Q' d) : DE K t te ρ Q' := fun F0 H0 F H σ A QK k => h F0 H0 F H σ A QK fun d v F' H' q => k d v F' H' (m d q)
theorem DT.mono {tt : TT} {Q Q' : Bool → Prop} (h : DT K t tt ρ Q) (m : ∀ d, Q d → Q' d) : DT K t tt ρ Q' := fun F0 H0 F H σ A QK k => h F0 H0 F H σ A QK fun d F' H' q => k d F' H' (m d q)
theorem DL.mono {Q Q' : List PyData → Prop} (h : DL K t te ρ Q) (m : ∀ d, Q d → Q' d) : DL K t te ρ Q' := fun F0 H0 F H σ A QK k => h F0 H0 F H σ A QK fun ds p xs F' H' q => k ds p xs F' H' (m ds q)
theorem DE_var (h : ρ[i]? = some (.sh d)) (q : Q d) : DE K t (tVar i) ρ Q := fun F0 H0 F H σ A QK k => by
  obtain ⟨v, e, z⟩ := A.var h
  exact ⟨v, e, k d v F H q A.rfl z⟩
theorem DE_int {z : Int} (q : Q (.int z)) : DE K t (tC (.int z)) ρ Q := fun F0 H0 F H σ A QK k => k _ _ F H q A.rfl (.int z)
theorem DE_str {z : Str} (q : Q (.str z)) : DE K t (tC (.str z)) ρ Q := fun F0 H0 F H σ A QK k => k _ _ F H q A.rfl (.str z)
theorem DE_bl {z : Bool} (q : Q (.bool z)) : DE K t (tC (.bl z)) ρ Q := fun F0 H0 F H σ A QK k => k _ _ F H q A.rfl (.bl z)
theorem DE_non (q : Q .none) : DE K t (tC .non) ρ Q := fun F0 H0 F H σ A QK k => k _ _ F H q A.rfl .non
theorem DE_op {r : R2} (h : DE K t ta ρ fun x => DE K t tb ρ fun y => DR K r x y Q) : DE K t (tOp r ta tb) ρ Q := fun F0 H0 F H σ A QK k =>
  h F0 H0 F H σ A _ fun x v F1 H1 hb e1 q1 => have A1 := A.step e1;  hb F0 H0 F1 H1 σ A1 _ fun y w F2 H2 hr e2 q2 => have A2 := A1.step e2;  hr v w F2 H2 A2.fh (q1.up e2.ff) q2 QK fun d u F3 H3 q g q3 =>
    k d u F3 H3 q ((e1.trans e2).trans (A2.stp g)) q3
theorem DL_op {r : R2} {Q : List PyData → Prop} (h : DE K t ta ρ fun x => DE K t tb ρ fun y => DRL K r x y Q) : DL K t (tOp r ta tb) ρ Q := fun F0 H0 F H σ A QK k =>
  h F0 H0 F H σ A _ fun x v F1 H1 hb e1 q1 => have A1 := A.step e1;  hb F0 H0 F1 H1 σ A1 _ fun y w F2 H2 hr e2 q2 => have A2 := A1.step e2;  hr v w F2 H2 A2.fh (q1.up e2.ff) q2 QK fun ds p xs F3 H3 q g n1 n2 n3 q3 =>
    k ds p xs F3 H3 q ((e1.trans e2).trans (A2.stp g)) ((e1.trans e2).back n1) n2 n3 q3
theorem DE_new (h : DL K t te ρ fun ds => Q (.list ds)) : DE K t te ρ Q := fun F0 H0 F H σ A QK k => h F0 H0 F H σ A QK fun ds p xs F' H' q e f n1 n2 z => by
  obtain ⟨e2, z2⟩ := e.ice A f n1 n2 z
  exact k _ _ _ _ q e2 z2
theorem DE_un {r : V → Hp → VK → Prop} (h : DE K t ta ρ fun x => DU K r x Q) : DE K t (tUn r ta) ρ Q := fun F0 H0 F H σ A QK k =>
  h F0 H0 F H σ A _ fun x v F1 H1 hr e1 q1 => have A1 := A.step e1;  hr v F1 H1 A1.fh q1 QK fun d u F3 H3 q g q3 => k d u F3 H3 q (e1.trans (A1.stp g)) q3
theorem DE_cb {r : List V → Hp → VK → Prop} {tr : TA} (h : DA K t tr ρ fun xs => DC K r xs Q) : DE K t (tCB r tr) ρ Q := fun F0 H0 F H σ A QK k =>
  h F0 H0 F H σ A _ fun x v F1 H1 hr e1 q1 => have A1 := A.step e1;  hr v F1 H1 A1.fh q1 QK fun d u F3 H3 q g q3 => k d u F3 H3 q (e1.trans (A1.stp g)) q3
theorem DA_nil {Q : List PyData → Prop} (q : Q []) : DA K t tNil ρ Q := fun F0 H0 F H σ A QK k => k [] [] F H q A.rfl .nil
theorem DA_cons {tr : TA} {Q : List PyData → Prop} (h : DE K t te ρ fun x => DA K t tr ρ fun xs => Q (x :: xs)) : DA K t (tCons te tr) ρ Q := fun F0 H0 F H σ A QK k =>
  h F0 H0 F H σ A _ fun x v F1 H1 hr e1 q1 => have A1 := A.step e1;  hr F0 H0 F1 H1 σ A1 _ fun xs vs F2 H2 q e2 q2 => have A2 := A1.step e2;  k _ _ F2 H2 q (e1.trans e2) (.cons (q1.up e2.ff) q2)
theorem DE_tup {tr : TA} (h : DA K t tr ρ fun xs => xs.length ≤ 100000 ∧ Q (.tuple xs)) : DE K t (tTup tr) ρ Q := fun F0 H0 F H σ A QK k =>
  h F0 H0 F H σ A _ fun xs vs F1 H1 hq e1 q1 => have A1 := A.step e1;  ⟨Evl.sz_of (by rw [q1.len]; exact hq.1), fun p n =>
    have g := Gr.new A1.fh (o := .tup vs) n
    k _ _ _ _ hq.2 (e1.trans (A1.stp g)) (.tup (.inl (.inl upd_same)) (q1.up g.ff))⟩
theorem DL_lst {tr : TA} {Q : List PyData → Prop} (h : DA K t tr ρ fun xs => xs.length ≤ 100000 ∧ Q xs) : DL K t (tLst tr) ρ Q := fun F0 H0 F H σ A QK k =>
  h F0 H0 F H σ A _ fun xs vs F1 H1 hq e1 q1 => have A1 := A.step e1;  ⟨Evl.sz_of (by rw [q1.len]; exact hq.1), fun p n =>
    have g := Gr.free A1.fh (o := .lst vs) n
    k _ p _ _ _ hq.2 (e1.trans (A1.stp g)) (e1.back n) (ex_none A1.fh n) upd_same (q1.up g.ff)⟩
theorem DE_if {tt : TT} (h : DT K t tt ρ fun b => if b = true then DE K t ta ρ Q else DE K t tb ρ Q) : DE K t (tIf tt ta tb) ρ Q := fun F0 H0 F H σ A QK k =>
  h F0 H0 F H σ A _ fun b F1 H1 hb e1 => by
    have A1 := A.step e1
    cases b with
    | true => exact hb F0 H0 F1 H1 σ A1 QK fun d v F2 H2 q e2 q2 => have A2 := A1.step e2;  k d v F2 H2 q (e1.trans e2) q2
    | false => exact hb F0 H0 F1 H1 σ A1 QK fun d v F2 H2 q e2 q2 => have A2 := A1.step e2;  k d v F2 H2 q (e1.trans e2) q2
theorem DE_and (h : DE K t ta ρ fun x => ∃ b, x = .bool b ∧ if b = true then DE K t tb ρ Q else Q (.bool false)) : DE K t (tAndV ta tb) ρ Q := fun F0 H0 F H σ A QK k =>
  h F0 H0 F H σ A _ fun x v F1 H1 hb e1 q1 => by
    have A1 := A.step e1
    obtain ⟨b, rfl, hb⟩ := hb
    cases q1
    refine ⟨b, rfl, ?_⟩
    cases b with
    | true => exact hb F0 H0 F1 H1 σ A1 QK fun d v F2 H2 q e2 q2 => have A2 := A1.step e2;  k d v F2 H2 q (e1.trans e2) q2
    | false => exact k _ _ F1 H1 hb e1 (.bl false)
theorem DE_or (h : DE K t ta ρ fun x => ∃ b, x = .bool b ∧ if b = true then Q (.bool true) else DE K t tb ρ Q) : DE K t (tOrV ta tb) ρ Q := fun F0 H0 F H σ A QK k =>
  h F0 H0 F H σ A _ fun x v F1 H1 hb e1 q1 => by
    have A1 := A.step e1
    obtain ⟨b, rfl, hb⟩ := hb
    cases q1
    refine ⟨b, rfl, ?_⟩
    cases b with
    | true => exact k _ _ F1 H1 hb e1 (.bl true)
    | false => exact hb F0 H0 F1 H1 σ A1 QK fun d v F2 H2 q e2 q2 => have A2 := A1.step e2;  k d v F2 H2 q (e1.trans e2) q2
theorem DE_not (h : DE K t ta ρ fun x => ∃ b, x = .bool b ∧ Q (.bool (!b))) : DE K t (tNotV ta) ρ Q := fun F0 H0 F H σ A QK k =>
  h F0 H0 F H σ A _ fun x v F1 H1 hb e1 q1 => by
    have A1 := A.step e1
    obtain ⟨b, rfl, hb⟩ := hb
    cases q1
    exact ⟨b, rfl, k _ _ F1 H1 hb e1 (.bl _)⟩
theorem DE_chain {r r' : R2} (h : DE K t ta ρ fun x => DE K t tb ρ fun y => DR K r x y fun z => ∃ b, z = .bool b ∧ if b = true then DE K t tc ρ fun w => DR K r' y w Q else Q (.bool false)) :
    DE K t (tChain r r' ta tb tc) ρ Q := fun F0 H0 F H σ A QK k =>
  h F0 H0 F H σ A _ fun x v F1 H1 hb e1 q1 => have A1 := A.step e1;  hb F0 H0 F1 H1 σ A1 _ fun y w F2 H2 hr e2 q2 => have A2 := A1.step e2;  hr v w F2 H2 A2.fh (q1.up e2.ff) q2 _ fun z u F3 H3 hz g q3 => by
    obtain ⟨b, rfl, hz⟩ := hz
    cases q3
    refine ⟨b, rfl, ?_⟩
    have A3 := A2.call g
    have e3 := (e1.trans e2).trans (A2.stp g)
    cases b with
    | true => exact hz F0 H0 F3 H3 σ A3 _ fun y2 w2 F4 H4 hr2 e4 q4 => have A4 := A3.step e4;  hr2 w w2 F4 H4 A4.fh ((q2.up g.ff).up e4.ff) q4 QK fun d u F5 H5 q g2 q5 => k d u F5 H5 q ((e3.trans e4).trans (A4.stp g2)) q5
    | false => exact k _ _ F3 H3 hz e3 (.bl false)
theorem DT_test {tt : TE} {Q : Bool → Prop} (h : DE K t tt ρ fun x => ∃ b, x = .bool b ∧ Q b) : DT K t (tTest tt) ρ Q := fun F0 H0 F H σ A QK k =>
  h F0 H0 F H σ A _ fun x v F1 H1 hb e1 q1 => by
    have A1 := A.step e1
    obtain ⟨b, rfl, hb⟩ := hb
    cases q1
    exact ⟨b, rfl, k b F1 H1 hb e1⟩
theorem DT_B {tt : TE} {Q : Bool → Prop} (h : DE K t tt ρ fun x => ∃ b, x = .bool b ∧ Q b) : DT K t (tB tt) ρ Q := fun F0 H0 F H σ A QK k =>
  h F0 H0 F H σ A _ fun x v F1 H1 hb e1 q1 => by
    have A1 := A.step e1
    obtain ⟨b, rfl, hb⟩ := hb
    cases q1
    exact ⟨b, rfl, k b F1 H1 hb e1⟩
theorem DT_and {ua ub : TT} {Q : Bool → Prop} (h : DT K t ua ρ fun b => if b = true then DT K t ub ρ Q else Q false) : DT K t (tAnd ua ub) ρ Q := fun F0 H0 F H σ A QK k =>
  h F0 H0 F H σ A _ fun b F1 H1 hb e1 => by
    have A1 := A.step e1
    cases b with
    | true => exact hb F0 H0 F1 H1 σ A1 QK fun d F2 H2 q e2 => have A2 := A1.step e2;  k d F2 H2 q (e1.trans e2)
    | false => exact k _ F1 H1 hb e1
theorem DT_or {ua ub : TT} {Q : Bool → Prop} (h : DT K t ua ρ fun b => if b = true then Q true else DT K t ub ρ Q) : DT K t (tOr ua ub) ρ Q := fun F0 H0 F H σ A QK k =>
  h F0 H0 F H σ A _ fun b F1 H1 hb e1 => by
    have A1 := A.step e1
    cases b with
    | true => exact k _ F1 H1 hb e1
    | false => exact hb F0 H0 F1 H1 σ A1 QK fun d F2 H2 q e2 => have A2 := A1.step e2;  k d F2 H2 q (e1.trans e2)
theorem DT_not {ua : TT} {Q : Bool → Prop} (h : DT K t ua ρ fun b => Q (!b)) : DT K t (tNot ua) ρ Q := fun F0 H0 F H σ A QK k =>
  h F0 H0 F H σ A _ fun b F1 H1 hb e1 => have A1 := A.step e1;  k _ F1 H1 hb e1
theorem DT_yes {Q : Bool → Prop} (h : Q true) : DT K t tYes ρ Q := fun F0 H0 F H σ A QK k => k true F H h A.rfl
theorem DO_no {Q : Option Int → Prop} (h : Q none) : DO K t tNoPart ρ Q := fun F0 H0 F H σ A QK k => k none F H h A.rfl
theorem DO_at {Q : Option Int → Prop} (h : DE K t te ρ fun x => ∃ z, x = .int z ∧ Q (some z)) : DO K t (tPart te) ρ Q := fun F0 H0 F H σ A QK k =>
  h F0 H0 F H σ A _ fun x v F1 H1 hb e1 q1 => by
    have A1 := A.step e1
    obtain ⟨b, rfl, hb⟩ := hb
    cases q1
    exact ⟨b, rfl, k _ F1 H1 hb e1⟩

/-! slices -/
theorem cutV_dqs {F : Hp} {ds : List PyData} {xs : List V} (lo hi : Option Int) (h : Dqs K F ds xs) :
    Dqs K F ((ds.drop (HT.sIx ds.length 0 lo)).take (HT.sIx ds.length ds.length hi - HT.sIx ds.length 0 lo)) (cutV xs lo hi) := by
  unfold cutV
  rw [h.len]
  exact (h.drop _).take _
def cutD (ds : List PyData) (lo hi : Option Int) : List PyData := (ds.drop (HT.sIx ds.length 0 lo)).take (HT.sIx ds.length ds.length hi - HT.sIx ds.length 0 lo)
theorem DL_sl {tl th : TO} {Q : List PyData → Prop} (h : DE K t te ρ fun x => ∃ ds, x = .list ds ∧ DO K t tl ρ fun lo => DO K t th ρ fun hi => Q (cutD ds lo hi)) : DL K t (tSl (rSlL K) te tl th) ρ Q := fun F0 H0 F H σ A QK k =>
  h F0 H0 F H σ A _ fun x v F1 H1 hb e1 q1 => by
    have A1 := A.step e1
    obtain ⟨ds, rfl, hb⟩ := hb
    refine hb F0 H0 F1 H1 σ A1 _ fun lo F2 H2 hc e2 => have A2 := A1.step e2;  hc F0 H0 F2 H2 σ A2 _ fun hi F3 H3 q e3 => ?_
    have A3 := ((A.step e1).step e2).step e3
    have q2 := (q1.up e2.ff).up e3.ff
    cases q2 with
    | @lst a xs _ s1 s2 =>
      refine ⟨a, xs, rfl, Evl.ex_l A3.fh s1, fun p n => ?_⟩
      have g := Gr.free A3.fh (o := .lst (cutV xs lo hi)) n
      exact k _ p _ _ _ q (((e1.trans e2).trans e3).trans (A3.stp g)) (((e1.trans e2).trans e3).back n) (ex_none A3.fh n) upd_same (cutV_dqs lo hi s2)
theorem DE_slT {tl th : TO} (h : DE K t te ρ fun x => ∃ ds, x = .tuple ds ∧ DO K t tl ρ fun lo => DO K t th ρ fun hi =>
    ¬ (HT.sIx ds.length 0 lo = 0 ∧ HT.sIx ds.length ds.length hi = ds.length) ∧ Q (.tuple (cutD ds lo hi))) : DE K t (tSl (rSlT K) te tl th) ρ Q := fun F0 H0 F H σ A QK k =>
  h F0 H0 F H σ A _ fun x v F1 H1 hb e1 q1 => by
    have A1 := A.step e1
    obtain ⟨ds, rfl, hb⟩ := hb
    refine hb F0 H0 F1 H1 σ A1 _ fun lo F2 H2 hc e2 => have A2 := A1.step e2;  hc F0 H0 F2 H2 σ A2 _ fun hi F3 H3 q e3 => ?_
    have A3 := ((A.step e1).step e2).step e3
    have q2 := (q1.up e2.ff).up e3.ff
    cases q2 with
    | @tup a xs _ s1 s2 =>
      refine ⟨a, xs, rfl, Evl.ex_t A3.fh s1, by rw [s2.len]; exact q.1, fun p n => ?_⟩
      have g := Gr.new A3.fh (o := .tup (cutV xs lo hi)) n
      exact k _ _ _ _ q.2 (((e1.trans e2).trans e3).trans (A3.stp g)) (.tup (.inl (.inl upd_same)) ((cutV_dqs lo hi s2).up g.ff))

/-! ### operations over data -/
theorem DR_I0 {g : Int → Int → V} {g' : Int → Int → PyData} {x y : PyData} (hg : ∀ F i j, Dq K F (g' i j) (g i j)) (h : ∃ i j, x = .int i ∧ y = .int j ∧ Q (g' i j)) : DR K (rI0 g) x y Q := fun v w F H e q1 q2 QK k => by
  obtain ⟨i, j, rfl, rfl, q⟩ := h
  cases q1
  cases q2
  exact ⟨i, j, rfl, rfl, k _ _ F H q (Gr.refl e) (hg F i j)⟩
theorem DR_I {C : Int → Int → Prop} {g : Int → Int → V} {g' : Int → Int → PyData} {x y : PyData} (hg : ∀ F i j, Dq K F (g' i j) (g i j)) (h : ∃ i j, x = .int i ∧ y = .int j ∧ C i j ∧ Q (g' i j)) : DR K (rI C g) x y Q := fun v w F H e q1 q2 QK k => by
  obtain ⟨i, j, rfl, rfl, c, q⟩ := h
  cases q1
  cases q2
  exact ⟨i, j, rfl, rfl, c, k _ _ F H q (Gr.refl e) (hg F i j)⟩
theorem DR_l {r r' : R2} {x y : PyData} (h : DR K r x y Q) : DR K (fun a b H Q => r a b H Q ∨ r' a b H Q) x y Q := fun v w F H e q1 q2 QK k => .inl (h v w F H e q1 q2 QK k)
theorem DR_r {r r' : R2} {x y : PyData} (h : DR K r' x y Q) : DR K (fun a b H Q => r a b H Q ∨ r' a b H Q) x y Q := fun v w F H e q1 q2 QK k => .inr (h v w F H e q1 q2 QK k)
theorem DR_ixL {x y : PyData} (h : ∃ ds i d, x = .list ds ∧ y = .int i ∧ atI ds i = some d ∧ Q d) : DR K (rIxL K) x y Q := fun v w F H e q1 q2 QK k => by
  obtain ⟨ds, i, d, rfl, rfl, ha, q⟩ := h
  cases q2
  cases q1 with
  | @lst a xs _ s1 s2 =>
    unfold atI at ha
    cases hj : ixN ds.length i with
    | none => rw [hj] at ha; cases ha
    | some j =>
      rw [hj] at ha
      obtain ⟨u, hu, z⟩ := s2.at (i := j) ha
      refine ⟨a, xs, i, u, rfl, rfl, Evl.ex_l e s1, ?_, k _ _ F H q (Gr.refl e) z⟩
      unfold atI
      rw [s2.len, hj]
      exact hu
theorem DR_ixT {x y : PyData} (h : ∃ ds i d, x = .tuple ds ∧ y = .int i ∧ atI ds i = some d ∧ Q d) : DR K (rIxT K) x y Q := fun v w F H e q1 q2 QK k => by
  obtain ⟨ds, i, d, rfl, rfl, ha, q⟩ := h
  cases q2
  cases q1 with
  | @tup a xs _ s1 s2 =>
    unfold atI at ha
    cases hj : ixN ds.length i with
    | none => rw [hj] at ha; cases ha
    | some j =>
      rw [hj] at ha
      obtain ⟨u, hu, z⟩ := s2.at (i := j) ha
      refine ⟨a, xs, i, u, rfl, rfl, Evl.ex_t e s1, ?_, k _ _ F H q (Gr.refl e) z⟩
      unfold atI
      rw [s2.len, hj]
      exact hu
/-- xs[i], t[i] by the one rule -/
theorem DR_ix {x y : PyData} (h : (∃ ds i d, x = .list ds ∧ y = .int i ∧ atI ds i = some d ∧ Q d) ∨ (∃ ds i d, x = .tuple ds ∧ y = .int i ∧ atI ds i = some d ∧ Q d)) : DR K (rIx K) x y Q := fun v w F H e q1 q2 QK k =>
  h.elim (fun h => .inl (DR_ixL h v w F H e q1 q2 QK k)) fun h => .inr (.inl (DR_ixT h v w F H e q1 q2 QK k))
mutual
theorem Dq.dp {F : Hp} : ∀ (d : PyData) (v : V), PyData.plain d = true → Dq K F d v → Dp K F v d
  | .none, _, _, .non => .non
  | .bool _, _, _, .bl b => .bl b
  | .int _, _, _, .int i => .int i
  | .str _, _, _, .str x => .str x
  | .list ds, _, h, .lst h1 h2 => .lst h1 (Dqs.dp ds _ (by simpa only [PyData.plain] using h) h2)
  | .tuple ds, _, h, .tup h1 h2 => .tup h1 (Dqs.dp ds _ (by simpa only [PyData.plain] using h) h2)
  | .dict _, _, h, _ => by simp [PyData.plain] at h
theorem Dqs.dp {F : Hp} : ∀ (ds : List PyData) (vs : List V), PyData.plainAll ds = true → Dqs K F ds vs → DpAll K F vs ds
  | [], _, _, .nil => .nil
  | d :: ds, _, h, .cons h1 h2 => by
    have h' : d.plain = true ∧ PyData.plainAll ds = true := by simpa [PyData.plainAll] using h
    exact .cons (Dq.dp d _ h'.1 h1) (Dqs.dp ds _ h'.2 h2)
end
mutual
theorem dp_mono {F F' : Hp} (e : Ex F F') : ∀ (d : PyData) (v : V), Dp K F v d → Dp K F' v d
  | .none, _, .non => .non
  | .bool _, _, .bl b => .bl b
  | .int _, _, .int i => .int i
  | .str _, _, .str x => .str x
  | .list ds, _, .lst h1 h2 => .lst (Evl.ex_l e h1) (dps_mono e ds _ h2)
  | .tuple ds, _, .tup h1 h2 => .tup (Evl.ex_t e h1) (dps_mono e ds _ h2)
theorem dps_mono {F F' : Hp} (e : Ex F F') : ∀ (ds : List PyData) (vs : List V), DpAll K F vs ds → DpAll K F' vs ds
  | [], _, .nil => .nil
  | d :: ds, _, .cons h1 h2 => .cons (dp_mono e d _ h1) (dps_mono e ds _ h2)
end
theorem plain_of_shaped {d : PyData} (h : SeqAt.shaped d = true) : d.plain = true := PyData.plain_of_canLay0 d (SeqAt.canLay_of_shaped h)
/-- == where one side may hold what has no data of its own: lists of different lengths -/
def rLen (K : PySem.W.Frag) (b : Bool) : R2 := fun x y H Q => ∃ l r xs ys, x = .ref l ∧ y = .ref r ∧ SqL K H l xs ∧ SqL K H r ys ∧ xs.length ≠ ys.length ∧ Q (.bl b) H
def rStr (g : Bool → Bool) : R2 := fun x y H Q => ∃ i j, x = .str i ∧ y = .str j ∧ Q (.bl (g (decide (i = j)))) H
def rEqU (K : PySem.W.Frag) : R2 := fun x y H Q => rEqD K x y H Q ∨ rLen K false x y H Q ∨ rStr id x y H Q
def rNeU (K : PySem.W.Frag) : R2 := fun x y H Q => rNeD K x y H Q ∨ rLen K true x y H Q ∨ rStr not x y H Q
theorem DR_eq {x y : PyData} (h : SeqAt.shaped x = true ∧ SeqAt.shaped y = true ∧ Q (.bool (PyData.eqv x y))) : DR K (rEqU K) x y Q := fun v w F H e q1 q2 QK k => .inl
  ⟨x, y, dp_mono e x v (Dq.dp x v (plain_of_shaped h.1) q1), dp_mono e y w (Dq.dp y w (plain_of_shaped h.2.1) q2), h.1, h.2.1, k _ _ F H h.2.2 (Gr.refl e) (.bl _)⟩
theorem DR_ne {x y : PyData} (h : SeqAt.shaped x = true ∧ SeqAt.shaped y = true ∧ Q (.bool (!PyData.eqv x y))) : DR K (rNeU K) x y Q := fun v w F H e q1 q2 QK k => .inl
  ⟨x, y, dp_mono e x v (Dq.dp x v (plain_of_shaped h.1) q1), dp_mono e y w (Dq.dp y w (plain_of_shaped h.2.1) q2), h.1, h.2.1, k _ _ F H h.2.2 (Gr.refl e) (.bl _)⟩
theorem DR_len {b : Bool} {x y : PyData} (h : ∃ ds es, x = .list ds ∧ y = .list es ∧ ds.length ≠ es.length ∧ Q (.bool b)) : DR K (rLen K b) x y Q := fun v w F H e q1 q2 QK k => by
  obtain ⟨ds, es, rfl, rfl, hl, q⟩ := h
  cases q1 with
  | @lst a xs _ s1 s2 =>
    cases q2 with
    | @lst b ys _ s3 s4 => exact ⟨a, b, xs, ys, rfl, rfl, Evl.ex_l e s1, Evl.ex_l e s3, by rw [s2.len, s4.len]; exact hl, k _ _ F H q (Gr.refl e) (.bl _)⟩
theorem DR_str {g : Bool → Bool} {x y : PyData} (h : ∃ a b, x = .str a ∧ y = .str b ∧ Q (.bool (g (decide (a = b))))) : DR K (rStr g) x y Q := fun v w F H e q1 q2 QK k => by
  obtain ⟨a, b, rfl, rfl, q⟩ := h
  cases q1
  cases q2
  exact ⟨a, b, rfl, rfl, k _ _ F H q (Gr.refl e) (.bl _)⟩
theorem DR_neS {x y : PyData} (h : ∃ a b, x = .str a ∧ y = .str b ∧ Q (.bool (!decide (a = b)))) : DR K (rNeU K) x y Q := DR_r (DR_r (DR_str h))
/-- a list == [] -/
theorem DR_eqNil {x y : PyData} (h : ∃ ds, x = .list ds ∧ y = .list [] ∧ Q (.bool (decide (ds = [])))) : DR K (rEqU K) x y Q := by
  obtain ⟨ds, rfl, rfl, q⟩ := h
  cases ds with
  | nil => exact DR_eq ⟨rfl, rfl, q⟩
  | cons d ds => exact DR_r (DR_l (DR_len ⟨_, _, rfl, rfl, by simp, q⟩))
end
end Cf
namespace Cf
open PySem PySem.Spec PyProof.Rows L2
open Evl (Ex)

/-- what follows, what is returned, break, continue -/
def DS (K : PySem.W.Frag) (t : Option Addr) (ts : TS) (ρ : Rho) (N : Rho → Prop) (R : PyData → Prop) (B C : Rho → Prop) : Prop :=
  ∀ (F0 H0 F H : Hp) (σ : L2.St) (D : Ends), At K t F0 H0 F H σ ρ →
    (∀ ρ' F' H' σ', N ρ' → At K t F0 H0 F' H' σ' ρ' → Ex F F' → D.nx σ' H') →
    (∀ d v F' H', R d → Gr t F0 H0 F' H' → TpOk t F' H' → Dq K F' d v → D.rt v H') →
    (∀ ρ' F' H' σ', B ρ' → At K t F0 H0 F' H' σ' ρ' → Ex F F' → D.bk σ' H') →
    (∀ ρ' F' H' σ', C ρ' → At K t F0 H0 F' H' σ' ρ' → Ex F F' → D.ct σ' H') → ts D σ H
abbrev NoR : Rho → Prop := fun _ => False

section
variable {K : PySem.W.Frag} {t : Option Addr} {ρ : Rho} {i : Nat} {d : PyData} {te ta tb tc : TE} {t1 t2 : TS} {N B C : Rho → Prop} {R : PyData → Prop}
theorem DS.mono {N' B' C' : Rho → Prop} {R' : PyData → Prop} (h : DS K t t1 ρ N R B C) (hN : ∀ x, N x → N' x) (hR : ∀ x, R x → R' x) (hB : ∀ x, B x → B' x) (hC : ∀ x, C x → C' x) : DS K t t1 ρ N' R' B' C' :=
  fun F0 H0 F H σ D A kn kr kb kc => h F0 H0 F H σ D A (fun r F' H' s q => kn r F' H' s (hN r q)) (fun d v F' H' q => kr d v F' H' (hR d q)) (fun r F' H' s q => kb r F' H' s (hB r q)) fun r F' H' s q => kc r F' H' s (hC r q)
theorem DS_seq (h : DS K t t1 ρ (fun ρ1 => DS K t t2 ρ1 N R B C) R B C) : DS K t (tSeq t1 t2) ρ N R B C := fun F0 H0 F H σ D A kn kr kb kc => by
  refine h F0 H0 F H σ { D with nx := t2 D } A (fun r F1 H1 s1 q A1 e1 => ?_) kr kb kc
  exact q F0 H0 F1 H1 s1 D A1 (fun r F' H' s q A' e => kn r F' H' s q A' (e1.trans e)) kr (fun r F' H' s q A' e => kb r F' H' s q A' (e1.trans e)) fun r F' H' s q A' e => kc r F' H' s q A' (e1.trans e)
theorem DS_next (q : N ρ) : DS K t tNext ρ N R B C := fun F0 H0 F H σ D A kn kr kb kc => kn ρ F H σ q A (Ex.refl F)
theorem DS_set (h : DE K t te ρ fun d => N (ρ.set i (.sh d))) : DS K t (tAsg te (gName i)) ρ N R B C := fun F0 H0 F H σ D A kn kr kb kc =>
  h F0 H0 F H σ A _ fun d v F1 H1 q e1 z => kn _ F1 H1 _ q ((A.step e1).set (s := .sh d) ⟨v, rfl, z⟩ fun _ e => by cases e) e1.ff
theorem DS_setOw (h : DL K t te ρ fun ds => N (ρ.set i (.ow ds))) : DS K t (tAsg te (gName i)) ρ N R B C := fun F0 H0 F H σ D A kn kr kb kc =>
  h F0 H0 F H σ A _ fun ds p xs F1 H1 q e1 n n1 n2 z => have f := A.fs n; kn _ F1 H1 _ q ((A.step e1).setOw ⟨p, xs, rfl, n2, n1, f.old, f.tap, z⟩ fun j es _ h => f.own j es h) e1.ff
theorem DS_drop (h : DE K t te ρ fun _ => N ρ) : DS K t (tDrop te) ρ N R B C := fun F0 H0 F H σ D A kn kr kb kc =>
  h F0 H0 F H σ A _ fun d v F1 H1 q e1 z => kn _ F1 H1 _ q (A.step e1) e1.ff
theorem DS_ret (h : DE K t te ρ R) : DS K t (tRet te) ρ N R B C := fun F0 H0 F H σ D A kn kr kb kc =>
  h F0 H0 F H σ A _ fun d v F1 H1 q e1 z => kr d v F1 H1 q (A.step e1).gr e1.tp z
theorem DS_retN (h : R .none) : DS K t tRetN ρ N R B C := fun F0 H0 F H σ D A kn kr kb kc => kr _ _ F H h A.gr A.tp .non
theorem DS_freeze {ds : List PyData} (h : ρ[i]? = some (.ow ds)) (q : DS K t t1 (ρ.set i (.sh (.list ds))) N R B C) : DS K t t1 ρ N R B C := fun F0 H0 F H σ D A kn kr kb kc => by
  obtain ⟨F', A', e⟩ := A.freeze h
  exact q F0 H0 F' H σ D A' (fun r F1 H1 s q a e1 => kn r F1 H1 s q a (e.trans e1)) kr (fun r F1 H1 s q a e1 => kb r F1 H1 s q a (e.trans e1)) fun r F1 H1 s q a e1 => kc r F1 H1 s q a (e.trans e1)
theorem DS_if {c : TT} (h : DT K t c ρ fun b => if b = true then DS K t t1 ρ N R B C else DS K t t2 ρ N R B C) : DS K t (tIfS c t1 t2) ρ N R B C := fun F0 H0 F H σ D A kn kr kb kc =>
  h F0 H0 F H σ A _ fun b F1 H1 hb s1 => by
    have A1 := A.step s1
    have e1 := s1.ff
    cases b with
    | true => exact hb F0 H0 F1 H1 σ D A1 (fun r F' H' s q A' e => kn r F' H' s q A' (e1.trans e)) kr (fun r F' H' s q A' e => kb r F' H' s q A' (e1.trans e)) fun r F' H' s q A' e => kc r F' H' s q A' (e1.trans e)
    | false => exact hb F0 H0 F1 H1 σ D A1 (fun r F' H' s q A' e => kn r F' H' s q A' (e1.trans e)) kr (fun r F' H' s q A' e => kb r F' H' s q A' (e1.trans e)) fun r F' H' s q A' e => kc r F' H' s q A' (e1.trans e)
/-- a, b, .. = a tuple -/
def setAll : List Nat → List PyData → Rho → Rho
  | i :: is, d :: ds, ρ => setAll is ds (ρ.set i (.sh d))
  | _, _, ρ => ρ
def gNames : List Nat → TGs
  | [] => gNil
  | i :: is => gCons (gName i) (gNames is)
theorem names_run {F0 H0 F H : Hp} : ∀ (is : List Nat) (ds : List PyData) (vs : List V) (σ : L2.St) (ρ : Rho) (Q : L2.St → Hp → Prop), is.length = ds.length → Dqs K F ds vs → At K t F0 H0 F H σ ρ →
    (∀ σ', At K t F0 H0 F H σ' (setAll is ds ρ) → Q σ' H) → gNames is vs σ H Q
  | [], [], _, σ, ρ, Q, _, .nil, A, k => ⟨rfl, k σ A⟩
  | i :: is, d :: ds, v :: vs, σ, ρ, Q, hl, .cons h1 h2, A, k => ⟨v, vs, rfl, names_run is ds vs _ _ Q (by simpa using hl) h2 (A.set (i := i) (s := .sh d) ⟨v, rfl, h1⟩ fun _ e => by cases e) k⟩
theorem DS_unpack {is : List Nat} {n : Nat} (h : DE K t te ρ fun x => ∃ ds, x = .tuple ds ∧ ds.length = n ∧ is.length = n ∧ N (setAll is ds ρ)) : DS K t (tAsg te (gTup K n (gNames is))) ρ N R B C := fun F0 H0 F H σ D A kn kr kb kc =>
  h F0 H0 F H σ A _ fun x v F1 H1 hq s1 z => by
    have A1 := A.step s1
    have e1 := s1.ff
    obtain ⟨ds, rfl, h1, h2, q⟩ := hq
    cases z with
    | @tup a xs _ s1 s2 =>
      exact ⟨a, xs, rfl, Evl.ex_t A1.fh s1, by rw [s2.len, h1], names_run is ds xs σ ρ _ (by rw [h1, h2]) s2 A1 fun σ' A' => kn _ F1 H1 σ' q A' e1⟩
/-- a, b = x, y, two different names -/
theorem DS_par {i j : Nat} {tr : TA} (h : DA K t tr ρ fun xs => ∃ d e, xs = [d, e] ∧ N ((ρ.set i (.sh d)).set j (.sh e))) : DS K t (tPar i j tr) ρ N R B C := fun F0 H0 F H σ D A kn kr kb kc =>
  h F0 H0 F H σ A _ fun xs vs F1 H1 hq s1 z => by
    have A1 := A.step s1
    have e1 := s1.ff
    obtain ⟨d, e, rfl, q⟩ := hq
    obtain ⟨v, w, rfl, z1, z2⟩ := dqs2 z
    exact ⟨v, w, rfl, kn _ F1 H1 _ q ((A1.set (i := i) (s := .sh d) ⟨v, rfl, z1⟩ fun _ e => by cases e).set (i := j) (s := .sh e) ⟨w, rfl, z2⟩ fun _ e => by cases e) e1⟩
/-- xs.append(e), xs a list of its own -/
theorem DS_append {ds : List PyData} (h : ρ[i]? = some (.ow ds)) (hl : ds.length < 100000) (he : DE K t te ρ fun d => N (ρ.set i (.ow (ds ++ [d])))) : DS K t (tDrop (tBM K "list" rAppend (tVar i) (tCons te tNil))) ρ N R B C :=
  fun F0 H0 F H σ D A kn kr kb kc => by
    obtain ⟨p, xs, e, h1, h2, h3, h4, h5⟩ := A.own h
    refine ⟨.ref p, e, .inl ⟨rfl, xs, .inl (.inl h1)⟩, he F0 H0 F H σ A _ fun d v F1 H1 q s1 z => ?_⟩
    have A1 := A.step s1
    have e1 := s1.ff
    obtain ⟨p', xs', e', g1, g2, g3, g4, g5⟩ := A1.own h
    rw [e] at e'
    cases e'
    exact ⟨p, xs', v, rfl, rfl, g1, Evl.sz_lt (by rw [g5.len]; exact hl), kn _ F1 _ σ q (A1.put h e (g5.app (.cons z .nil))) e1⟩
theorem atI_dqs {F : Hp} {ds : List PyData} {xs : List V} {z : Int} {d : PyData} (h : Dqs K F ds xs) (ha : atI ds z = some d) : ∃ v, atI xs z = some v ∧ Dq K F d v := by
  unfold atI at ha ⊢
  rw [h.len]
  cases hj : ixN ds.length z with
  | none => rw [hj] at ha; cases ha
  | some j =>
    rw [hj] at ha
    obtain ⟨u, hu, q⟩ := h.at (i := j) ha
    exact ⟨u, hu, q⟩
/-- xs[k] of a list of its own -/
theorem DE_ixOw {ds : List PyData} {Q : PyData → Prop} (h : ρ[i]? = some (.ow ds)) (he : DE K t te ρ fun y => ∃ z d, y = .int z ∧ atI ds z = some d ∧ Q d) : DE K t (tOp (rIx K) (tVar i) te) ρ Q := fun F0 H0 F H σ A QK k => by
  obtain ⟨p, xs, e, _⟩ := A.own h
  refine ⟨.ref p, e, he F0 H0 F H σ A _ fun y w F1 H1 hq s1 z => ?_⟩
  have A1 := A.step s1
  obtain ⟨m, d, rfl, ha, q⟩ := hq
  cases z
  obtain ⟨p', xs', e', g1, g2, g3, g4, g5⟩ := A1.own h
  rw [e] at e'
  cases e'
  obtain ⟨v, hv, zq⟩ := atI_dqs g5 ha
  exact .inl ⟨p, xs', m, v, rfl, rfl, .inl (.inl g1), hv, k d v F1 H1 q s1 zq⟩
/-! ### loops -/
theorem DS_for {g : TG} {J : It} {n : Nat} {G : Hp → Prop} {Y : Nat → Hp → V → Hp → Prop} {F0 H0 F H : Hp} {σ : L2.St} {D : Ends} (w : Walk J n G Y) (I : Nat → Rho → Prop) (A : At K t F0 H0 F H σ ρ) (h0 : I 0 ρ)
    (hG : ∀ F' H', Ex F F' → Ex F' H' → G H')
    (kn : ∀ ρ' F' H' σ', I n ρ' → At K t F0 H0 F' H' σ' ρ' → Ex F F' → D.nx σ' H')
    (hs : ∀ k x σ' ρ' F1 H1 H2 (Nx : L2.St → Hp → Prop), k < n → I k ρ' → At K t F0 H0 F1 H1 σ' ρ' → Ex F F1 → Y k H1 x H2 →
      (∀ ρ2 F2 H3 σ2, I (k + 1) ρ2 → At K t F0 H0 F2 H3 σ2 ρ2 → Ex F F2 → Nx σ2 H3) → g x σ' H2 fun σ2 H3 => t1 { D with nx := Nx, ct := Nx, bk := D.nx } σ2 H3) :
    ∃ W : Nat → Nat → L2.St → Hp → Prop, (∃ m, W 0 m σ H) ∧ ∀ i m σ H, W i m σ H →
      (J.stop i H ∧ D.nx σ H) ∨ (J.go i H ∧ ∃ N : L2.St → Hp → Prop, (∀ σ' H', N σ' H' → ∃ m', m' < m ∧ W (i + 1) m' σ' H') ∧ ∀ x H', J.yld i H x H' → g x σ H' fun σ2 H2 => t1 { D with nx := N, ct := N, bk := D.nx } σ2 H2) := by
  refine for_it w (fun k σ' H' => ∃ F' ρ', I k ρ' ∧ At K t F0 H0 F' H' σ' ρ' ∧ Ex F F') ⟨F, ρ, h0, A, Ex.refl F⟩ (fun k σ' H' _ ⟨F', ρ', _, A', e⟩ => hG F' H' e A'.fh) ?_ fun σ' H' ⟨F', ρ', q, A', e⟩ => kn ρ' F' H' σ' q A' e
  rintro k x σ' H1 H2 hk ⟨F1, ρ', q, A1, e1⟩ y
  exact hs k x σ' ρ' F1 H1 H2 _ hk q A1 e1 y fun ρ2 F2 H3 σ2 q2 A2 e2 => ⟨F2, ρ2, q2, A2, e2⟩
theorem forR_core {F0 H0 F H : Hp} {σ : L2.St} {D : Ends} {lo : Int} {n : Nat} {I : Nat → Rho → Prop} (A : At K t F0 H0 F H σ ρ) (h0 : I 0 ρ) (hs : ∀ k ρ', k < n → I k ρ' → DS K t t1 (ρ'.set i (.sh (.int (lo + k)))) (I (k + 1)) R N (I (k + 1))) (hd : ∀ ρ', I n ρ' → N ρ')
    (kn : ∀ ρ' F' H' σ', N ρ' → At K t F0 H0 F' H' σ' ρ' → Ex F F' → D.nx σ' H') (kr : ∀ d v F' H', R d → Gr t F0 H0 F' H' → TpOk t F' H' → Dq K F' d v → D.rt v H') :
    ∃ W : Nat → Nat → L2.St → Hp → Prop, (∃ m, W 0 m σ H) ∧ ∀ j m σ H, W j m σ H →
      ((Itr lo n).stop j H ∧ D.nx σ H) ∨ ((Itr lo n).go j H ∧ ∃ N : L2.St → Hp → Prop, (∀ σ' H', N σ' H' → ∃ m', m' < m ∧ W (j + 1) m' σ' H') ∧ ∀ x H', (Itr lo n).yld j H x H' → gName i x σ H' fun σ2 H2 => t1 { D with nx := N, ct := N, bk := D.nx } σ2 H2) := by
  refine DS_for (walk_range (lo := lo) (n := n)) I A h0 (fun _ _ _ _ => trivial) (fun ρ' F' H' σ' q A' e => kn ρ' F' H' σ' (hd ρ' q) A' e) ?_
  rintro k x σ' ρ' F2 H2 H3 Nx hk q A2 e2 ⟨rfl, rfl⟩ kN
  exact hs k ρ' hk q F0 H0 F2 _ _ _ (A2.set (i := i) (s := .sh _) ⟨_, rfl, .int _⟩ fun _ e => by cases e) (fun r F' H' s q A' e => kN r F' H' s q A' (e2.trans e)) kr
    (fun r F' H' s q A' e => kn r F' H' s q A' (e2.trans e)) fun r F' H' s q A' e => kN r F' H' s q A' (e2.trans e)
/-- for x in range(n) -/
theorem DS_forR1 {tr : TA} (h : DA K t tr ρ fun xs => ∃ j : Int, xs = [.int j] ∧ ∃ I : Nat → Rho → Prop, I 0 ρ ∧
      (∀ k ρ', k < j.toNat → I k ρ' → DS K t t1 (ρ'.set i (.sh (.int (0 + k)))) (I (k + 1)) R N (I (k + 1))) ∧ ∀ ρ', I j.toNat ρ' → N ρ') : DS K t (tFor (iRg1 tr) (gName i) t1) ρ N R B C := fun F0 H0 F H σ D A kn kr kb kc =>
  h F0 H0 F H σ A _ fun xs vs F1 H1 hq s1 z => by
    have A1 := A.step s1
    have e1 := s1.ff
    obtain ⟨j, rfl, I, h0, hs, hd⟩ := hq
    obtain ⟨v, rfl, z1⟩ := dqs1 z
    cases z1
    exact ⟨j, rfl, forR_core A1 h0 hs hd (fun r F' H' s q A' e => kn r F' H' s q A' (e1.trans e)) kr⟩
/-! ### comprehensions -/
theorem Stp.write {F H F' H' : Hp} {D : Addr} {o : HO} (e : Stp t F H F' H') (nt : t ≠ some D) (n : H D = none) (m : F' D = none) : Stp t F H F' (upd H' D o) where
  g := ⟨e.ff, fun a u w q => by
    rw [upd_ne (fun z => by rw [z, n] at q; cases q)]
    exact e.g.hh a u w q, fun a u q => by
    rw [upd_ne (fun z => by rw [z, m] at q; cases q)]
    exact e.g.fh a u q, e.g.nw⟩
  tp := fun a q => by
    obtain ⟨w1, x, y, z, w2, w3⟩ := e.tp a q
    refine ⟨w1, x, y, z, ?_, w3⟩
    rw [upd_ne (fun h => nt (by rw [q, h]))]
    exact w2
/-- one turn's slots: what the target stores -/
structure Tn (K : PySem.W.Frag) (t : Option Addr) (ρ : Rho) (σ : L2.St) (own : List Nat) (g : TG) (x : V) (F1 H1 F2 H2 : Hp) (ρ2 : Rho) : Prop where
  ex : ∃ σ2, (∀ Qn : L2.St → Hp → Prop, Qn σ2 H2 → g x (wipe σ own) H2 Qn) ∧ wipe σ2 own = wipe σ own ∧ ∀ F0 H0, At K t F0 H0 F1 H1 σ ρ → At K t F0 H0 F2 H2 σ2 ρ2
  st : Stp t F1 H1 F2 H2
theorem DL_lc {g : TG} {own : List Nat} {tt : TT} {J : It} {n : Nat} {G : Hp → Prop} {Y : Nat → Hp → V → Hp → Prop} {F0 H0 F H : Hp} {σ : L2.St} {QK : VK} {D : Addr} (w : Walk J n G Y) (I : Nat → List PyData → Prop) (A : At K t F0 H0 F H σ ρ) (nD : H D = none)
    (h0 : I 0 []) (hG : ∀ F' H', Ex F F' → Ex F' H' → G H')
    (hY : ∀ k x F1 H1 H2, k < n → At K t F0 H0 F1 H1 σ ρ → Ex F F1 → Y k H1 x H2 → ∃ F2 ρ2, Tn K t ρ σ own g x F1 H1 F2 H2 ρ2 ∧ ∀ acc, I k acc → acc.length < 100000 ∧ DT K t tt ρ2 fun b => if b = true then DE K t te ρ2 (fun y => I (k + 1) (acc ++ [y])) else I (k + 1) acc)
    (k : ∀ ds xs F' H', I n ds → Stp t F H F' H' → F' D = none → H' D = some (.lst xs) → Dqs K F' ds xs → QK (.ref D) H') :
    ∃ W : Nat → Nat → Hp → Prop, (∃ m, W 0 m (upd H D (.lst []))) ∧ ∀ j m H, W j m H →
      (J.stop j H ∧ QK (.ref D) H) ∨ (J.go j H ∧ ∃ Nx : Hp → Prop, (∀ H', Nx H' → ∃ m', m' < m ∧ W (j + 1) m' H') ∧ ∀ x H', J.yld j H x H' → g x (wipe σ own) H' fun σ2 H2 => wipe σ2 own = wipe σ own ∧ tt σ2 H2 fun b H3 =>
        if b = true then te σ2 H3 fun y H4 => ∃ acc, H4 D = some (.lst acc) ∧ acc.length < sizeLine ∧ Nx (upd H4 D (.lst (acc ++ [y]))) else Nx H3) := by
  refine lc_it w (fun k H' => ∃ F' ds xs, I k ds ∧ Stp t F H F' H' ∧ F' D = none ∧ H' D = some (.lst xs) ∧ Dqs K F' ds xs) ⟨F, [], [], h0, A.stp (Gr.free A.fh nD), ex_none A.fh nD, upd_same, .nil⟩
    (fun k H' _ ⟨F', ds, xs, _, e, _⟩ => hG F' H' e.ff e.g.fh) ?_ fun H' ⟨F', ds, xs, q, e, n1, n2, z⟩ => k ds xs F' H' q e n1 n2 z
  rintro k x H1 H2 hk ⟨F1, ds, xs, q, e1, n1, n2, z⟩ y
  have A1 := A.step e1
  obtain ⟨F2, ρ2, ⟨⟨σ2, hg, hw, hA⟩, e2⟩, hq⟩ := hY k x F1 H1 H2 hk A1 e1.ff y
  obtain ⟨hl, hq⟩ := hq ds q
  have A2 := hA F0 H0 A1
  have nt : t ≠ some D := (A.fs nD).tap
  have keep : ∀ {F3 H3 F4 H4 : Hp} {ys : List V}, Stp t F3 H3 F4 H4 → F3 D = none → H3 D = some (.lst ys) → F4 D = none ∧ H4 D = some (.lst ys) := fun {F3 H3 F4 H4 ys} e a b => by
    refine ⟨?_, e.g.hh D _ nt b⟩
    cases u : F4 D with
    | none => rfl
    | some o =>
      have := e.g.nw D o u a
      rw [b] at this
      cases this
  obtain ⟨l1, l2⟩ := keep e2 n1 n2
  refine hg _ ⟨hw, hq F0 H0 F2 H2 _ A2 _ fun b F3 H3 hb e3 => ?_⟩
  obtain ⟨m1, m2⟩ := keep e3 l1 l2
  cases b with
  | false => exact ⟨F3, ds, xs, hb, (e1.trans e2).trans e3, m1, m2, (z.up e2.ff).up e3.ff⟩
  | true =>
    refine hb F0 H0 F3 H3 _ (A2.step e3) _ fun y u F4 H4 hy e4 zy => ?_
    obtain ⟨r1, r2⟩ := keep e4 m1 m2
    exact ⟨xs, r2, Evl.sz_lt (by rw [z.len]; exact hl), F4, _, _, hy, (((e1.trans e2).trans e3).trans e4).write nt nD r1, r1, upd_same, (((z.up e2.ff).up e3.ff).up e4.ff).app (.cons zy .nil)⟩
theorem tn_name {σ : L2.St} {x : V} {d : PyData} {F1 H1 : Hp} (z : Dq K F1 d x) (e : Stp t F1 H1 F1 H1) : Tn K t ρ σ [i] (gName i) x F1 H1 F1 H1 (ρ.set i (.sh d)) := by
  refine ⟨⟨σ.set i (some x), fun Qn q => ?_, ?_, fun F0 H0 A => A.set (s := .sh d) ⟨x, rfl, z⟩ fun _ e => by cases e⟩, e⟩
  · show Qn ((σ.set i none).set i (some x)) H1
    rw [List.set_set]
    exact q
  · show (σ.set i (some x)).set i none = σ.set i none
    rw [List.set_set]
/-- [e for x in range(..) if c] -/
theorem DL_lcR {tt : TT} {Q : List PyData → Prop} {F0 H0 F H : Hp} {σ : L2.St} {QK : VK} {lo : Int} {n : Nat} (A : At K t F0 H0 F H σ ρ) (I : Nat → List PyData → Prop) (h0 : I 0 [])
    (hs : ∀ k acc, k < n → I k acc → acc.length < 100000 ∧ DT K t tt (ρ.set i (.sh (.int (lo + k)))) fun b => if b = true then DE K t te (ρ.set i (.sh (.int (lo + k)))) (fun y => I (k + 1) (acc ++ [y])) else I (k + 1) acc)
    (k : ∀ ds D xs F' H', I n ds → Stp t F H F' H' → H D = none → F' D = none → H' D = some (.lst xs) → Dqs K F' ds xs → QK (.ref D) H') (D : Addr) (nD : H D = none) :
    ∃ W : Nat → Nat → Hp → Prop, (∃ m, W 0 m (upd H D (.lst []))) ∧ ∀ j m H, W j m H →
      ((Itr lo n).stop j H ∧ QK (.ref D) H) ∨ ((Itr lo n).go j H ∧ ∃ Nx : Hp → Prop, (∀ H', Nx H' → ∃ m', m' < m ∧ W (j + 1) m' H') ∧ ∀ x H', (Itr lo n).yld j H x H' → gName i x (wipe σ [i]) H' fun σ2 H2 => wipe σ2 [i] = wipe σ [i] ∧ tt σ2 H2 fun b H3 =>
        if b = true then te σ2 H3 fun y H4 => ∃ acc, H4 D = some (.lst acc) ∧ acc.length < sizeLine ∧ Nx (upd H4 D (.lst (acc ++ [y]))) else Nx H3) := by
  refine DL_lc (own := [i]) (g := gName i) (walk_range (lo := lo) (n := n)) I A nD h0 (fun _ _ _ _ => trivial) (fun m x F2 H2 H3 hm A2 e2 y => ?_) fun ds' ys F' H' q e n1 n2 z => k ds' D ys F' H' q e nD n1 n2 z
  obtain ⟨rfl, rfl⟩ := y
  exact ⟨F2, _, tn_name (.int _) A2.rfl, fun acc q => hs m acc hm q⟩
theorem DL_lcR1 {tr : TA} {tt : TT} {Q : List PyData → Prop} (h : DA K t tr ρ fun xs => ∃ j : Int, xs = [.int j] ∧ ∃ I : Nat → List PyData → Prop, I 0 [] ∧
      (∀ k acc, k < j.toNat → I k acc → acc.length < 100000 ∧ DT K t tt (ρ.set i (.sh (.int (0 + k)))) fun b => if b = true then DE K t te (ρ.set i (.sh (.int (0 + k)))) (fun y => I (k + 1) (acc ++ [y])) else I (k + 1) acc) ∧ ∀ acc, I j.toNat acc → Q acc) :
    DL K t (tLc (iRg1 tr) (gName i) tt te [i]) ρ Q := fun F0 H0 F H σ A QK k =>
  h F0 H0 F H σ A _ fun xs vs F1 H1 hq e1 z => by
    obtain ⟨j, rfl, I, h0, hs, hd⟩ := hq
    obtain ⟨v, rfl, z1⟩ := dqs1 z
    cases z1
    exact ⟨j, rfl, fun D nD => DL_lcR (Q := Q) (A.step e1) I h0 hs (fun ds' D ys F' H' q e n n1 n2 z => k ds' D ys F' H' (hd ds' q) (e1.trans e) (e1.back n) n1 n2 z) D nD⟩
/-! ### calls -/
/-- the promise of a def over data that changes nothing -/
def spP (K : PySem.W.Frag) (W : List PyData → (PyData → Prop) → Prop) : Sp := fun vs H Q _ => ∃ F ds R, Ex F H ∧ Dqs K F ds vs ∧ W ds R ∧ ∀ d v F' H', R d → Gr none F H F' H' → Dq K F' d v → Q v H'
/-- the same, drawing from the list at its first argument -/
def spT (K : PySem.W.Frag) (W : List PyData → (PyData → Prop) → Prop) : Sp := fun vs H Q _ => ∃ a ws F ds R, vs = .ref a :: ws ∧ Ex F H ∧ TpOk (some a) F H ∧ Dqs K F ds ws ∧ W ds R ∧ ∀ d v F' H', R d → Gr (some a) F H F' H' → TpOk (some a) F' H' → Dq K F' d v → Q v H'
theorem DE_call {W : List PyData → (PyData → Prop) → Prop} {E : XK} {tr : TA} {Q : PyData → Prop} (h : DA K t tr ρ fun ds => W ds Q) : DE K t (tCall (spP K W) [] E tr) ρ Q := fun F0 H0 F H σ A QK k =>
  h F0 H0 F H σ A _ fun ds vs F1 H1 hq e1 z => ⟨F1, ds, Q, e1.g.fh, by rw [List.append_nil]; exact z, hq, fun d v F' H' q g zd => k d v F' H' q (e1.trans ((A.step e1).stp g)) zd⟩
theorem DE_callT {a : Addr} {W : List PyData → (PyData → Prop) → Prop} {E : XK} {tr : TA} {Q : PyData → Prop} (hi : ρ[i]? = some .tp) (h : DA K (some a) tr ρ fun ds => W ds Q) : DE K (some a) (tCall (spT K W) [] E (tCons (tVar i) tr)) ρ Q := fun F0 H0 F H σ A QK k => by
  obtain ⟨o, e, b, hb, rfl⟩ := A.slot hi
  cases hb
  exact ⟨.ref a, e, h F0 H0 F H σ A _ fun ds vs F1 H1 hq e1 z => ⟨a, vs, F1, ds, Q, by rw [List.append_nil], e1.g.fh, e1.tp, z, hq, fun d v F' H' q g tp zd => k d v F' H' q (e1.trans ⟨g, tp⟩) zd⟩⟩
/-- a fresh list of draws is handed -/
def DTp (K : PySem.W.Frag) (te : TE) (ρ : Rho) : Prop := DL K none te ρ fun ds => ∃ x y z, ds = [.int x, .int y, .int z] ∧ Tap x y z
theorem DE_callNew {W : List PyData → (PyData → Prop) → Prop} {E : XK} {Q : PyData → Prop} (h : DTp K te ρ) (hw : W [] Q) : DE K none (tCall (spT K W) [] E (tCons te tNil)) ρ Q := fun F0 H0 F H σ A QK k =>
  h F0 H0 F H σ A _ fun ds p xs F1 H1 hq e1 n n1 n2 z => by
    obtain ⟨x, y, w, rfl, ht⟩ := hq
    have ez : xs = [.int x, .int y, .int w] := Dqs.ints (ns := [x, y, w]) z
    subst ez
    refine ⟨p, [], F1, [], Q, rfl, e1.g.fh, fun a ha => ?_, .nil, hw, fun d v F' H' q g tp zd => k d v F' H' q ?_ zd⟩
    · cases ha
      exact ⟨n1, x, y, w, n2, ht⟩
    · refine ⟨⟨e1.ff.trans g.ff, fun a o _ q => g.hh a o (fun e => ?_) (e1.g.hh a o (by simp) q), g.fh, fun a o q w => ?_⟩, fun a q => by cases q⟩
      · cases e
        rw [n] at q
        cases q
      · cases u : F1 a with
        | some o' => exact e1.g.nw a o' u w
        | none => exact e1.back (g.nw a o q u)
/-- a body keeps the promise -/
theorem run_P {W : List PyData → (PyData → Prop) → Prop} {N : List Str} {vs : List V} {H : Hp} {Q : VK} {E : XK} {ts : TS} (h : spP K W vs H Q E)
    (b : ∀ ds R, W ds R → ds.length ≤ N.length ∧ DS K none ts (ds.map Sl.sh ++ List.replicate (N.length - ds.length) Sl.no) (fun _ => R .none) R NoR NoR) : ts { nx := fun _ H' => Q .non H', rt := Q } (L2.start N vs) H := by
  obtain ⟨F, ds, R, e, z, hW, k⟩ := h
  obtain ⟨hl, b⟩ := b ds R hW
  have A : At K none F H F H (L2.start N vs) (ds.map Sl.sh ++ List.replicate (N.length - ds.length) Sl.no) := by
    refine ⟨Gr.refl e, ?_, fun i o s h1 h2 => ?_, fun i j p es fs n h1 => ?_, fun a q => by cases q⟩
    · unfold L2.start
      simp [z.len]
    · unfold L2.start at h1
      by_cases hi : i < ds.length
      · rw [List.getElem?_append_left (by simpa [z.len] using hi), List.getElem?_map] at h1
        rw [List.getElem?_append_left (by simpa using hi), List.getElem?_map] at h2
        rw [List.getElem?_eq_getElem hi] at h2
        cases h2
        obtain ⟨v, hv, zd⟩ := z.at (i := i) (List.getElem?_eq_getElem hi)
        rw [hv] at h1
        cases h1
        exact ⟨v, rfl, zd⟩
      · rw [List.getElem?_append_right (by simpa using hi)] at h2
        have := List.mem_of_getElem? h2
        have := (List.mem_replicate.mp this).2
        subst this
        trivial
    · have := List.mem_of_getElem? h1
      rcases List.mem_append.mp this with m | m
      · obtain ⟨d, _, m⟩ := List.mem_map.mp m
        cases m
      · have := (List.mem_replicate.mp m).2
        cases this
  exact b F H F H _ _ A (fun ρ' F' H' σ' q A' _ => k _ _ F' H' q A'.gr .non) (fun d v F' H' q g _ zd => k d v F' H' q g zd) (fun _ _ _ _ q => q.elim) fun _ _ _ _ q => q.elim
theorem run_T {W : List PyData → (PyData → Prop) → Prop} {N : List Str} {vs : List V} {H : Hp} {Q : VK} {E : XK} {ts : TS} (h : spT K W vs H Q E)
    (b : ∀ a ds R, W ds R → ds.length + 1 ≤ N.length ∧ DS K (some a) ts (Sl.tp :: ds.map Sl.sh ++ List.replicate (N.length - (ds.length + 1)) Sl.no) (fun _ => R .none) R NoR NoR) : ts { nx := fun _ H' => Q .non H', rt := Q } (L2.start N vs) H := by
  obtain ⟨a, ws, F, ds, R, rfl, e, tp, z, hW, k⟩ := h
  obtain ⟨hl, b⟩ := b a ds R hW
  have A : At K (some a) F H F H (L2.start N (.ref a :: ws)) (Sl.tp :: ds.map Sl.sh ++ List.replicate (N.length - (ds.length + 1)) Sl.no) := by
    refine ⟨Gr.refl e, ?_, fun i o s h1 h2 => ?_, fun i j p es fs n h1 => ?_, tp⟩
    · unfold L2.start
      simp [z.len]
    · unfold L2.start at h1
      cases i with
      | zero =>
        cases h1
        cases h2
        exact ⟨a, rfl, rfl⟩
      | succ i =>
        have h1 : (ws.map some ++ List.replicate (N.length - (ws.length + 1)) none)[i]? = some o := h1
        have h2 : (ds.map Sl.sh ++ List.replicate (N.length - (ds.length + 1)) Sl.no)[i]? = some s := h2
        by_cases hi : i < ds.length
        · rw [List.getElem?_append_left (by simpa [z.len] using hi), List.getElem?_map] at h1
          rw [List.getElem?_append_left (by simpa using hi), List.getElem?_map] at h2
          rw [List.getElem?_eq_getElem hi] at h2
          cases h2
          obtain ⟨v, hv, zd⟩ := z.at (i := i) (List.getElem?_eq_getElem hi)
          rw [hv] at h1
          cases h1
          exact ⟨v, rfl, zd⟩
        · rw [List.getElem?_append_right (by simpa using hi)] at h2
          have := List.mem_of_getElem? h2
          have := (List.mem_replicate.mp this).2
          subst this
          trivial
    · have := List.mem_of_getElem? h1
      rcases List.mem_append.mp this with m | m
      · rcases List.mem_cons.mp m with m | m
        · cases m
        · obtain ⟨d, _, m⟩ := List.mem_map.mp m
          cases m
      · have := (List.mem_replicate.mp m).2
        cases this
  exact b F H F H _ _ A (fun ρ' F' H' σ' q A' _ => k _ _ F' H' q A'.gr A'.tp .non) (fun d v F' H' q g tp zd => k d v F' H' q g tp zd) (fun _ _ _ _ q => q.elim) fun _ _ _ _ q => q.elim
end
end Cf
namespace Cf
open PySem PySem.Spec PyProof.Rows L2
open Evl (Ex)

/-! ### operators that serve several kinds -/
theorem opr_or {X : Cx} {f : Value → Value → Sem Value} {r r' : R2} (h : OpR X f r) (h' : OpR X f r') : OpR X f (fun x y H Q => r x y H Q ∨ r' x y H Q) := fun pins s σ H x y v u Q I rx ry q =>
  q.elim (fun q => h pins s σ H x y v u Q I rx ry q) fun q => h' pins s σ H x y v u Q I rx ry q
theorem callr_or {X : Cx} {f : Value} {r r' : List V → Hp → VK → Prop} (h : CallR X f r) (h' : CallR X f r') : CallR X f (fun x H Q => r x H Q ∨ r' x H Q) := fun pins s σ H x us Q I rx q =>
  q.elim (fun q => h pins s σ H x us Q I rx q) fun q => h' pins s σ H x us Q I rx q
theorem plain_is {h : Heap} {a : Addr} {its : Array Value} (p : PlainL h a its) : h.IsList a its := by
  obtain ⟨o, n, h1, h2, _, h3⟩ := p
  exact ⟨o, h1, h2, n, h3⟩
def rCatL (K : PySem.W.Frag) : R2 := fun x y H Q => ∃ l b xs zs, x = .ref l ∧ y = .ref b ∧ SqL K H l xs ∧ SqL K H b zs ∧ xs.length + zs.length ≤ sizeLine ∧ ∀ p, H p = none → Q (.ref p) (upd H p (.lst (xs ++ zs)))
theorem op_catL {X : Cx} : OpR X (binaryOp .Add) (rCatL X.K) := by
  intro pins s σ H x y v u Q I rx ry h
  obtain ⟨l, b, xs, zs, rfl, rfl, h1, h2, hz, q⟩ := h
  cases rx
  cases ry
  obtain ⟨its, r1, p1, _⟩ := I.list h1
  obtain ⟨its2, r2, p2, _⟩ := I.list h2
  obtain ⟨⟨c1, d1, a1, s1⟩, o1, k1, n1, e1⟩ := plain_is p1
  obtain ⟨⟨c2, d2, a2, s2⟩, o2, k2, n2, e2⟩ := plain_is p2
  simp only at k1 e1 k2 e2
  subst k1 e1 k2 e2
  have hs : its.toArray.size + its2.toArray.size ≤ sizeLine := by
    rw [List.size_toArray, List.size_toArray, ← r1.length, ← r2.length]
    exact hz
  refine concat_meets ⟨_, o1, rfl⟩ ⟨_, o2, rfl⟩ noFill_list_add seq_list_add PySem.F.slot_list_add PySem.F.entry_list_add (PySem.F.args_list_add_2 _ _)
    (list_addW l b its.toArray its2.toArray n1 n2 d1 d2 s1 s2 hs) ⟨o1, o2, ?_⟩
  have e : its.toArray ++ its2.toArray = (its ++ its2).toArray := by simp
  rw [e]
  exact ⟨.ref _, _, I.lnew (t' := s.toks) (r1.append r2) (by rw [List.length_append]; exact hz), rfl, q _ I.fresh⟩

theorem op_len_eq {X : Cx} (hu : X.A.units + 64 < cLine) : OpR X (compareOp .Eq) (rLen X.K false) := by
  intro pins s σ H x y v u Q I rx ry h
  obtain ⟨l, b, xs, zs, rfl, rfl, h1, h2, hz, q⟩ := h
  cases rx
  cases ry
  obtain ⟨its, r1, p1, _⟩ := I.list h1
  obtain ⟨its2, r2, p2, _⟩ := I.list h2
  refine SeqAt.eq_list_lengthsAt (plain_is p1) (plain_is p2) ?_ (by omega) ⟨.bl _, H, I, rfl, q⟩
  rw [List.size_toArray, List.size_toArray, ← r1.length, ← r2.length]
  simpa using hz
theorem op_len_ne {X : Cx} (hu : X.A.units + 64 < cLine) : OpR X (compareOp .NotEq) (rLen X.K true) := by
  intro pins s σ H x y v u Q I rx ry h
  obtain ⟨l, b, xs, zs, rfl, rfl, h1, h2, hz, q⟩ := h
  cases rx
  cases ry
  obtain ⟨its, r1, p1, _⟩ := I.list h1
  obtain ⟨its2, r2, p2, _⟩ := I.list h2
  refine SeqAt.RcNeAt.lists_lengths (plain_is p1) (plain_is p2) ?_ (by omega) X.prog X.w _ _ ⟨.bl _, H, I, rfl, q⟩
  rw [List.size_toArray, List.size_toArray, ← r1.length, ← r2.length]
  simpa using hz
theorem op_str_eq {X : Cx} : OpR X (compareOp .Eq) (rStr id) := by
  intro pins s σ H x y v u Q I rx ry h
  obtain ⟨i, j, rfl, rfl, q⟩ := h
  refine op_eq pins s σ H _ _ v u Q I rx ry ⟨rfl, ?_⟩
  have e : decide (V.str i = V.str j) = decide (i = j) := decide_eq_decide.mpr ⟨fun e => by cases e; rfl, fun e => by rw [e]⟩
  rw [e]
  exact q
theorem op_str_ne {X : Cx} : OpR X (compareOp .NotEq) (rStr not) := by
  intro pins s σ H x y v u Q I rx ry h
  obtain ⟨i, j, rfl, rfl, q⟩ := h
  refine op_ne pins s σ H _ _ v u Q I rx ry ⟨rfl, ?_⟩
  have e : decide (V.str i = V.str j) = decide (i = j) := decide_eq_decide.mpr ⟨fun e => by cases e; rfl, fun e => by rw [e]⟩
  rw [e]
  exact q
theorem op_eqU {X : Cx} (hu : X.A.units + 64 < cLine) : OpR X (compareOp .Eq) (rEqU X.K) := opr_or (op_eqD hu) (opr_or (op_len_eq hu) op_str_eq)
theorem op_neU {X : Cx} (hu : X.A.units + 64 < cLine) : OpR X (compareOp .NotEq) (rNeU X.K) := opr_or (op_neD hu) (opr_or (op_len_ne hu) op_str_ne)
/-- + of ints, lists, tuples, texts -/
def rPlus (K : PySem.W.Frag) : R2 := fun x y H Q => rI0 (fun i j => .int (i + j)) x y H Q ∨ rCatL K x y H Q ∨ rCatT K x y H Q ∨ (∃ i j, x = .str i ∧ y = .str j ∧ i.length + j.length ≤ sizeLine ∧ Q (.str (i ++ j)) H)
theorem op_plus {X : Cx} : OpR X (binaryOp .Add) (rPlus X.K) := opr_or op_add (opr_or op_catL (opr_or op_catT op_add_str))
/-- * of ints, a list and an int -/
def rTimes : R2 := fun x y H Q => rI CMul (fun i j => .int (i * j)) x y H Q ∨ rRep x y H Q ∨ rI CMulW (fun i j => .int (i * j)) x y H Q
theorem op_times {X : Cx} : OpR X (binaryOp .Mult) rTimes := opr_or op_mul (opr_or op_rep op_mulW)
def rModI : R2 := rI (fun _ j => 0 < j) fun i j => .int (i % j)
theorem op_modI {X : Cx} : OpR X (binaryOp .Mod) rModI := op_mod
def rDivI : R2 := rI CDivW fun i j => .int (i / j)
theorem op_divI {X : Cx} : OpR X (binaryOp .FloorDiv) rDivI := op_fdivW
def rPowI : R2 := rI CPow fun i j => .int (i ^ j.toNat)
theorem op_powI {X : Cx} : OpR X (binaryOp .Pow) rPowI := op_pow
def rMinus : R2 := rI0 fun i j => .int (i - j)
def rLtI : R2 := rI0 fun i j => .bl (decide (i < j))
def rLeI : R2 := rI0 fun i j => .bl (decide (i ≤ j))
def rGtI : R2 := rI0 fun i j => .bl (decide (j < i))
def rGeI : R2 := rI0 fun i j => .bl (decide (j ≤ i))
theorem op_ltI {X : Cx} : OpR X (compareOp .Lt) rLtI := op_lt
theorem op_geI {X : Cx} : OpR X (compareOp .GtE) rGeI := op_ge
def rIsNone : R2 := fun x y H Q => y = .non ∧ Q (.bl (decide (x = .non))) H
def rNotNone : R2 := fun x y H Q => y = .non ∧ Q (.bl (!decide (x = .non))) H
/-- type(x) is T -/
def rIsTyB : R2 := fun x y H Q => ∃ a b, x = .ty a ∧ y = .ty b ∧ Q (.bl (decide (a = b))) H
def rNegI : V → Hp → VK → Prop := rU fun i => .int (-i)
/-- len of a list, a tuple, a text -/
def rLenA (K : PySem.W.Frag) : List V → Hp → VK → Prop := fun xs H Q => (∃ p ys, xs = [.ref p] ∧ (SqL K H p ys ∨ SqT K H p ys) ∧ Q (.int ys.length) H) ∨ (∃ z, xs = [.str z] ∧ z.length ≤ sizeLine ∧ Q (.int z.length) H)
theorem call_lenA {X : Cx} : CallR X (.builtin "len") (rLenA X.K) := callr_or call_len_seq call_len_str
def rIntA : List V → Hp → VK → Prop := fun xs H Q => (∃ i, xs = [.int i] ∧ Q (.int i) H) ∨ ∃ k, xs = [.bl k] ∧ Q (.int (if k then 1 else 0)) H
theorem call_intA {X : Cx} : CallR X (.type "int") rIntA := call_int1
def rListA (K : PySem.W.Frag) : List V → Hp → VK → Prop := fun xs H Q => ∃ p ys, xs = [.ref p] ∧ (SqL K H p ys ∨ SqT K H p ys) ∧ ∀ l, H l = none → Q (.ref l) (upd H l (.lst ys))
def rAbsA : List V → Hp → VK → Prop := fun xs H Q => ∃ i, xs = [.int i] ∧ Q (.int (if i < 0 then -i else i)) H
theorem call_absA {X : Cx} : CallR X (.builtin "abs") rAbsA := call_abs
def rMax2A : List V → Hp → VK → Prop := fun xs H Q => ∃ i j, xs = [.int i, .int j] ∧ Q (.int (if j > i then j else i)) H
theorem call_max2A {X : Cx} (hc : X.calm = true) : CallR X (.builtin "max") rMax2A := call_max2 hc
def rMin2A : List V → Hp → VK → Prop := fun xs H Q => ∃ i j, xs = [.int i, .int j] ∧ Q (.int (if j < i then j else i)) H
theorem call_min2A {X : Cx} (hc : X.calm = true) : CallR X (.builtin "min") rMin2A := call_min2 hc

section
variable {K : PySem.W.Frag} {t : Option Addr} {ρ : Rho} {i : Nat} {d : PyData} {te ta tb tc : TE} {Q : PyData → Prop} {x y : PyData}
theorem DR_plusI (h : ∃ i j, x = .int i ∧ y = .int j ∧ Q (.int (i + j))) : DR K (rPlus K) x y Q := DR_l (DR_I0 (g' := fun i j => .int (i + j)) (fun _ _ _ => .int _) h)
theorem DR_minus (h : ∃ i j, x = .int i ∧ y = .int j ∧ Q (.int (i - j))) : DR K rMinus x y Q := DR_I0 (g' := fun i j => .int (i - j)) (fun _ _ _ => .int _) h
theorem DR_timesI (h : ∃ i j, x = .int i ∧ y = .int j ∧ CMul i j ∧ Q (.int (i * j))) : DR K rTimes x y Q := DR_l (DR_I (g' := fun i j => .int (i * j)) (fun _ _ _ => .int _) h)
theorem DR_mod (h : ∃ i j : Int, x = .int i ∧ y = .int j ∧ 0 < j ∧ Q (.int (i % j))) : DR K rModI x y Q := DR_I (g' := fun i j => .int (i % j)) (fun _ _ _ => .int _) h
theorem DR_div (h : ∃ i j : Int, x = .int i ∧ y = .int j ∧ CDivW i j ∧ Q (.int (i / j))) : DR K rDivI x y Q := DR_I (g' := fun i j => .int (i / j)) (fun _ _ _ => .int _) h
theorem DR_pow (h : ∃ i j : Int, x = .int i ∧ y = .int j ∧ CPow i j ∧ Q (.int (i ^ j.toNat))) : DR K rPowI x y Q := DR_I (g' := fun i j => .int (i ^ j.toNat)) (fun _ _ _ => .int _) h
theorem DR_lt (h : ∃ i j : Int, x = .int i ∧ y = .int j ∧ Q (.bool (decide (i < j)))) : DR K rLtI x y Q := DR_I0 (g' := fun i j => .bool (decide (i < j))) (fun _ _ _ => .bl _) h
theorem DR_le (h : ∃ i j : Int, x = .int i ∧ y = .int j ∧ Q (.bool (decide (i ≤ j)))) : DR K rLeI x y Q := DR_I0 (g' := fun i j => .bool (decide (i ≤ j))) (fun _ _ _ => .bl _) h
theorem DR_gt (h : ∃ i j : Int, x = .int i ∧ y = .int j ∧ Q (.bool (decide (j < i)))) : DR K rGtI x y Q := DR_I0 (g' := fun i j => .bool (decide (j < i))) (fun _ _ _ => .bl _) h
theorem DR_ge (h : ∃ i j : Int, x = .int i ∧ y = .int j ∧ Q (.bool (decide (j ≤ i)))) : DR K rGeI x y Q := DR_I0 (g' := fun i j => .bool (decide (j ≤ i))) (fun _ _ _ => .bl _) h
theorem DR_isN (h : y = .none ∧ Q (.bool (match x with | .none => true | _ => false))) : DR K rIsNone x y Q := fun v w F H e q1 q2 QK k => by
  obtain ⟨rfl, q⟩ := h
  cases q2
  refine ⟨rfl, k _ _ F H q (Gr.refl e) ?_⟩
  cases q1 <;> exact .bl _
theorem DR_notN (h : y = .none ∧ Q (.bool (match x with | .none => false | _ => true))) : DR K rNotNone x y Q := fun v w F H e q1 q2 QK k => by
  obtain ⟨rfl, q⟩ := h
  cases q2
  refine ⟨rfl, k _ _ F H q (Gr.refl e) ?_⟩
  cases q1 <;> exact .bl _
theorem DRL_cat {Q : List PyData → Prop} (h : ∃ ds es, x = .list ds ∧ y = .list es ∧ ds.length + es.length ≤ 100000 ∧ Q (ds ++ es)) : DRL K (rPlus K) x y Q := fun v w F H e q1 q2 QK k => by
  obtain ⟨ds, es, rfl, rfl, hl, q⟩ := h
  cases q1 with
  | @lst a xs _ s1 s2 =>
    cases q2 with
    | @lst b ys _ s3 s4 =>
      refine .inr (.inl ⟨a, b, xs, ys, rfl, rfl, Evl.ex_l e s1, Evl.ex_l e s3, Evl.sz_of (by rw [s2.len, s4.len]; exact hl), fun p n => ?_⟩)
      have g := Gr.free e (o := .lst (xs ++ ys)) n
      exact k _ p _ _ _ q g n (ex_none e n) upd_same (s2.app s4)
/-- a new list times an int -/
theorem rep_dqs {F : Hp} {ds : List PyData} {xs : List V} (h : Dqs K F ds xs) : ∀ n : Nat, Dqs K F (List.replicate n ds).flatten (List.replicate n xs).flatten
  | 0 => .nil
  | n + 1 => by
    rw [List.replicate_succ, List.replicate_succ, List.flatten_cons, List.flatten_cons]
    exact h.app (rep_dqs h n)
theorem DL_rep {Q : List PyData → Prop} (h : DL K t ta ρ fun ds => DE K t tb ρ fun y => ∃ z : Int, y = .int z ∧ -(2 ^ 62) ≤ z ∧ z < 2 ^ 62 ∧ ds.length * z.toNat ≤ 100000 ∧ Q (List.replicate z.toNat ds).flatten) : DL K t (tOp rTimes ta tb) ρ Q := fun F0 H0 F H σ A QK k =>
  h F0 H0 F H σ A _ fun ds p xs F1 H1 hb e1 n n1 n2 z => hb F0 H0 F1 H1 σ (A.step e1) _ fun y w F2 H2 hy e2 zy => by
    have A2 := (A.step e1).step e2
    obtain ⟨m, rfl, b1, b2, b3, q⟩ := hy
    cases zy
    have nt : t ≠ some p := (A.fs n).tap
    refine .inr (.inl ⟨p, m, xs, rfl, rfl, e2.g.hh p _ nt n2, by omega, by omega, Evl.sz_of (by rw [z.len]; exact b3), fun r hr => ?_⟩)
    have g := Gr.free A2.fh (o := .lst (List.replicate m.toNat xs).flatten) hr
    exact k _ r _ _ _ q ((e1.trans e2).trans (A2.stp g)) ((e1.trans e2).back hr) (ex_none A2.fh hr) upd_same (rep_dqs (z.up e2.ff) _)
theorem DU_neg (h : ∃ i : Int, x = .int i ∧ Q (.int (-i))) : DU K rNegI x Q := fun v F H e q1 QK k => by
  obtain ⟨i, rfl, q⟩ := h
  cases q1
  exact ⟨i, rfl, k _ _ F H q (Gr.refl e) (.int _)⟩
def lenD : PyData → Option Nat
  | .list ds => some ds.length
  | .tuple ds => some ds.length
  | .str z => if z.length ≤ 100000 then some z.length else none
  | _ => none
theorem DC_len {xs : List PyData} (h : ∃ x n, xs = [x] ∧ lenD x = some n ∧ Q (.int n)) : DC K (rLenA K) xs Q := fun vs F H e z QK k => by
  obtain ⟨x, n, rfl, hn, q⟩ := h
  obtain ⟨v, rfl, zx⟩ := dqs1 z
  cases zx with
  | @lst a xs ds s1 s2 =>
    cases hn
    exact .inl ⟨a, xs, rfl, .inl (Evl.ex_l e s1), by rw [s2.len]; exact k _ _ F H q (Gr.refl e) (.int _)⟩
  | @tup a xs ds s1 s2 =>
    cases hn
    exact .inl ⟨a, xs, rfl, .inr (Evl.ex_t e s1), by rw [s2.len]; exact k _ _ F H q (Gr.refl e) (.int _)⟩
  | str w =>
    have hn : (if w.length ≤ 100000 then some w.length else none) = some n := hn
    split at hn
    · rename_i hw
      cases hn
      exact .inr ⟨w, rfl, Evl.sz_of hw, k _ _ F H q (Gr.refl e) (.int _)⟩
    · cases hn
  | non => cases hn
  | bl => cases hn
  | int => cases hn
  | emp => cases hn
  | one => cases hn
theorem DE_lenOw {ds : List PyData} (h : ρ[i]? = some (.ow ds)) (q : Q (.int ds.length)) : DE K t (tCB (rLenA K) (tCons (tVar i) tNil)) ρ Q := fun F0 H0 F H σ A QK k => by
  obtain ⟨p, xs, e, h1, h2, h3, h4, h5⟩ := A.own h
  exact ⟨.ref p, e, .inl ⟨p, xs, rfl, .inl (.inl (.inl h1)), by rw [h5.len]; exact k _ _ F H q A.rfl (.int _)⟩⟩
theorem DC_int {xs : List PyData} (h : (∃ i, xs = [.int i] ∧ Q (.int i)) ∨ (∃ b : Bool, xs = [.bool b] ∧ Q (.int (if b then 1 else 0)))) : DC K rIntA xs Q := fun vs F H e z QK k => by
  rcases h with ⟨i, rfl, q⟩ | ⟨b, rfl, q⟩
  · obtain ⟨v, rfl, zx⟩ := dqs1 z
    cases zx
    exact .inl ⟨i, rfl, k _ _ F H q (Gr.refl e) (.int _)⟩
  · obtain ⟨v, rfl, zx⟩ := dqs1 z
    cases zx
    exact .inr ⟨b, rfl, k _ _ F H q (Gr.refl e) (.int _)⟩
theorem DCL_list {xs : List PyData} {Q : List PyData → Prop} (h : ∃ ds, (xs = [.list ds] ∨ xs = [.tuple ds]) ∧ Q ds) : DCL K (rListA K) xs Q := fun vs F H e z QK k => by
  obtain ⟨ds, h, q⟩ := h
  rcases h with rfl | rfl
  · obtain ⟨v, rfl, zx⟩ := dqs1 z
    cases zx with
    | @lst a xs ds s1 s2 => exact ⟨a, xs, rfl, .inl (Evl.ex_l e s1), fun p n => k _ p _ _ _ q (Gr.free e n) n (ex_none e n) upd_same s2⟩
  · obtain ⟨v, rfl, zx⟩ := dqs1 z
    cases zx with
    | @tup a xs ds s1 s2 => exact ⟨a, xs, rfl, .inr (Evl.ex_t e s1), fun p n => k _ p _ _ _ q (Gr.free e n) n (ex_none e n) upd_same s2⟩
theorem DC_abs {xs : List PyData} (h : ∃ i : Int, xs = [.int i] ∧ Q (.int (if i < 0 then -i else i))) : DC K rAbsA xs Q := fun vs F H e z QK k => by
  obtain ⟨i, rfl, q⟩ := h
  obtain ⟨v, rfl, zx⟩ := dqs1 z
  cases zx
  exact ⟨i, rfl, k _ _ F H q (Gr.refl e) (.int _)⟩
theorem DC_max2 {xs : List PyData} (h : ∃ i j : Int, xs = [.int i, .int j] ∧ Q (.int (max i j))) : DC K rMax2A xs Q := fun vs F H e z QK k => by
  obtain ⟨i, j, rfl, q⟩ := h
  obtain ⟨v, w, rfl, zx, zy⟩ := dqs2 z
  cases zx
  cases zy
  refine ⟨i, j, rfl, ?_⟩
  have em : (if j > i then j else i) = max i j := by
    split <;> omega
  rw [em]
  exact k _ _ F H q (Gr.refl e) (.int _)
theorem DC_min2 {xs : List PyData} (h : ∃ i j : Int, xs = [.int i, .int j] ∧ Q (.int (min i j))) : DC K rMin2A xs Q := fun vs F H e z QK k => by
  obtain ⟨i, j, rfl, q⟩ := h
  obtain ⟨v, w, rfl, zx, zy⟩ := dqs2 z
  cases zx
  cases zy
  refine ⟨i, j, rfl, ?_⟩
  have em : (if j < i then j else i) = min i j := by
    split <;> omega
  rw [em]
  exact k _ _ F H q (Gr.refl e) (.int _)
theorem DC_sum {xs : List PyData} (h : ∃ ns : List Int, xs = [.list (ns.map .int)] ∧ Q (.int ns.sum)) : DC K (rSum K) xs Q := fun vs F H e z QK k => by
  obtain ⟨ns, rfl, q⟩ := h
  obtain ⟨v, rfl, zx⟩ := dqs1 z
  cases zx with
  | @lst a xs ds s1 s2 =>
    have es := s2.ints
    subst es
    exact ⟨a, ns, rfl, Evl.ex_l e s1, k _ _ F H q (Gr.refl e) (.int _)⟩
theorem DC_all {xs : List PyData} (h : ∃ ns : List Bool, xs = [.list (ns.map .bool)] ∧ Q (.bool (ns.all id))) : DC K (rAll K) xs Q := fun vs F H e z QK k => by
  obtain ⟨ns, rfl, q⟩ := h
  obtain ⟨v, rfl, zx⟩ := dqs1 z
  cases zx with
  | @lst a xs ds s1 s2 =>
    have es := s2.bls
    subst es
    exact ⟨a, ns, rfl, Evl.ex_l e s1, k _ _ F H q (Gr.refl e) (.bl _)⟩
theorem DC_any {xs : List PyData} (h : ∃ ns : List Bool, xs = [.list (ns.map .bool)] ∧ Q (.bool (ns.any id))) : DC K (rAny K) xs Q := fun vs F H e z QK k => by
  obtain ⟨ns, rfl, q⟩ := h
  obtain ⟨v, rfl, zx⟩ := dqs1 z
  cases zx with
  | @lst a xs ds s1 s2 =>
    have es := s2.bls
    subst es
    exact ⟨a, ns, rfl, Evl.ex_l e s1, k _ _ F H q (Gr.refl e) (.bl _)⟩

/-! ### kinds -/
def tyD : PyData → String
  | .none => "NoneType"
  | .bool _ => "bool"
  | .int _ => "int"
  | .str _ => "str"
  | .list _ => "list"
  | .tuple _ => "tuple"
  | .dict _ => "dict"
theorem dq_ty {F H : Hp} (e : Ex F H) {v : V} (h : Dq K F x v) : TyX K H v (.type (tyD x)) := by
  cases h with
  | non => exact .base .non
  | bl b => exact .base (.bl b)
  | int i => exact .base (.int i)
  | str z => exact .base (.str z)
  | @lst a xs ds s1 s2 =>
    rcases s1 with (s1 | ⟨o, s1⟩) | ⟨o, its, n, s1, s3, _⟩
    · exact .base (.lst (e _ _ s1))
    · exact .base (.frz (e _ _ s1))
    · exact .kList s1 s3
  | @tup a xs ds s1 s2 =>
    rcases s1 with (s1 | ⟨o, s1⟩) | ⟨o, its, n, s1, s3, _⟩
    · exact .base (.tup (e _ _ s1))
    · exact .fTuple (e _ _ s1)
    · exact .kTuple s1 s3
  | emp s1 => exact .base (.dK (e _ _ s1))
  | one s1 => exact .base (.dK (e _ _ s1))
theorem dq_tyB {F H : Hp} (e : Ex F H) {v : V} (h : Dq K F x v) : TyB K H v (tyD x) := by
  cases h with
  | non => exact .non
  | bl b => exact .bl b
  | int i => exact .int i
  | str z => exact .str z
  | lst s1 s2 => exact .lst (Evl.ex_l e s1)
  | tup s1 s2 => exact .tup (Evl.ex_t e s1)
  | emp s1 => exact .dK (e _ _ s1)
  | one s1 => exact .dK (e _ _ s1)
/-- isinstance(x, T), T a built-in class: by its name -/
theorem DE_isi {n : String} (h : DE K t te ρ fun x => ∃ b, kitB (tyD x) n = some b ∧ Q (.bool b)) : DE K t (tCB (rIsi K) (tCons te (tCons (tC (.ty n)) tNil))) ρ Q := fun F0 H0 F H σ A QK k =>
  h F0 H0 F H σ A _ fun x v F1 H1 hq e1 z => by
    obtain ⟨b, hb, q⟩ := hq
    exact ⟨v, .ty n, _, _, b, rfl, .ty n, dq_ty e1.g.fh z, kit_ty hb, k _ _ F1 H1 q e1 (.bl b)⟩
/-- type(x) is T, type(x) is not T -/
theorem DE_tyIs {n : String} (h : DE K t te ρ fun x => Q (.bool (decide (tyD x = n)))) : DE K t (tOp rIsTyB (tCB (rTyp K) (tCons te tNil)) (tC (.ty n))) ρ Q := fun F0 H0 F H σ A QK k =>
  h F0 H0 F H σ A _ fun x v F1 H1 q e1 z => ⟨v, _, rfl, dq_tyB e1.g.fh z, _, n, rfl, rfl, k _ _ F1 H1 q e1 (.bl _)⟩
theorem DE_tyNot {n : String} (h : DE K t te ρ fun x => Q (.bool (!decide (tyD x = n)))) : DE K t (tOp rNT (tCB (rTyp K) (tCons te tNil)) (tC (.ty n))) ρ Q := fun F0 H0 F H σ A QK k =>
  h F0 H0 F H σ A _ fun x v F1 H1 q e1 z => ⟨v, _, rfl, dq_tyB e1.g.fh z, _, n, rfl, rfl, k _ _ F1 H1 q e1 (.bl _)⟩
/-- {} -/
theorem DE_emp (q : Q (.dict [])) : DE K t tDNewK ρ Q := fun F0 H0 F H σ A QK k p n => by
  have g := Gr.new A.fh (o := .dK []) n
  exact k _ _ _ _ q (A.stp g) (.emp upd_same)
end
end Cf
namespace Cf
open PySem PySem.Spec PyProof.Rows L2
open Evl (Ex)

/-! ### repr over data -/
section
variable {X : Cx} {pins : List (Addr × Obj)} {σ : L2.St} {H : Hp} {s : Shared}
theorem emp_dict (I : Inv X pins σ H s) {a : Addr} (h : H a = some (.dK [])) : (a == sysModules) = false ∧ ∃ o es n, s.heap.get? a = some o ∧ o.cls = .type "dict" ∧ o.data = .dict es n ∧ es.toList = [] := by
  obtain ⟨_, hs, vs, kv, o, es, ep, h1, h2, h3, _, h4, _⟩ := I.hok a _ h
  cases kv
  exact ⟨hs, o, es, ep, h1, h2.1, h3, List.length_eq_zero_iff.mp h4.length⟩
theorem one_dict (I : Inv X pins σ H s) {a : Addr} {k n : Int} (h : H a = some (.dK [(.inl k, .int n)])) : (a == sysModules) = false ∧ ∃ (o : Obj) (es : Array DictEntry) (m : Nat) (e : DictEntry) (tk tn : Tok), s.heap.get? a = some o ∧ o.cls = .type "dict" ∧ o.data = .dict es m ∧ es.toList = [e] ∧ e.key = .int k tk ∧ e.val = .int n tn := by
  obtain ⟨_, hs, vs, kv, o, es, ep, h1, h2, h3, _, h4, _⟩ := I.hok a _ h
  cases kv with
  | cons r t =>
    cases t
    obtain ⟨r1, r2⟩ := r
    obtain ⟨tn, r2⟩ := r2
    generalize he : es.toList = l at h4
    cases h4 with
    | cons e1 e2 t =>
      cases t
      rename_i e
      rw [← r1] at e1
      have e3 : keyIs (.inl k) e.key = true := e1
      rcases keyIs_shape e3 with ⟨i, tk, q1, q2⟩ | ⟨x, tk, q1, q2⟩
      · cases q1
        exact ⟨hs, o, es, ep, e, tk, tn, h1, h2.1, h3, he, q2, by rw [e2, r2]⟩
      · cases q1
mutual
theorem dq_reads (I : Inv X pins σ H s) : ∀ (d : PyData) (v : V) (u : Value), Dq X.K H d v → RelV v u → ∃ as, Reads s.heap u d as
  | .none, _, _, .non, r => by
    cases r
    exact ⟨_, Reads.none⟩
  | .bool _, _, _, .bl b, r => by
    cases r
    exact ⟨_, Reads.bool b⟩
  | .int _, _, _, .int i, r => by
    obtain ⟨t, rfl⟩ := r
    exact ⟨_, Reads.int i t⟩
  | .str _, _, _, .str x, r => by
    obtain ⟨t, rfl⟩ := r
    exact ⟨_, Reads.str x t⟩
  | .list ds, _, _, .lst h1 h2, r => by
    cases r
    obtain ⟨its, rv, ⟨o, n, ho, hc, _, hd⟩, _⟩ := I.list h1
    obtain ⟨as, hr⟩ := dqs_reads I ds _ its h2 rv
    exact ⟨_, Reads.list ho hc hd hr⟩
  | .tuple ds, _, _, .tup h1 h2, r => by
    cases r
    obtain ⟨its, rv, ⟨o, ho, hc, n, hd⟩, _⟩ := I.tuple h1
    obtain ⟨as, hr⟩ := dqs_reads I ds _ its h2 rv
    exact ⟨_, Reads.tuple ho hc hd hr⟩
  | .dict _, _, _, .emp h, r => by
    cases r
    obtain ⟨_, o, es, n, h1, h2, h3, h4⟩ := emp_dict I h
    refine ⟨_, Reads.dict (as := []) (bs := []) (kvs := []) h1 h2 h3 ?_ ?_⟩
    · rw [h4]
      exact .nil
    · rw [h4]
      exact .nil
  | .dict _, _, _, .one (k := k) (n := n) h, r => by
    cases r
    obtain ⟨_, o, es, m, e, tk, tn, h1, h2, h3, h4, h5, h6⟩ := one_dict I h
    refine ⟨_, Reads.dict (as := []) (bs := []) (kvs := [(.int k, .int n)]) h1 h2 h3 ?_ ?_⟩
    · rw [h4, List.map_cons, List.map_nil, h5]
      exact .cons (as := []) (bs := []) (Reads.int k tk) .nil
    · rw [h4, List.map_cons, List.map_nil, h6]
      exact .cons (as := []) (bs := []) (Reads.int n tn) .nil
theorem dqs_reads (I : Inv X pins σ H s) : ∀ (ds : List PyData) (vs : List V) (us : List Value), Dqs X.K H ds vs → Vals vs us → ∃ as, ReadsAll s.heap us ds as
  | [], _, _, .nil, r => by
    cases r
    exact ⟨_, ReadsAll.nil⟩
  | d :: ds, _, _, .cons h1 h2, r => by
    cases r with
    | cons r1 r2 =>
      obtain ⟨as, q1⟩ := dq_reads I d _ _ h1 r1
      obtain ⟨bs, q2⟩ := dqs_reads I ds _ _ h2 r2
      exact ⟨_, ReadsAll.cons q1 q2⟩
end
theorem rest_le {a b : Nat} {t : Nat} (h : a ≤ t) (h' : t ≤ b) : a ≤ b := Nat.le_trans h h'
mutual
theorem dq_repr {prog : Program} {w : World} (I : Inv X pins σ H s) : ∀ (d : PyData) (v : V) (u : Value), Dq X.K H d v → RelV v u → d.showable = true → d.shown.length ≤ sizeLine → ∃ bs, ReadAtMost s.heap d.depth bs ∧ ReprK prog w bs s.heap d.depth u d.shown
  | .none, _, _, .non, r, _, _ => by
    cases r
    exact ⟨[], (fun _ h => nomatch h), by simp only [PyData.shown]; exact .of_is ReprIs.none _ _ _⟩
  | .bool _, _, _, .bl b, r, _, _ => by
    cases r
    exact ⟨[], (fun _ h => nomatch h), by simp only [PyData.shown]; exact .of_is (ReprIs.bool b) _ _ _⟩
  | .int _, _, _, .int i, r, hs, _ => by
    obtain ⟨t, rfl⟩ := r
    exact ⟨[], (fun _ h => nomatch h), by simp only [PyData.shown]; exact .of_is (ReprIs.int t (by simpa [PyData.showable] using hs)) _ _ _⟩
  | .str _, _, _, .str x, r, _, hz => by
    obtain ⟨t, rfl⟩ := r
    exact ⟨[], (fun _ h => nomatch h), by simp only [PyData.shown]; exact .of_is (ReprIs.str x t (by simpa only [PyData.shown] using hz)) _ _ _⟩
  | .list ds, _, _, .lst (a := a) h1 h2, r, hs, hz => by
    have whole := dq_reads I (.list ds) _ _ (.lst h1 h2) r
    cases r
    obtain ⟨its, rv, ⟨o, n, ho, hc, _, hd⟩, _⟩ := I.list h1
    have hz2 : (listText (PyData.shownAll ds)).length ≤ sizeLine := by simpa only [PyData.shown] using hz
    obtain ⟨bs, hb, hk⟩ := dqs_repr (prog := prog) (w := w) I ds _ its h2 rv (by simpa [PyData.showable] using hs) (fun t ht => rest_le (listText_mem_le ht) hz2)
    obtain ⟨as, rd⟩ := whole
    have hna : a ∉ bs := not_mem_of_deeper rd (by simp only [PyData.depth]; omega) hb
    refine ⟨a :: bs, ReadAtMost.cons rd (by simp only [PyData.depth]; omega) hb, ?_⟩
    simp only [PyData.depth, PyData.shown]
    cases its with
    | nil =>
      have e0 : PyData.shownAll ds = [] := List.length_eq_zero_iff.mp (by simpa using hk.length_eq)
      rw [e0, listText_nil]
      exact ReprK.listEmpty ho hc hd
    | cons x l => exact ReprK.list ho hc hd hna (by simpa using hk.length_eq) fun i y e => hk.item i y (by simpa using e)
  | .tuple ds, _, _, .tup (a := a) h1 h2, r, hs, hz => by
    have whole := dq_reads I (.tuple ds) _ _ (.tup h1 h2) r
    cases r
    obtain ⟨its, rv, ⟨o, ho, hc, n, hd⟩, _⟩ := I.tuple h1
    have hz2 : (tupleText (PyData.shownAll ds)).length ≤ sizeLine := by simpa only [PyData.shown] using hz
    obtain ⟨bs, hb, hk⟩ := dqs_repr (prog := prog) (w := w) I ds _ its h2 rv (by simpa [PyData.showable] using hs) (fun t ht => rest_le (tupleText_mem_le ht) hz2)
    obtain ⟨as, rd⟩ := whole
    have hna : a ∉ bs := not_mem_of_deeper rd (by simp only [PyData.depth]; omega) hb
    refine ⟨a :: bs, ReadAtMost.cons rd (by simp only [PyData.depth]; omega) hb, ?_⟩
    simp only [PyData.depth, PyData.shown]
    exact ReprK.tuple ho hc hd hna hk
  | .dict _, _, _, .emp (a := a) h, r, hs, hz => by
    have whole := dq_reads I (.dict []) _ _ (.emp h) r
    cases r
    obtain ⟨ns, o, es, n, h1, h2, h3, h4⟩ := emp_dict I h
    obtain ⟨as, rd⟩ := whole
    have hna : a ∉ ([] : List Addr) := fun z => nomatch z
    refine ⟨[a], ReadAtMost.cons rd (n := 0) (by omega) (fun _ z => nomatch z), ?_⟩
    simp only [PyData.depth, PyData.shown]
    refine (ReprK.dict (d := 0) (as := []) (ps := []) h1 h2 h3 ns hna ?_).level_le (by omega)
    rw [h4]
    exact .nil
  | .dict _, _, _, .one (a := a) (k := k) (n := n) h, r, hs, hz => by
    have whole := dq_reads I (.dict [(.int k, .int n)]) _ _ (.one h) r
    cases r
    obtain ⟨ns, o, es, m, e, tk, tn, h1, h2, h3, h4, h5, h6⟩ := one_dict I h
    obtain ⟨as, rd⟩ := whole
    have hna : a ∉ ([] : List Addr) := fun z => nomatch z
    refine ⟨[a], ReadAtMost.cons rd (n := PyData.depth (.dict [(.int k, .int n)])) (by omega) (fun _ z => nomatch z), ?_⟩
    have hsk : PyData.showable (.int k) = true ∧ PyData.showable (.int n) = true := by simpa [PyData.showable, PyData.showableKv] using hs
    simp only [PyData.depth, PyData.depthKv, PyData.shown, PyData.shownKv]
    refine (ReprK.dict (d := 0) (as := []) h1 h2 h3 ns hna ?_).level_le (by omega)
    rw [h4]
    refine .cons ?_ ?_ .nil
    · rw [h5]
      exact .of_is (ReprIs.int tk (by simpa [PyData.showable] using hsk.1)) _ _ _
    · rw [h6]
      exact .of_is (ReprIs.int tn (by simpa [PyData.showable] using hsk.2)) _ _ _
theorem dqs_repr {prog : Program} {w : World} (I : Inv X pins σ H s) : ∀ (ds : List PyData) (vs : List V) (us : List Value), Dqs X.K H ds vs → Vals vs us → PyData.showableAll ds = true → (∀ t ∈ PyData.shownAll ds, t.length ≤ sizeLine) → ∃ bs, ReadAtMost s.heap (PyData.depthAll ds) bs ∧ ReprAllK prog w bs s.heap (PyData.depthAll ds) us (PyData.shownAll ds)
  | [], _, _, .nil, r, _, _ => by
    cases r
    exact ⟨[], (fun _ h => nomatch h), by simp only [PyData.shownAll]; exact .nil⟩
  | d :: ds, _, _, .cons h1 h2, r, hs, hz => by
    cases r with
    | cons r1 r2 =>
      have hs2 : d.showable = true ∧ PyData.showableAll ds = true := by simpa [PyData.showableAll] using hs
      obtain ⟨b1, m1, k1⟩ := dq_repr (prog := prog) (w := w) I d _ _ h1 r1 hs2.1 (hz _ (by simp only [PyData.shownAll]; exact List.mem_cons_self))
      obtain ⟨b2, m2, k2⟩ := dqs_repr (prog := prog) (w := w) I ds _ _ h2 r2 hs2.2 (fun t ht => hz t (by simp only [PyData.shownAll]; exact List.mem_cons_of_mem _ ht))
      refine ⟨b1 ++ b2, fun b hm => ?_, ?_⟩
      · simp only [PyData.depthAll]
        rcases List.mem_append.mp hm with hm | hm
        · obtain ⟨d2, as, r', l⟩ := m1 b hm
          exact ⟨d2, as, r', rest_le l (Nat.le_max_left _ _)⟩
        · obtain ⟨d2, as, r', l⟩ := m2 b hm
          exact ⟨d2, as, r', rest_le l (Nat.le_max_right _ _)⟩
      · simp only [PyData.depthAll, PyData.shownAll]
        exact .cons ((k1.more fun b hb => List.mem_append_left _ hb).level_le (Nat.le_max_left _ _)) (k2.more_le (fun b hb => List.mem_append_right _ hb) (Nat.le_max_right _ _))
end
end
def rReprD (K : PySem.W.Frag) : List V → Hp → VK → Prop := fun xs H Q => ∃ v d, xs = [v] ∧ Dq K H d v ∧ d.showable = true ∧ d.shown.length ≤ sizeLine ∧ d.depth ≤ 60 ∧ Q (.str d.shown) H
theorem call_reprD {X : Cx} (hg : X.A.guards = some []) (hu : X.A.units + 64 < cLine) : CallR X (.builtin "repr") (rReprD X.K) := by
  intro pins s σ H xs us Q I r h
  obtain ⟨v, d, rfl, hd, hs, hz, hdep, q⟩ := h
  obtain ⟨u, rfl, rv⟩ := vals1 r
  have fin : ∀ {x : Str} {t : Tok} {h' : Heap} {tk : Tok}, (∀ b o, s.heap.get? b = some o → h'.get? b = some o) → x = d.shown → EP X pins σ Q (.str x t) { s with heap := h', toks := tk } := fun {x t h' tk} k e => by
    subst e
    exact ⟨.str d.shown, H, I.kept (t' := tk) k, ⟨_, rfl⟩, q⟩
  cases hd with
  | non =>
    cases rv
    exact PySem.P.repr_of_none (fin (fun _ _ e => e) (by simp only [PyData.shown]))
  | bl b =>
    cases rv
    exact PySem.P.repr_of_bool (fin (fun _ _ e => e) (by simp only [PyData.shown]))
  | int i =>
    obtain ⟨t, rfl⟩ := rv
    exact PySem.P.repr_of_int (by simpa [PyData.showable] using hs) (fin (fun _ _ e => e) (by simp only [PyData.shown]))
  | str z =>
    obtain ⟨t, rfl⟩ := rv
    exact PySem.P.repr_of_str (fin (fun _ _ e => e) (by simp only [PyData.shown])) (by simpa only [PyData.shown] using hz)
  | @lst a xs ds h1 h2 =>
    cases rv
    obtain ⟨its, rv, ⟨o, n, ho, hc, _, hd⟩, _⟩ := I.list h1
    have hz2 : (listText (PyData.shownAll ds)).length ≤ sizeLine := by simpa only [PyData.shown] using hz
    obtain ⟨bs, hb, hk⟩ := dqs_repr (prog := X.prog) (w := X.w) I ds _ its h2 rv (by simpa [PyData.showable] using hs) (fun t ht => rest_le (listText_mem_le ht) hz2)
    obtain ⟨as, rd⟩ := dq_reads I (.list ds) _ _ (.lst h1 h2) rfl
    have hna : a ∉ bs := not_mem_of_deeper rd (by simp only [PyData.depth]; omega) hb
    have hd2 : PyData.depthAll ds + 1 ≤ 60 := by
      simp only [PyData.depth] at hdep
      omega
    refine call_repr_slot (by omega) ⟨o, ho, hc⟩ F.slot_list_repr.toG ?_
    cases its with
    | nil =>
      have e0 : PyData.shownAll ds = [] := List.length_eq_zero_iff.mp (by simpa using hk.length_eq)
      refine call_list_repr_empty ⟨o, ho, hc⟩ ho hd ⟨_, _, rfl, fin (fun _ _ e => e) ?_⟩
      simp only [PyData.shown]
      rw [e0, listText_nil]
    | cons x l =>
      refine call_list_reprK ho hc hd hna (by simpa using hk.length_eq) (fun i y e => hk.item i y (by simpa using e)) (A := X.A.in1) hg (fun b _ => Clear.nil b) (by show X.A.units + 1 + _ < _; omega) (fun _ _ e => e) (fun h' u tk hk => ⟨_, _, rfl, fin hk (by simp only [PyData.shown])⟩) hz2
  | @tup a xs ds h1 h2 =>
    cases rv
    obtain ⟨its, rv, ⟨o, ho, hc, n, hd⟩, _⟩ := I.tuple h1
    have hz2 : (tupleText (PyData.shownAll ds)).length ≤ sizeLine := by simpa only [PyData.shown] using hz
    obtain ⟨bs, hb, hk⟩ := dqs_repr (prog := X.prog) (w := X.w) I ds _ its h2 rv (by simpa [PyData.showable] using hs) (fun t ht => rest_le (tupleText_mem_le ht) hz2)
    obtain ⟨as, rd⟩ := dq_reads I (.tuple ds) _ _ (.tup h1 h2) rfl
    have hna : a ∉ bs := not_mem_of_deeper rd (by simp only [PyData.depth]; omega) hb
    have hd2 : PyData.depthAll ds + 1 ≤ 60 := by
      simp only [PyData.depth] at hdep
      omega
    refine call_repr_slot (by omega) ⟨o, ho, hc⟩ F.slot_tuple_repr ?_
    exact call_tuple_reprK ho hc hd hna hk (A := X.A.in1) hg (fun b _ => Clear.nil b) (by show X.A.units + 1 + _ < _; omega) (fun _ _ e => e) (fun h' u tk hk => ⟨_, _, rfl, fin hk (by simp only [PyData.shown])⟩) hz2
  | @emp a h1 =>
    cases rv
    obtain ⟨ns, o, es, n, g1, g2, g3, g4⟩ := emp_dict I h1
    refine call_repr_slot (by omega) ⟨o, g1, g2⟩ F.slot_dict_repr ?_
    exact call_dict_reprK (d := 0) (as := []) (ps := []) g1 g2 g3 ns (fun z => nomatch z) (by rw [g4]; exact .nil) (A := X.A.in1) hg (fun b _ => Clear.nil b) (by show X.A.units + 1 + _ < _; omega) (fun _ _ e => e) (fun h2 u tk hk => ⟨_, _, rfl, fin hk (by simp only [PyData.shown]; rfl)⟩) (by simpa only [PyData.shown, PyData.shownKv] using hz)
  | @one a k n h1 =>
    cases rv
    obtain ⟨ns, o, es, m, e, tk, tn, g1, g2, g3, g4, g5, g6⟩ := one_dict I h1
    refine call_repr_slot (by omega) ⟨o, g1, g2⟩ F.slot_dict_repr ?_
    have hsk : PyData.showable (.int k) = true ∧ PyData.showable (.int n) = true := by simpa [PyData.showable, PyData.showableKv] using hs
    exact call_dict_reprK (d := 0) (as := []) g1 g2 g3 ns (fun z => nomatch z) (by
      rw [g4]
      refine .cons (by rw [g5]; exact .of_is (ReprIs.int tk (by simpa [PyData.showable] using hsk.1)) _ _ _) (by rw [g6]; exact .of_is (ReprIs.int tn (by simpa [PyData.showable] using hsk.2)) _ _ _) .nil) (A := X.A.in1) hg (fun b _ => Clear.nil b) (by show X.A.units + 1 + _ < _; omega) (fun _ _ e => e) (fun h2 u tk hk => ⟨_, _, rfl, fin hk (by simp only [PyData.shown, PyData.shownKv])⟩) (by simpa only [PyData.shown, PyData.shownKv] using hz)
section
variable {K : PySem.W.Frag} {Q : PyData → Prop}
theorem DC_repr {xs : List PyData} (h : ∃ d, xs = [d] ∧ d.showable = true ∧ d.shown.length ≤ sizeLine ∧ d.depth ≤ 60 ∧ Q (.str d.shown)) : DC K (rReprD K) xs Q := fun vs F H e z QK k => by
  obtain ⟨d, rfl, h1, h2, h3, q⟩ := h
  obtain ⟨v, rfl, zx⟩ := dqs1 z
  exact ⟨v, d, rfl, zx.up e, h1, h2, h3, k _ _ F H q (Gr.refl e) (.str _)⟩
end
end Cf
namespace Cf
open PySem PySem.Spec PyProof.Rows L2
open Evl (Ex)

/-! ### a def's promise where no repr is under way -/
structure FnG (P : Program) (w : World) (K : PySem.W.Frag) (mg : Str → Option Value) (base : Heap) (CX : CXT) (k : Nat) (f : Addr) (fd : FuncData) (ps : List Str) (sp : Sp) : Prop where
  arity : ∀ vs H Q E, sp vs H Q E → vs.length = ps.length
  go : ∀ (A : Around) (outer : List Env) (s : Shared) (H : Hp) (args : Args) (us : List Value) (vs : List V) (Q : VK) (E : XK), A.guards = some [] → Room k A → Env0 P w K mg base A outer s H → BindsTo s fd args (ps.zip us) → Vals vs us →
    sp vs H Q E → codeAny (model P w) A (.call (.ref f) args) (CR CX outer P w H s Q E) s
section
variable {P : Program} {w : World} {K : PySem.W.Frag} {mg : Str → Option Value} {base : Heap} {CX : CXT} {k : Nat} {f : Addr} {fd : FuncData} {ps : List Str} {sp : Sp}
theorem FnG.more {j : Nat} (F : FnG P w K mg base CX j f fd ps sp) (h : j ≤ k) : FnG P w K mg base CX k f fd ps sp := ⟨F.arity, fun A outer s H args us vs Q E hg hr => F.go A outer s H args us vs Q E hg (hr.mono h)⟩
end
section
variable {X : Cx} {CX : CXT} {k : Nat} {f : Addr} {fd : FuncData} {ps : List Str} {sp : Sp} {E : XK} {x : Str} {p pos : Pos} {e : Expr} {es : List Expr} {t : TA}
theorem go_fn {pins : List (Addr × Obj)} {σ : L2.St} {H : Hp} {s : Shared} {Q : VK} {us : List Value} {vs : List V} (F : FnG X.prog X.w X.K X.mg X.base CX k f fd ps sp) (hgu : X.A.guards = some []) (hr : Room k X.A) (hb : Binds X.K fd ps [])
    (hx : Passes CX X E) (I : Inv X pins σ H s) (r : Vals vs us) (h : sp (vs ++ []) H Q E) : wpAny (model X.prog X.w) X.A (call (.ref f) us) (EP X pins σ Q) X.xe s := by
  rw [List.append_nil] at h
  have hl : (us ++ ([] : List Value)).length = ps.length := by
    rw [List.append_nil, ← r.length]
    exact F.arity _ _ _ _ h
  have bt := hb s us I.kIn hl
  rw [List.append_nil] at bt
  refine wpAny_call (codeAny_mono (F.go X.A X.stack s H ⟨us, []⟩ us vs Q E hgu hr I.env0 bt r h) fun z s2 hq => ?_)
  cases z with
  | error er => exact hx pins σ H s er s2 I hq
  | ok fl =>
    cases fl with
    | ret u => exact I.after hq
    | next => exact hq.elim
    | brk => exact hq.elim
    | cont => exact hq.elim
theorem pe_callG (F : FnG X.prog X.w X.K X.mg X.base CX k f fd ps sp) (hgu : X.A.guards = some []) (hr : Room k X.A) (hg : Gl X x) (hm : X.mg x = some (.ref f)) (hk : PySem.W.keepIn X.K (.ref f) = true) (hb : Binds X.K fd ps []) (hx : Passes CX X E) (ha : PA X (e :: es) t)
    (hdb : (x == ("__debug__" : Str)) = false := by decide) (he : starEach (e :: es) X.env = (false, eval e X.env) :: starEach es X.env := by rfl) (hpl : (backTo pos (starEach es X.env)).any (·.1) = false := by rfl) :
    PE X (.Call (.Name x p) (e :: es) [] pos) (tCall sp [] E t) := by
  constructor
  intro pins s σ H Q I h
  refine wpAny_Call_Name_kw (ld_glob I hg hm ?_ hdb)
  exact PySem.W.callWith_K (h₀ := X.base) I.ok.mod.kin hk (thn (ha.run pos pins s σ H _ I h) fun us s1 ⟨vs, H1, I1, r, q⟩ => ⟨I1.kIn, go_fn F hgu hr hb hx I1 r q⟩) he hpl
end
section
variable {P : Program} {w : World} {K : PySem.W.Frag} {mg : Str → Option Value} {base : Heap}
/-- a def of the text by its body -/
theorem fun_okG {CX : CXT} {x qual : Str} {st : Stmt} {f : Addr} {fd : FuncData} {N ps : List Str} {k : Nat} {sp : Sp} (F : Fun K x qual st f fd) (S : FnScope N ps (defScope st)) (len : ∀ vs H Q E, sp vs H Q E → vs.length = ps.length)
    (hbody : ∀ (cdv : Value) (A : Around) (outer : List Env) (s : Shared) (H : Hp) (vs : List V) (Q : VK) (E : XK), (A.deeper (envOfC qual (defScope st) s.heap.objs.size f cdv)).guards = some [] → Room k (A.deeper (envOfC qual (defScope st) s.heap.objs.size f cdv)) → sp vs H Q E →
      ∃ t, PSs (cxOf CX P w K mg base N qual (defScope st) f cdv A outer s H E).nox (defBody st) t ∧ t { nx := fun _ H' => Q .non H', rt := Q } (L2.start N vs) H) : FnG P w K mg base CX (k + 1) f fd ps sp := by
  obtain ⟨oc, od, kV, doc, pm, an, cdv, ct, osl, rfl, lk, hcd⟩ := F.ex
  refine ⟨len, fun A outer s H args us vs Q E hgu hr e0 hb r hsp => ?_⟩
  have hl := len _ _ _ _ hsp
  have KX : K.In s.heap := e0.mod.kin.keeps fun b o e => (e0.bs b o e).1
  have lim : s.heap.NoLimit := e0.mod.nolimit.keeps fun b o e => (e0.bs b o e).1
  have kinds : ∀ y ∈ ps.zip us, (defScope st).names.lookup y.1 = some .local ∨ ((defScope st).names.lookup y.1 = some .cell ∧ ((cellsFrom (s.heap.objs.size + 1) (defScope st).names []).lookup y.1).isSome = true) := by
    rintro ⟨n, v⟩ hy
    rcases S.par n (List.of_mem_zip hy).1 with q | q
    · exact .inl q
    · exact .inr ⟨q, PySem.W.cellsFrom_some _ _ _ (.inl q)⟩
  refine codeAny_call_function hr.depth (KX _ _ lk) rfl S.co S.gen rfl (PySem.W.codeRec_of KX hcd) (hb _ _ _ _ ?_)
  refine wpAny_newFunctionEnv_cells S.kind kinds fun env hEnv s1 inC => ?_
  subst hEnv
  refine ⟨lim.keeps inC.toInCall.keep, codeAny_func ?_⟩
  obtain ⟨t, ht, hq⟩ := hbody _ A outer s H vs Q E hgu (hr.deeper _) hsp
  have I : Inv (cxOf CX P w K mg base N qual (defScope st) f cdv A outer s H E) [] (L2.start N vs) H s1 := inv_start S hr.hd e0 hl r inC
  refine wpAny_mono (ht.nox.run [] s1 (L2.start N vs) H _ I hq) (fun fl s2 hs => ?_) fun _ _ hs => hs
  have done : ∀ {σ2 : L2.St} {H2 : Hp} {v : V} {u : Value}, Inv (cxOf CX P w K mg base N qual (defScope st) f cdv A outer s H E) [] σ2 H2 s2 → RelV v u → Q v H2 → CE outer P w H s Q u s2 :=
    fun {σ2 H2 v u} J rv q => ⟨v, H2, J.os, J.bare, J.base, J.hok, rv, q⟩
  cases fl with
  | ret u =>
    obtain ⟨v, σ2, H2, J, rv, q⟩ := hs
    exact done J rv q
  | next =>
    obtain ⟨σ2, H2, J, q⟩ := hs
    exact done (v := V.non) (u := Value.none) J rfl q
  | brk =>
    obtain ⟨_, _, _, q⟩ := hs
    exact q.elim
  | cont =>
    obtain ⟨_, _, _, q⟩ := hs
    exact q.elim
end
/-! ### the end of a law -/
/-- the law's promise: True, whatever the script -/
def spLaw (K : PySem.W.Frag) : Sp := fun vs H Q _ => ∃ (a : Addr) (ns : List Int), vs = [.ref a] ∧ SqL K H a (ns.map V.int) ∧ ns.length ≤ 63 ∧ (∀ b, H b = none ∨ ∃ o xs, H b = some (.frz o (.lst xs))) ∧ ∀ H', Q (.bl true) H'
theorem law_goes {P : Program} {w : World} {K : PySem.W.Frag} {mg mb : Str → Option Value} {CX : CXT} {k : Nat} {fa a : Addr} {fd : FuncData} {x : Str} {sp : Sp} {s₁ : Shared} {vs : List Value} {ns : List Int}
    (KX : K.In s₁.heap) (hns : s₁.heap.Ns mainGlobals mg) (hb : s₁.heap.Ns builtinsNs mb) (hbb : ∀ x : Str, x ≠ "__name__" → mb x = bootBuiltins x) (hlim : s₁.heap.NoLimit) (hg : s₁.gens = #[])
    (ha : s₁.heap.get? a = some { cls := .type "list", data := .seq vs.toArray }) (hi : IntsAre vs ns) (hl : ns.length ≤ sizeLine) (hr : Room k callerA)
    (F : ∀ base : Heap, K.In base → base.Ns mainGlobals mg → FnG P w K mg base CX k fa fd [x] sp) (hbind : ∀ (s : Shared) (u : Value), BindsTo s fd ⟨[u], []⟩ [(x, u)])
    (hsp : ∀ H : Hp, Only H → SqL K H a (ns.map V.int) → sp [.ref a] H (fun v _ => v = .bl true) fun _ _ _ => False)
    (hCX : ∀ H e s2, CX [] H s₁ (fun _ _ _ => False) e s2 → False) :
    codeAny (model P w) callerA (.call (.ref fa) ⟨[.ref a], []⟩) (fun r s2 => r = .ok (.ret (.bool true)) ∧ OldK s₁.heap s2.heap ∧ s2.os = s₁.os ∧ AllBare s2.gens) s₁ := by
  have rv := vals_ints hi
  have lenV := hi.length
  -- over any abstract heap that tracks the script at most
  have core : ∀ H : Hp, Only H → SqL K H a (ns.map V.int) → HOk P w H s₁.heap → (∀ b, H b ≠ none → b = a) → (H a ≠ none → K.lookup a = none) →
      codeAny (model P w) callerA (.call (.ref fa) ⟨[.ref a], []⟩) (fun r s2 => r = .ok (.ret (.bool true)) ∧ OldK s₁.heap s2.heap ∧ s2.os = s₁.os ∧ AllBare s2.gens) s₁ := by
    intro H only isL hok at1 kNo
    have free : ∀ b : Addr, b ≠ a → H b = none := fun b hb => by
      cases q : H b with
      | none => rfl
      | some u => exact absurd (at1 b (by rw [q]; simp)) hb
    have down : ∀ {b : Addr} {o : Obj}, s₁.heap.get? b = some o → H b = none → (hidT s₁.heap H).get? b = some o := fun e n => hidT_get e n
    have notD : ∀ {b : Addr} {o : Obj} {es : Array DictEntry} {ep : Nat}, s₁.heap.get? b = some o → o.data = .dict es ep → H b = none := fun {b o es ep} e d => free b fun z => by
      subst z
      rw [ha] at e
      cases e
      cases (show Data.seq vs.toArray _ = Data.dict es ep from d)
    have nsD : ∀ {b : Addr} {m : Str → Option Value}, s₁.heap.Ns b m → (hidT s₁.heap H).Ns b m := fun {b m} ⟨o, es, ep, e, d, r⟩ => ⟨o, es, ep, down e (notD e d), d, r⟩
    have kD : K.In (hidT s₁.heap H) := fun b o e => down (KX b o e) (by
      cases q : H b with
      | none => rfl
      | some u =>
        have z := at1 b (by rw [q]; simp)
        subst z
        rw [kNo (by rw [q]; simp)] at e
        cases e)
    have md : Mod K mg (hidT s₁.heap H) := ⟨kD, nsD hns, ⟨mb, nsD hb, hbb⟩, let ⟨mc, h1, h2⟩ := hlim; ⟨mc, nsD h1, h2⟩⟩
    have e0 : Env0 P w K mg (hidT s₁.heap H) callerA [] s₁ H :=
      ⟨rfl, md, fun b o e => of_hidT e, Nat.le_of_eq (hidT_size _ _), trivial, fun b z => absurd (show b ∈ ([] : List Addr) from z) (by simp), hok, .of_eq hg⟩
    refine codeAny_mono ((F _ kD (nsD hns)).go callerA [] s₁ H ⟨[.ref a], []⟩ [.ref a] [.ref a] _ _ rfl hr e0 (hbind s₁ (.ref a)) (.cons rfl .nil) (hsp H only isL)) fun r s2 h => ?_
    cases r with
    | error e => exact (hCX H e s2 h).elim
    | ok fl =>
      cases fl with
      | next => exact h.elim
      | brk => exact h.elim
      | cont => exact h.elim
      | ret u =>
        obtain ⟨v, H2, os, bare, un, hok2, r2, q⟩ := h
        obtain rfl : v = .bl true := q
        obtain rfl : u = Value.bool true := r2
        refine ⟨rfl, OldK.of_keep fun b o e => ?_, os, bare⟩
        cases q : H b with
        | none => exact un.keep b o e q (fun z => absurd (show b ∈ ([] : List Addr) from z) (by simp)) (by simp)
        | some u =>
          rcases only b with z | ⟨ob, xs, z⟩
          · rw [q] at z
            cases z
          · obtain ⟨e1, _⟩ := hok b _ z
            obtain ⟨e2, _⟩ := hok2 b _ (un.frzs b ob _ z)
            rw [e] at e1
            cases e1
            exact e2
  cases hk : K.lookup a with
  | some o =>
    have e := KX a o hk
    rw [ha] at e
    cases e
    refine core (fun _ => none) (fun _ => .inl rfl) (.inr ⟨_, vs.toArray, _, hk, rfl, rfl, rfl, by rw [List.size_toArray, lenV]; exact hl, by simpa using rv⟩) (fun b u z => ?_) (fun b z => absurd rfl z) fun z => absurd rfl z
    cases (show (none : Option HO) = some u from z)
  | none =>
    refine core (fun b => if b = a then some (.frz { cls := .type "list", data := .seq vs.toArray } (.lst (ns.map V.int))) else none) (fun b => ?_) (.inl (.inr ⟨{ cls := .type "list", data := .seq vs.toArray }, if_pos rfl⟩)) (fun b u z => ?_) (fun b z => ?_) fun _ => hk
    · by_cases hb : b = a
      · exact .inr ⟨_, _, if_pos hb⟩
      · exact .inl (if_neg hb)
    · by_cases hb : b = a
      · have z2 := (if_pos hb).symm.trans z
        cases z2
        subst hb
        exact ⟨ha, by rw [List.length_map]; exact hl, vs, _, rv, ha⟩
      · have z2 := (if_neg hb).symm.trans z
        cases z2
    · by_cases hb : b = a
      · exact hb
      · exact absurd (if_neg hb) z
/-- the goal behind k_head, by the law's promise -/
theorem walk_G {l : PySem.W.OpenLaw} {k : Nat} {q : Program} {loose : List Str} {XP : (Str → Option Value) → Heap → Prop} {YP : World → Heap → Prop} {d : DefRec} {K : Params → PySem.W.Frag} {x : Str}
    (hn : l.most = some 63) (hdf : d.params.defaults = []) (hr : Room k callerA) (hY : ∀ (w : World) (h : Heap), YP w h → (K w.params).In h)
    (F : ∀ (w : World) (mg : Str → Option Value) (fa : Addr) (h : Heap), (K w.params).In h → h.Ns mainGlobals mg → mg d.name = some (.ref fa) →
      ∃ fd : FuncData, (∀ (s : Shared) (u : Value), BindsTo s fd ⟨[u], []⟩ [(x, u)]) ∧
        ∀ base : Heap, (K w.params).In base → base.Ns mainGlobals mg → FnG l.prog w (K w.params) mg base CX0 k fa fd [x] (spLaw (K w.params))) :
    PySem.W.WalkO q loose XP YP l.row.toRowW d [] (fun f vs => PySem.call f vs) := by
  refine Att.attach_call hn hdf fun w s₀ s₁ mg mb fa o pm cd doc a vs ns G Y ho hd hcd hmg hobj hints hlen hg => ?_
  have KX := hY w _ Y
  obtain ⟨fd, hb, hF⟩ := F w mg fa _ KX G.T.g hmg
  exact law_goes KX G.T.g G.T.b G.T.builtins G.T.nolimit hg hobj hints (Nat.le_trans hlen (by decide)) hr hF hb (fun H hO hS => ⟨a, ns, rfl, hS, hlen, hO, fun _ => rfl⟩) fun _ _ _ h => h
end Cf
namespace Cf
open PySem PySem.Spec PyProof.Rows L2
open Evl (Ex)
/-! ### ranges of any size -/
theorem turn_long {P : Program} {w : World} {K : PySem.W.Frag} {tg : Expr} (it : Addr) (lo : Int) (n : Nat) : Turn P w K tg (Itr lo n) [it] it (fun i h => IsLongIter h it (lo + (i : Nat) * 1) ((n : Int) - (i : Nat)) 1) where
  mem := by simp
  obj := fun i h st b hb => by
    obtain rfl : b = it := by simpa using hb
    exact ⟨_, st, fun v z => by cases (show Data.fields _ = Data.cell v from z)⟩
  keep := fun i h h2 st k => k it (by simp) _ st
  item := by
    intro X hP hw hK hc i pins s σ H E I hf st hg
    subst hP hw hK
    obtain ⟨f0, f1, f2, f3, f4, f5⟩ := hf it (by simp)
    refine (Walks.longrange (prog := X.prog) (w := X.w) (I.ok.hd hc) it lo 1 n).item i s _ _ hg st fun v h2 tk hv st2 kk => ?_
    obtain ⟨t, rfl⟩ := hv
    have I1 : Inv X pins σ H { s with heap := h2, toks := tk } := I.turned (fun b o hb e => kk b o (by simpa using hb) e) f0 f1 f3 f4 f5
    refine ⟨_, rfl, go_of (s := { s with heap := h2, toks := tk }) (n := "longrange_iterator") st2 rfl rfl (by decide) ⟨.int (lo + i), H, I1, ⟨t, ?_⟩, ⟨rfl, rfl⟩, st2, fun b hb => (hf b hb).1⟩⟩
    rw [Int.mul_one]
  done := by
    intro X hP hw hK hc i pins s σ H E I hf st hg
    subst hP hw hK
    obtain ⟨f0, f1, f2, f3, f4, f5⟩ := hf it (by simp)
    exact wpAny_pyNext_long_end (I.ok.hd hc) st (by have : n ≤ i := hg; omega) fun h2 eb => ⟨rfl, I.turned (t' := s.toks) (fun b o hb e => eb b o hb e) f0 f1 f3 f4 f5⟩
  self := fun _ _ _ _ _ st h => wpAny_pyIter_longiter st h
section
variable {X : Cx} {tg : Expr}
theorem rg_it {pins : List (Addr × Obj)} {σ : L2.St} {H : Hp} {s : Shared} {R : It → Hp → Prop} {E : Value → Shared → Prop} {lo hi : Int} {t u v : Tok} {tk : Nat} (I : Inv X pins σ H s)
    (q : R (Itr lo (hi - lo).toNat) H) : wpAny (model X.prog X.w) X.A (pyIter (.ref s.heap.objs.size)) (PIE X pins σ tg R) E { s with heap := s.heap.push { cls := .type "range", data := .fields #[.int lo t, .int hi u, .int 1 v] }, toks := tk } := by
  have hR : IsRange (s.heap.push { cls := .type "range", data := .fields #[.int lo t, .int hi u, .int 1 v] }) s.heap.objs.size lo hi 1 t u v := IsRange.new ..
  have I1 : Inv X pins σ H { s with heap := s.heap.push { cls := .type "range", data := .fields #[.int lo t, .int hi u, .int 1 v] }, toks := tk } := I.kept fun b o e => Heap.get?_push_of_some _ e
  have e1 : lo + ((0 : Nat) : Int) * 1 = lo := by simp
  have e2 : (((hi - lo).toNat : Nat) : Int) - ((0 : Nat) : Int) = Builtin.Range.rangeSize lo hi 1 := by
    rw [rangeSize_one]
    split <;> omega
  cases hs : Builtin.Range.small lo hi 1 with
  | true =>
    refine wpAny_pyIter_range hR hs ?_
    refine ⟨(s.heap.push { cls := .type "range", data := .fields #[.int lo t, .int hi u, .int 1 v] }).objs.size, [(s.heap.push { cls := .type "range", data := .fields #[.int lo t, .int hi u, .int 1 v] }).objs.size], _, _, H, rfl,
      I1.kept (t' := tk) fun b o e => Heap.get?_push_of_some _ e, turn_range _ lo (hi - lo).toNat, ?_, fun b hb => ?_, q⟩
    · show IsRangeIter _ _ (lo + ((0 : Nat) : Int) * 1) ((((hi - lo).toNat : Nat) : Int) - ((0 : Nat) : Int)) 1
      rw [e1, e2]
      exact Heap.get?_push_size _ rfl
    · obtain rfl : b = (s.heap.push { cls := .type "range", data := .fields #[.int lo t, .int hi u, .int 1 v] }).objs.size := by simpa using hb
      exact I1.fpOk (Nat.le_refl _) (I1.hok.fresh (Nat.le_refl _))
  | false =>
    refine wpAny_pyIter_longrange hR hs ?_
    refine ⟨(s.heap.push { cls := .type "range", data := .fields #[.int lo t, .int hi u, .int 1 v] }).objs.size, [(s.heap.push { cls := .type "range", data := .fields #[.int lo t, .int hi u, .int 1 v] }).objs.size], _, _, H, rfl,
      I1.kept (t' := tk) fun b o e => Heap.get?_push_of_some _ e, turn_long _ lo (hi - lo).toNat, ?_, fun b hb => ?_, q⟩
    · show IsLongIter _ _ (lo + ((0 : Nat) : Int) * 1) ((((hi - lo).toNat : Nat) : Int) - ((0 : Nat) : Int)) 1
      rw [e1, e2]
      exact Heap.get?_push_size _ rfl
    · obtain rfl : b = (s.heap.push { cls := .type "range", data := .fields #[.int lo t, .int hi u, .int 1 v] }).objs.size := by simpa using hb
      exact I1.fpOk (Nat.le_refl _) (I1.hok.fresh (Nat.le_refl _))
theorem pi_rg1 {a : Expr} {ta : TA} {p pos : Pos} (hg : Gl X "range") (hm : X.mg "range" = none) (ha : PA X [a] ta) (hs : starEach [a] X.env = [(false, eval a X.env)] := by rfl) : PI X tg (.Call (.Name "range" p) [a] [] pos) (iRg1 ta) := by
  constructor
  intro pins s σ H R I h
  refine Call_ (ld_blt I hg hm boot_range (PyProof.Rows.callWith_type1 (thn (ha.run pos pins s σ H _ I h) fun us s1 ⟨vs, H1, I1, r1, q1⟩ => ?_) hs rfl))
  obtain ⟨j, rfl, q⟩ := q1
  obtain ⟨u, rfl, t, rfl⟩ := vals1 r1
  exact call_range_1 (rg_it I1 (by rw [Int.sub_zero]; exact q))
end
end Cf
namespace Cf
open PySem PySem.Spec PyProof.Rows L2
open Evl (Ex)
/-! ### what is known of data -/
def isInt : PyData → Bool | .int _ => true | _ => false
def isSign : PyData → Bool | .int i => decide (2 ≤ i ∧ i ≤ 4) | _ => false
def isIntL : PyData → Bool | .list ds => ds.all isInt | _ => false
def inSigns (s : Int) : PyData → Bool | .int i => decide (0 ≤ i ∧ i < s) | _ => false
def isWord (s : Int) : PyData → Bool | .list ds => ds.all (inSigns s) | _ => false
def shortD : PyData → Bool | .list ds => decide (ds.length < 100000) | .tuple ds => decide (ds.length < 100000) | .str z => decide (z.length < 100000) | _ => true
theorem kb_int (x : PyData) : kitB (tyD x) "int" = some (match x with | .int _ => true | .bool _ => true | _ => false) := by
  cases x with
  | none => exact (by decide +kernel : kitB "NoneType" "int" = some false)
  | bool b => exact (by decide +kernel : kitB "bool" "int" = some true)
  | int b => exact (by decide +kernel : kitB "int" "int" = some true)
  | str b => exact (by decide +kernel : kitB "str" "int" = some false)
  | list b => exact (by decide +kernel : kitB "list" "int" = some false)
  | tuple b => exact (by decide +kernel : kitB "tuple" "int" = some false)
  | dict b => exact (by decide +kernel : kitB "dict" "int" = some false)
theorem kb_bool (x : PyData) : kitB (tyD x) "bool" = some (match x with | .bool _ => true | _ => false) := by
  cases x with
  | none => exact (by decide +kernel : kitB "NoneType" "bool" = some false)
  | bool b => exact (by decide +kernel : kitB "bool" "bool" = some true)
  | int b => exact (by decide +kernel : kitB "int" "bool" = some false)
  | str b => exact (by decide +kernel : kitB "str" "bool" = some false)
  | list b => exact (by decide +kernel : kitB "list" "bool" = some false)
  | tuple b => exact (by decide +kernel : kitB "tuple" "bool" = some false)
  | dict b => exact (by decide +kernel : kitB "dict" "bool" = some false)
theorem kb_list (x : PyData) : kitB (tyD x) "list" = some (match x with | .list _ => true | _ => false) := by
  cases x with
  | none => exact (by decide +kernel : kitB "NoneType" "list" = some false)
  | bool b => exact (by decide +kernel : kitB "bool" "list" = some false)
  | int b => exact (by decide +kernel : kitB "int" "list" = some false)
  | str b => exact (by decide +kernel : kitB "str" "list" = some false)
  | list b => exact (by decide +kernel : kitB "list" "list" = some true)
  | tuple b => exact (by decide +kernel : kitB "tuple" "list" = some false)
  | dict b => exact (by decide +kernel : kitB "dict" "list" = some false)
theorem kb_tuple (x : PyData) : kitB (tyD x) "tuple" = some (match x with | .tuple _ => true | _ => false) := by
  cases x with
  | none => exact (by decide +kernel : kitB "NoneType" "tuple" = some false)
  | bool b => exact (by decide +kernel : kitB "bool" "tuple" = some false)
  | int b => exact (by decide +kernel : kitB "int" "tuple" = some false)
  | str b => exact (by decide +kernel : kitB "str" "tuple" = some false)
  | list b => exact (by decide +kernel : kitB "list" "tuple" = some false)
  | tuple b => exact (by decide +kernel : kitB "tuple" "tuple" = some true)
  | dict b => exact (by decide +kernel : kitB "dict" "tuple" = some false)

/-! ### the word that goes on by the shape of what is read -/
end Cf
/-! comprehensions whose items are told one by one -/
namespace Cf
open PySem PySem.Spec PyProof.Rows L2
open Evl (Ex)
section
variable {K : PySem.W.Frag} {t : Option Addr} {ρ : Rho} {i : Nat} {te tl : TE} {tr : TA} {Q : List PyData → Prop}
theorem DL_mapR1 {f : Nat → PyData} (h : DA K t tr ρ fun xs => ∃ n : Nat, xs = [.int n] ∧ n < 100000 ∧ (∀ k, k < n → DE K t te (ρ.set i (.sh (.int (k : Int)))) fun y => y = f k) ∧ Q ((List.range n).map f)) : DL K t (tLc (iRg1 tr) (gName i) tYes te [i]) ρ Q := by
  refine DL_lcR1 fun F0 H0 F H σ A QK k => h F0 H0 F H σ A QK fun xs vs F' H' hx e z => k xs vs F' H' ?_ e z
  obtain ⟨n, rfl, hn, hs, q⟩ := hx
  refine ⟨n, rfl, fun k acc => acc = (List.range k).map f, rfl, fun k acc hk e => ?_, fun acc e => ?_⟩
  · subst e
    have hk : k < n := by simpa using hk
    refine ⟨by rw [List.length_map, List.length_range]; omega, DT_yes (iteT ?_)⟩
    rw [Int.zero_add]
    refine (hs k hk).mono fun y e => ?_
    subst e
    try dsimp only
    rw [List.range_succ, List.map_append]
    rfl
  · have e : acc = (List.range n).map f := by simpa using e
    rw [e]
    exact q
end
end Cf
/-! the program's words: what each def makes of data -/
namespace Cf
open PySem PySem.Spec PyProof.Rows L2
open Evl (Ex)
local macro_rules | `(tactic| walk_at "d") => `(tactic| first
  | (with_reducible refine DS_seq ?_)
  | (with_reducible refine DS_if ?_)
  | (with_reducible refine DS_ret ?_)
  | (with_reducible refine DS_next ?_)
  | (with_reducible refine DS_retN ?_)
  | (with_reducible refine DS_set ?_)
  | (with_reducible refine DS_drop ?_)
  | (with_reducible refine DS_unpack ?_)
  | (with_reducible refine DS_par ?_)
  | (with_reducible refine DE_int ?_)
  | (with_reducible refine DE_bl ?_)
  | (with_reducible refine DE_non ?_)
  | (with_reducible refine DE_str ?_)
  | (with_reducible refine DE_isi ?_)
  | (with_reducible refine DE_and ?_)
  | (with_reducible refine DE_or ?_)
  | (with_reducible refine DE_not ?_)
  | (with_reducible refine DE_if ?_)
  | (with_reducible refine DE_chain ?_)
  | (with_reducible refine DE_tyIs ?_)
  | (with_reducible refine DE_tyNot ?_)
  | (with_reducible refine DE_call ?_)
  | (with_reducible refine DE_cb ?_)
  | (with_reducible refine DE_op ?_)
  | (with_reducible refine DE_un ?_)
  | (with_reducible refine DE_tup ?_)
  | (with_reducible refine DT_test ?_)
  | (with_reducible refine DT_B ?_)
  | (with_reducible refine DT_and ?_)
  | (with_reducible refine DT_or ?_)
  | (with_reducible refine DT_not ?_)
  | (with_reducible refine DT_yes ?_)
  | (with_reducible refine DA_nil ?_)
  | (with_reducible refine DA_cons ?_)
  | (with_reducible refine DO_no ?_)
  | (with_reducible refine DO_at ?_)
  | (with_reducible refine DR_minus ?_)
  | (with_reducible refine DR_mod ?_)
  | (with_reducible refine DR_div ?_)
  | (with_reducible refine DR_pow ?_)
  | (with_reducible refine DR_lt ?_)
  | (with_reducible refine DR_le ?_)
  | (with_reducible refine DR_gt ?_)
  | (with_reducible refine DR_ge ?_)
  | (with_reducible refine DR_eq ?_)
  | (with_reducible refine DR_ne ?_)
  | (with_reducible refine DR_isN ?_)
  | (with_reducible refine DR_notN ?_)
  | (with_reducible refine DU_neg ?_)
  | (with_reducible refine DC_len ?_)
  | (with_reducible refine DC_int ?_)
  | (with_reducible refine DC_abs ?_)
  | (with_reducible refine DC_max2 ?_)
  | (with_reducible refine DC_min2 ?_)
  | (with_reducible refine DC_sum ?_)
  | (with_reducible refine DC_all ?_)
  | (with_reducible refine DC_any ?_)
  | (with_reducible refine DC_repr ?_)
  | (with_reducible refine ⟨_, kb_int _, ?_⟩)
  | (with_reducible refine ⟨_, kb_bool _, ?_⟩)
  | (with_reducible refine ⟨_, kb_list _, ?_⟩)
  | (with_reducible refine ⟨_, kb_tuple _, ?_⟩)
  | (with_reducible refine ⟨_, rfl, ?_⟩)
  | (with_reducible refine ⟨_, _, rfl, rfl, ?_⟩)
  | ((with_reducible refine' DE_var ?k1 ?_); (case k1 => exact rfl)))

abbrev LI (ns : List Int) : PyData := .list (ns.map .int)
/-- a def's body keeps W -/
abbrev Keeps (W : List PyData → (PyData → Prop) → Prop) (n : Nat) (tb : PySem.W.Frag → TS) : Prop :=
  ∀ (K : PySem.W.Frag) (ds : List PyData) (R : PyData → Prop), W ds R → ds.length ≤ n ∧ DS K none (tb K) (ds.map Sl.sh ++ List.replicate (n - ds.length) Sl.no) (fun _ => R .none) R NoR NoR

def W_is_integer (ds : List PyData) (R : PyData → Prop) : Prop := ∃ x, ds = [x] ∧ R (.bool (isInt x))
def t_is_integer (K : PySem.W.Frag) : TS :=
  (tRet (tAndV (tCB (rIsi K) (tCons (tVar 0) (tCons (tC (.ty "int")) tNil))) (tNotV (tCB (rIsi K) (tCons (tVar 0) (tCons (tC (.ty "bool")) tNil))))))
def W_is_sign_count (ds : List PyData) (R : PyData → Prop) : Prop := ∃ x, ds = [x] ∧ R (.bool (isSign x))
def t_is_sign_count (K : PySem.W.Frag) : TS :=
  (tRet (tAndV (tCall (spP K W_is_integer) [] E0 (tCons (tVar 0) tNil)) (tChain rLeI rLeI (tC (.int 2)) (tVar 0) (tC (.int 4)))))
def W_is_integer_list (ds : List PyData) (R : PyData → Prop) : Prop := ∃ x, ds = [x] ∧ shortD x = true ∧ R (.bool (isIntL x))
def t_is_integer_list (K : PySem.W.Frag) : TS :=
  (tRet (tAndV (tOp rIsTyB (tCB (rTyp K) (tCons (tVar 0) tNil)) (tC (.ty "list"))) (tCB (rAll K) (tCons (tLc (iList K (tVar 0)) (gName 1) tYes (tCall (spP K W_is_integer) [] E0 (tCons (tVar 1) tNil)) [1]) tNil))))
def W_is_word (ds : List PyData) (R : PyData → Prop) : Prop := ∃ (s : Int) (x : PyData), ds = [.int s, x] ∧ shortD x = true ∧ R (.bool (isWord s x))
def t_is_word (K : PySem.W.Frag) : TS :=
  (tRet (tAndV (tCall (spP K W_is_integer_list) [] E0 (tCons (tVar 1) tNil)) (tCB (rAll K) (tCons (tLc (iList K (tVar 1)) (gName 2) tYes (tChain rLeI rLtI (tC (.int 0)) (tVar 2) (tVar 0)) [2]) tNil))))
def W_check_signs (ds : List PyData) (R : PyData → Prop) : Prop := ∃ x, ds = [x] ∧ isSign x = true ∧ R .none
def t_check_signs (K : PySem.W.Frag) : TS :=
  (tIfS (tNot (tB (tCall (spP K W_is_sign_count) [] E0 (tCons (tVar 0) tNil))))
    tNever
    tNext)
end Cf
/-! words of signs, their numbers; rings -/
namespace Cf
/-- the number of a word -/
def num (s : Int) (w : List Int) : Int := w.foldl (fun a d => a * s + d) 0
theorem pow_pos' {s : Int} (h : 0 < s) : ∀ n : Nat, 0 < s ^ n
  | 0 => by simp
  | n + 1 => by
    rw [Int.pow_succ]
    exact Int.mul_pos (pow_pos' h n) h
/-- the sign at a place of a ring, round it -/
def at_ (r : List Int) (z : Int) : Int := r.getD (z % r.length).toNat 0
/-- the word of l cells from a place on -/
def win (r : List Int) (z : Int) (l : Nat) : List Int := (List.range l).map fun (k : Nat) => at_ r (z + k)
def Signs (s : Int) (r : List Int) : Prop := ∀ d ∈ r, 0 ≤ d ∧ d < s
/-- the numbers of the words of l cells, for each cell -/
def nums (s : Int) (l : Nat) (r : List Int) (st : Int) : List Int := (List.range r.length).map fun (c : Nat) => num s (win r (st + c) l)
/-- how many words, if they are not too many -/
def cw (s l m : Int) : Option Int := if s ^ l.toNat ≤ m then some (s ^ l.toNat) else none
theorem pow_mono {s : Int} (h : 1 ≤ s) {a b : Nat} (hab : a ≤ b) : s ^ a ≤ s ^ b := by
  obtain ⟨c, rfl⟩ := Nat.exists_eq_add_of_le hab
  clear hab
  induction c with
  | zero => simp
  | succ c ih =>
    rw [← Nat.add_assoc, Int.pow_succ]
    have hp : 0 < s ^ (a + c) := pow_pos' (by omega) _
    have e : s ^ (a + c) * 1 ≤ s ^ (a + c) * s := Int.mul_le_mul_of_nonneg_left h (Int.le_of_lt hp)
    rw [Int.mul_one] at e
    omega
/-- the sum of a ring -/
def ringSum (s : Int) (l : Nat) (vs : List Int) (r : List Int) : Int := ((nums s l r 0).map fun n => vs.getD n.toNat 0).sum
end Cf
namespace Cf
open PySem PySem.Spec PyProof.Rows L2
open Evl (Ex)
local macro_rules | `(tactic| walk_at "d") => `(tactic| first
  | (with_reducible refine DS_seq ?_)
  | (with_reducible refine DS_if ?_)
  | (with_reducible refine DS_ret ?_)
  | (with_reducible refine DS_next ?_)
  | (with_reducible refine DS_retN ?_)
  | (with_reducible refine DS_set ?_)
  | (with_reducible refine DS_drop ?_)
  | (with_reducible refine DS_unpack ?_)
  | (with_reducible refine DS_par ?_)
  | (with_reducible refine DE_int ?_)
  | (with_reducible refine DE_bl ?_)
  | (with_reducible refine DE_non ?_)
  | (with_reducible refine DE_str ?_)
  | (with_reducible refine DE_isi ?_)
  | (with_reducible refine DE_and ?_)
  | (with_reducible refine DE_or ?_)
  | (with_reducible refine DE_not ?_)
  | (with_reducible refine DE_if ?_)
  | (with_reducible refine DE_chain ?_)
  | (with_reducible refine DE_tyIs ?_)
  | (with_reducible refine DE_tyNot ?_)
  | (with_reducible refine DE_call ?_)
  | (with_reducible refine DE_cb ?_)
  | (with_reducible refine DE_op ?_)
  | (with_reducible refine DE_un ?_)
  | (with_reducible refine DE_tup ?_)
  | (with_reducible refine DT_test ?_)
  | (with_reducible refine DT_B ?_)
  | (with_reducible refine DT_and ?_)
  | (with_reducible refine DT_or ?_)
  | (with_reducible refine DT_not ?_)
  | (with_reducible refine DT_yes ?_)
  | (with_reducible refine DA_nil ?_)
  | (with_reducible refine DA_cons ?_)
  | (with_reducible refine DO_no ?_)
  | (with_reducible refine DO_at ?_)
  | (with_reducible refine DR_minus ?_)
  | (with_reducible refine DR_mod ?_)
  | (with_reducible refine DR_div ?_)
  | (with_reducible refine DR_pow ?_)
  | (with_reducible refine DR_lt ?_)
  | (with_reducible refine DR_le ?_)
  | (with_reducible refine DR_gt ?_)
  | (with_reducible refine DR_ge ?_)
  | (with_reducible refine DR_eq ?_)
  | (with_reducible refine DR_ne ?_)
  | (with_reducible refine DR_isN ?_)
  | (with_reducible refine DR_notN ?_)
  | (with_reducible refine DU_neg ?_)
  | (with_reducible refine DC_len ?_)
  | (with_reducible refine DC_int ?_)
  | (with_reducible refine DC_abs ?_)
  | (with_reducible refine DC_max2 ?_)
  | (with_reducible refine DC_min2 ?_)
  | (with_reducible refine DC_sum ?_)
  | (with_reducible refine DC_all ?_)
  | (with_reducible refine DC_any ?_)
  | (with_reducible refine DC_repr ?_)
  | (with_reducible refine ⟨_, kb_int _, ?_⟩)
  | (with_reducible refine ⟨_, kb_bool _, ?_⟩)
  | (with_reducible refine ⟨_, kb_list _, ?_⟩)
  | (with_reducible refine ⟨_, kb_tuple _, ?_⟩)
  | (with_reducible refine ⟨_, rfl, ?_⟩)
  | (with_reducible refine ⟨_, _, rfl, rfl, ?_⟩)
  | ((with_reducible refine' DE_var ?k1 ?_); (case k1 => exact rfl)))

def optD : Option Int → PyData | none => .none | some v => .int v
def W_count_words (ds : List PyData) (R : PyData → Prop) : Prop := ∃ s l m : Int, ds = [.int s, .int l, .int m] ∧ 2 ≤ s ∧ s ≤ 4 ∧ 1 ≤ m ∧ R (optD (cw s l m))
def t_count_words (K : PySem.W.Frag) : TS :=
  (tSeq (tAsg (tC (.int 1)) (gName 3))
    (tSeq (tFor (iRg1 (tCons (tVar 1) tNil)) (gName 4)
    (tSeq (tAsg (tOp rTimes (tVar 3) (tVar 0)) (gName 3))
    (tIfS (tTest (tOp rGtI (tVar 3) (tVar 2)))
    (tRet (tC .non))
    tNext)))
    (tRet (tVar 3))))
def W_number_of (ds : List PyData) (R : PyData → Prop) : Prop := ∃ (s : Int) (ns : List Int), ds = [.int s, LI ns] ∧ 2 ≤ s ∧ s ≤ 4 ∧ R (.int (num s ns))
def t_number_of (K : PySem.W.Frag) : TS :=
  (tSeq (tAsg (tC (.int 0)) (gName 2))
    (tSeq (tFor (iList K (tVar 1)) (gName 3)
    (tAsg (tOp (rPlus K) (tOp rTimes (tVar 2) (tVar 0)) (tVar 3)) (gName 2)))
    (tRet (tVar 2))))
def W_numbers_round1 (ds : List PyData) (R : PyData → Prop) : Prop := ∃ (s : Int) (l : Nat) (r : List Int) (st : Int), ds = [.int s, .int l, LI r, .int st] ∧ 2 ≤ s ∧ s ≤ 4 ∧ 1 ≤ l ∧ s ^ l ≤ 1024 ∧ l ≤ 1000 ∧ r ≠ [] ∧ r.length ≤ 5000 ∧ Signs s r ∧ R (LI (nums s l r st))
def t_numbers_round (K : PySem.W.Frag) : TS :=
  (tSeq (tAsg (tCB (rLenA K) (tCons (tVar 2) tNil)) (gName 4))
    (tSeq (tAsg (tCall (spP K W_count_words) [] E0 (tCons (tVar 0) (tCons (tVar 1) (tCons (tC (.int 1024)) tNil)))) (gName 5))
    (tSeq (tAsg (tOp rMinus (tOp (rPlus K) (tVar 3) (tVar 1)) (tC (.int 1))) (gName 6))
    (tSeq (tAsg (tCall (spP K W_number_of) [] E0 (tCons (tVar 0) (tCons (tLc (iRg2 (tCons (tVar 3) (tCons (tVar 6) tNil))) (gName 8) tYes (tOp (rIx K) (tVar 2) (tOp rModI (tVar 8) (tVar 4))) [8]) tNil))) (gName 7))
    (tSeq (tAsg (tLst tNil) (gName 9))
    (tSeq (tFor (iRg1 (tCons (tVar 4) tNil)) (gName 10)
    (tSeq (tAsg (tOp rModI (tOp (rPlus K) (tOp rTimes (tVar 7) (tVar 0)) (tOp (rIx K) (tVar 2) (tOp rModI (tOp (rPlus K) (tVar 6) (tVar 10)) (tVar 4)))) (tVar 5)) (gName 7))
    (tDrop (tBM K "list" rAppend (tVar 9) (tCons (tVar 7) tNil)))))
    (tRet (tVar 9))))))))
def W_numbers_round (ds : List PyData) (R : PyData → Prop) : Prop := ∃ (s : Int) (l : Nat) (r : List Int) (st : Int), ds = [.int s, .int l, LI r, .int st] ∧ 2 ≤ s ∧ s ≤ 4 ∧ s ^ l ≤ 1024 ∧ l ≤ 1000 ∧ r ≠ [] ∧ r.length ≤ 5000 ∧ Signs s r ∧ R (LI (nums s l r st))
end Cf
namespace Cf
open PySem PySem.Spec PyProof.Rows L2
open Evl (Ex)
local macro_rules | `(tactic| walk_at "d") => `(tactic| first
  | (with_reducible refine DS_seq ?_)
  | (with_reducible refine DS_if ?_)
  | (with_reducible refine DS_ret ?_)
  | (with_reducible refine DS_next ?_)
  | (with_reducible refine DS_retN ?_)
  | (with_reducible refine DS_set ?_)
  | (with_reducible refine DS_drop ?_)
  | (with_reducible refine DS_unpack ?_)
  | (with_reducible refine DS_par ?_)
  | (with_reducible refine DE_int ?_)
  | (with_reducible refine DE_bl ?_)
  | (with_reducible refine DE_non ?_)
  | (with_reducible refine DE_str ?_)
  | (with_reducible refine DE_isi ?_)
  | (with_reducible refine DE_and ?_)
  | (with_reducible refine DE_or ?_)
  | (with_reducible refine DE_not ?_)
  | (with_reducible refine DE_if ?_)
  | (with_reducible refine DE_chain ?_)
  | (with_reducible refine DE_tyIs ?_)
  | (with_reducible refine DE_tyNot ?_)
  | (with_reducible refine DE_call ?_)
  | (with_reducible refine DE_cb ?_)
  | (with_reducible refine DE_op ?_)
  | (with_reducible refine DE_un ?_)
  | (with_reducible refine DE_tup ?_)
  | (with_reducible refine DT_test ?_)
  | (with_reducible refine DT_B ?_)
  | (with_reducible refine DT_and ?_)
  | (with_reducible refine DT_or ?_)
  | (with_reducible refine DT_not ?_)
  | (with_reducible refine DT_yes ?_)
  | (with_reducible refine DA_nil ?_)
  | (with_reducible refine DA_cons ?_)
  | (with_reducible refine DO_no ?_)
  | (with_reducible refine DO_at ?_)
  | (with_reducible refine DR_minus ?_)
  | (with_reducible refine DR_mod ?_)
  | (with_reducible refine DR_div ?_)
  | (with_reducible refine DR_pow ?_)
  | (with_reducible refine DR_lt ?_)
  | (with_reducible refine DR_le ?_)
  | (with_reducible refine DR_gt ?_)
  | (with_reducible refine DR_ge ?_)
  | (with_reducible refine DR_eq ?_)
  | (with_reducible refine DR_ne ?_)
  | (with_reducible refine DR_isN ?_)
  | (with_reducible refine DR_notN ?_)
  | (with_reducible refine DU_neg ?_)
  | (with_reducible refine DC_len ?_)
  | (with_reducible refine DC_int ?_)
  | (with_reducible refine DC_abs ?_)
  | (with_reducible refine DC_max2 ?_)
  | (with_reducible refine DC_min2 ?_)
  | (with_reducible refine DC_sum ?_)
  | (with_reducible refine DC_all ?_)
  | (with_reducible refine DC_any ?_)
  | (with_reducible refine DC_repr ?_)
  | (with_reducible refine ⟨_, kb_int _, ?_⟩)
  | (with_reducible refine ⟨_, kb_bool _, ?_⟩)
  | (with_reducible refine ⟨_, kb_list _, ?_⟩)
  | (with_reducible refine ⟨_, kb_tuple _, ?_⟩)
  | (with_reducible refine ⟨_, rfl, ?_⟩)
  | (with_reducible refine ⟨_, _, rfl, rfl, ?_⟩)
  | ((with_reducible refine' DE_var ?k1 ?_); (case k1 => exact rfl)))

def isRing (s : Int) : PyData → Bool | .list ds => isWord s (.list ds) && decide (1 ≤ ds.length ∧ ds.length ≤ 512) | _ => false
def W_is_ring (ds : List PyData) (R : PyData → Prop) : Prop := ∃ (s : Int) (x : PyData), ds = [.int s, x] ∧ 2 ≤ s ∧ s ≤ 4 ∧ shortD x = true ∧ R (.bool (isRing s x))
def t_is_ring (K : PySem.W.Frag) : TS :=
  (tSeq (tDrop (tCall (spP K W_check_signs) [] E0 (tCons (tVar 0) tNil)))
    (tRet (tAndV (tCall (spP K W_is_word) [] E0 (tCons (tVar 0) (tCons (tVar 1) tNil))) (tChain rLeI rLeI (tC (.int 1)) (tCB (rLenA K) (tCons (tVar 1) tNil)) (tC (.int 512))))))
def W_check_ring (ds : List PyData) (R : PyData → Prop) : Prop := ∃ (s : Int) (x : PyData), ds = [.int s, x] ∧ 2 ≤ s ∧ s ≤ 4 ∧ shortD x = true ∧ isRing s x = true ∧ R .none
def t_check_ring (K : PySem.W.Frag) : TS :=
  (tIfS (tNot (tB (tCall (spP K W_is_ring) [] E0 (tCons (tVar 0) (tCons (tVar 1) tNil)))))
    tNever
    tNext)
def isWeight : PyData → Bool
  | .tuple [.int s, .int l, .list vs] => decide (2 ≤ s ∧ s ≤ 4) && decide (1 ≤ l) && vs.all isInt && decide (cw s l 1024 = some (vs.length : Int))
  | _ => false
/-- short, and the third item too -/
def shortW : PyData → Bool
  | .tuple [a, b, c] => shortD c
  | .list ds => decide (ds.length < 100000)
  | .tuple ds => decide (ds.length < 100000)
  | .str z => decide (z.length < 100000)
  | _ => true
def W_is_weight (ds : List PyData) (R : PyData → Prop) : Prop := ∃ (x : PyData), ds = [x] ∧ shortW x = true ∧ R (.bool (isWeight x))
def t_is_weight (K : PySem.W.Frag) : TS :=
  (tSeq (tIfS (tOr (tTest (tOp rNT (tCB (rTyp K) (tCons (tVar 0) tNil)) (tC (.ty "tuple")))) (tTest (tOp (rNeU K) (tCB (rLenA K) (tCons (tVar 0) tNil)) (tC (.int 3)))))
    (tRet (tC (.bl false)))
    tNext)
    (tSeq (tAsg (tVar 0) (gTup K 3 (gNames [1, 2, 3])))
    (tSeq (tIfS (tOr (tNot (tB (tCall (spP K W_is_sign_count) [] E0 (tCons (tVar 1) tNil)))) (tOr (tNot (tB (tCall (spP K W_is_integer) [] E0 (tCons (tVar 2) tNil)))) (tOr (tTest (tOp rLtI (tVar 2) (tC (.int 1)))) (tNot (tB (tCall (spP K W_is_integer_list) [] E0 (tCons (tVar 3) tNil)))))))
    (tRet (tC (.bl false)))
    tNext)
    (tRet (tOp (rEqU K) (tCB (rLenA K) (tCons (tVar 3) tNil)) (tCall (spP K W_count_words) [] E0 (tCons (tVar 1) (tCons (tVar 2) (tCons (tC (.int 1024)) tNil)))))))))
def W_check_weight (ds : List PyData) (R : PyData → Prop) : Prop := ∃ (x : PyData), ds = [x] ∧ shortW x = true ∧ isWeight x = true ∧ R .none
def t_check_weight (K : PySem.W.Frag) : TS :=
  (tIfS (tNot (tB (tCall (spP K W_is_weight) [] E0 (tCons (tVar 0) tNil))))
    tNever
    tNext)
/-- a weight: signs, span, values -/
structure Wt (s : Int) (l : Nat) (vs : List Int) : Prop where
  s2 : 2 ≤ s
  s4 : s ≤ 4
  l1 : 1 ≤ l
  le : s ^ l ≤ 1024
  ln : s ^ l = (vs.length : Int)
abbrev wtD (s : Int) (l : Nat) (vs : List Int) : PyData := .tuple [.int s, .int l, LI vs]
theorem Wt.small {s : Int} {l : Nat} {vs : List Int} (h : Wt s l vs) : l ≤ 10 := by
  by_cases z : l ≤ 10
  · exact z
  · have h1 : s ^ 11 ≤ s ^ l := pow_mono (by have := h.s2; omega) (by omega)
    have h2 : (2 : Int) ^ 11 ≤ s ^ 11 := by
      have : ∀ n : Nat, (2 : Int) ^ n ≤ s ^ n := fun n => by
        induction n with
        | zero => simp
        | succ n ih =>
          rw [Int.pow_succ, Int.pow_succ]
          have a : (2 : Int) ^ n * 2 ≤ s ^ n * 2 := Int.mul_le_mul_of_nonneg_right ih (by decide)
          have b : s ^ n * 2 ≤ s ^ n * s := Int.mul_le_mul_of_nonneg_left h.s2 (Int.le_of_lt (pow_pos' (by have := h.s2; omega) n))
          omega
      exact this 11
    have := h.le
    have e : (2 : Int) ^ 11 = 2048 := by decide
    omega
theorem Wt.len {s : Int} {l : Nat} {vs : List Int} (h : Wt s l vs) : vs.length ≤ 1024 := by
  have := h.ln
  have := h.le
  omega
/-- a ring with s signs -/
structure Rg (s : Int) (r : List Int) : Prop where
  ne : r ≠ []
  le : r.length ≤ 512
  ok : Signs s r
def W_ring_sum (ds : List PyData) (R : PyData → Prop) : Prop := ∃ (s : Int) (l : Nat) (vs r : List Int), ds = [wtD s l vs, LI r] ∧ Wt s l vs ∧ r ≠ [] ∧ r.length ≤ 5000 ∧ Signs s r ∧ R (.int (ringSum s l vs r))
def t_ring_sum (K : PySem.W.Frag) : TS :=
  (tSeq (tAsg (tVar 0) (gTup K 3 (gNames [2, 3, 4])))
    (tRet (tCB (rSum K) (tCons (tLc (iList K (tCall (spP K W_numbers_round) [] E0 (tCons (tVar 2) (tCons (tVar 3) (tCons (tVar 1) (tCons (tC (.int 0)) tNil)))))) (gName 5) tYes (tOp (rIx K) (tVar 4) (tVar 5)) [5]) tNil))))
theorem atI_ok {vs : List Int} {z : Int} (h0 : 0 ≤ z) (h1 : z < vs.length) : atI (vs.map PyData.int) z = some (.int (vs.getD z.toNat 0)) := by
  obtain ⟨n, rfl⟩ := Int.eq_ofNat_of_zero_le h0
  refine atI_nat ?_
  have hn : n < vs.length := by omega
  rw [List.getElem?_map, List.getElem?_eq_getElem hn]
  simp [List.getD_eq_getElem?_getD, List.getElem?_eq_getElem hn]
def W_sum_of (ds : List PyData) (R : PyData → Prop) : Prop := ∃ (s : Int) (l : Nat) (vs r : List Int), ds = [wtD s l vs, LI r] ∧ Wt s l vs ∧ Rg s r ∧ R (.int (ringSum s l vs r))
def t_sum_of (K : PySem.W.Frag) : TS :=
  (tSeq (tDrop (tCall (spP K W_check_weight) [] E0 (tCons (tVar 0) tNil)))
    (tSeq (tDrop (tCall (spP K W_check_ring) [] E0 (tCons (tOp (rIx K) (tVar 0) (tC (.int 0))) (tCons (tVar 1) tNil))))
    (tRet (tCall (spP K W_ring_sum) [] E0 (tCons (tVar 0) (tCons (tVar 1) tNil))))))
end Cf
namespace Cf
open PySem PySem.Spec PyProof.Rows L2
open Evl (Ex)
abbrev KeepsT (W : List PyData → (PyData → Prop) → Prop) (n : Nat) (tb : PySem.W.Frag → TS) : Prop :=
  ∀ (K : PySem.W.Frag) (a : Addr) (ds : List PyData) (R : PyData → Prop), W ds R → ds.length + 1 ≤ n ∧ DS K (some a) (tb K) (Sl.tp :: ds.map Sl.sh ++ List.replicate (n - (ds.length + 1)) Sl.no) (fun _ => R .none) R NoR NoR
/-- a number below the bound -/
def W__law_draw (ds : List PyData) (R : PyData → Prop) : Prop := ∃ b : Int, ds = [.int b] ∧ 0 < b ∧ b < 2 ^ 8000 ∧ ∀ r : Int, 0 ≤ r → r < b → R (.int r)
def t__law_draw (K : PySem.W.Frag) : TS :=
  (tSeq (tIfS (tTest (tOp rGeI (tOp (rIx K) (tVar 0) (tC (.int 0))) (tOp rPowI (tC (.int 10)) (tC (.int 18)))))
    (tSeq (tAsg (tOp rModI (tCB rIntA (tCons (tOp (rIx K) (tVar 0) (tC (.int 0))) tNil)) (tVar 1)) (gName 2))
    (tSeq (tAsg (tOp rDivI (tOp (rIx K) (tVar 0) (tC (.int 0))) (tVar 1)) (gSub (tVar 0) (tC (.int 0)) rSetL))
    (tRet (tVar 2))))
    tNext)
    (tSeq (tAsg (tOp rModI (tCB rIntA (tCons (tOp (rPlus K) (tOp rTimes (tOp (rIx K) (tVar 0) (tC (.int 1))) (tC (.int 69069))) (tC (.int 40503))) tNil)) (tC (.int 4294967291))) (gSub (tVar 0) (tC (.int 1)) rSetL))
    (tSeq (tAsg (tOp rModI (tCB rIntA (tCons (tOp (rPlus K) (tOp rTimes (tOp (rIx K) (tVar 0) (tC (.int 2))) (tOp (rIx K) (tVar 0) (tC (.int 2)))) (tOp (rIx K) (tVar 0) (tC (.int 1)))) tNil)) (tC (.int 2147483587))) (gSub (tVar 0) (tC (.int 2)) rSetL))
    (tRet (tOp rModI (tCB rIntA (tCons (tOp (rPlus K) (tOp rDivI (tOp (rIx K) (tVar 0) (tC (.int 1))) (tC (.int 32))) (tOp rDivI (tOp (rIx K) (tVar 0) (tC (.int 2))) (tC (.int 16)))) tNil)) (tVar 1))))))
theorem tp_write {a : Addr} {F H : Hp} {x y z x' y' z' : Int} (e : Ex F H) (tp : TpOk (some a) F H) (h : H a = some (.lst [.int x, .int y, .int z])) (t2 : Tap x' y' z') :
    Gr (some a) F H F (upd H a (.lst [.int x', .int y', .int z'])) ∧ TpOk (some a) F (upd H a (.lst [.int x', .int y', .int z'])) := by
  obtain ⟨n, _⟩ := tp a rfl
  refine ⟨⟨Ex.refl F, fun b o nb q => ?_, fun b o q => ?_, fun b o q w => by rw [w] at q; cases q⟩, fun b hb => ?_⟩
  · rw [upd_ne (fun z => nb (by rw [z]))]
    exact q
  · rw [upd_ne (fun z => by rw [z, n] at q; cases q)]
    exact e b o q
  · cases hb
    exact ⟨n, x', y', z', upd_same, t2⟩
theorem div_nn {x b : Int} (hx : 0 ≤ x) (hb : 0 < b) : 0 ≤ x / b := Int.ediv_nonneg hx (by omega)
theorem wide_any {i j : Int} (h : 0 < j) (hb : j < 2 ^ 8000) : CDivW i j := wide_div h (b := 8000) (by
  have e : ((j.natAbs : Nat) : Int) = j := Int.natAbs_of_nonneg (by omega)
  have e2 : ((2 ^ 8000 : Nat) : Int) = (2 : Int) ^ 8000 := by rw [Int.natCast_pow]; rfl
  have : ((j.natAbs : Nat) : Int) < ((2 ^ 8000 : Nat) : Int) := by rw [e, e2]; exact hb
  exact Int.ofNat_lt.mp this) (by decide) (by decide)
theorem run_draw {K : PySem.W.Frag} {vs : List V} {H : Hp} {Q : VK} {E : XK} (h : spT K W__law_draw vs H Q E) : t__law_draw K { nx := fun _ H' => Q .non H', rt := Q } (L2.start ["tap", "bound", "found"] vs) H := by
  obtain ⟨a, ws, F, ds, R, rfl, e, tp, z, ⟨b, rfl, b0, b1, q⟩, k⟩ := h
  obtain ⟨v, rfl, zv⟩ := dqs1 z
  cases zv
  obtain ⟨n, x, y, w, hH, ht⟩ := tp a rfl
  have g : ∀ (i : Int) (u : V), atI [V.int x, .int y, .int w] i = some u → ∀ (Q : VK), Q u H → rIx K (.ref a) (.int i) H Q := fun i u hu Q q => .inl ⟨a, _, i, u, rfl, rfl, .inl (.inl hH), hu, q⟩
  unfold t__law_draw
  refine ⟨_, rfl, g 0 _ rfl _ ⟨10, 18, rfl, rfl, ⟨by decide, by decide, by decide⟩, x, _, rfl, rfl, _, rfl, ite2 (fun hx => ?_) fun hx => ?_⟩⟩
  · have hx : (10 : Int) ^ (18 : Int).toNat ≤ x := of_decide_eq_true hx
    refine ⟨_, rfl, g 0 _ rfl _ (.inl ⟨x, rfl, _, rfl, x, b, rfl, rfl, b0, ?_⟩)⟩
    refine ⟨_, rfl, g 0 _ rfl _ ⟨_, rfl, x, b, rfl, rfl, wide_any b0 b1, ?_⟩⟩
    refine ⟨_, rfl, a, _, 0, 0, rfl, rfl, hH, rfl, ?_⟩
    have t2 : Tap (x / b) y w := ⟨div_nn ht.x0 b0, ht.y0, ht.y1, ht.z0, ht.z1⟩
    obtain ⟨g2, tp2⟩ := tp_write e tp hH t2
    refine ⟨_, rfl, k _ _ F _ (q (x % b) (Int.emod_nonneg _ (by omega)) (Int.emod_lt_of_pos _ b0)) g2 tp2 (.int _)⟩
  · refine ⟨_, rfl, g 1 _ rfl _ (.inl ⟨y, 69069, rfl, rfl, .inr ⟨by decide, by decide⟩, .inl ⟨_, _, rfl, rfl, .inl ⟨_, rfl, _, _, rfl, rfl, (by show (0 : Int) < 4294967291; decide), ?_⟩⟩⟩)⟩
    dsimp only
    generalize hy : (y * 69069 + 40503) % 4294967291 = y'
    have y0 : 0 ≤ y' := by omega
    have y1 : y' < 2 ^ 40 := by omega
    refine ⟨_, rfl, a, _, 1, 1, rfl, rfl, hH, rfl, ?_⟩
    have hH2 : (upd H a (.lst ([V.int x, .int y, .int w].set 1 (.int y')))) a = some (.lst [.int x, .int y', .int w]) := upd_same
    have g' : ∀ (i : Int) (u : V), atI [V.int x, .int y', .int w] i = some u → ∀ (Q : VK), Q u (upd H a (.lst ([V.int x, .int y, .int w].set 1 (.int y')))) → rIx K (.ref a) (.int i) (upd H a (.lst ([V.int x, .int y, .int w].set 1 (.int y')))) Q := fun i u hu Q q => .inl ⟨a, _, i, u, rfl, rfl, .inl (.inl hH2), hu, q⟩
    have w1 := ht.z1
    have w0 := ht.z0
    refine ⟨_, rfl, g' 2 _ rfl _ ⟨_, rfl, g' 2 _ rfl _ (.inl ⟨w, w, rfl, rfl, .inl ⟨by omega, by omega⟩, ?_⟩)⟩⟩
    refine ⟨_, rfl, g' 1 _ rfl _ (.inl ⟨_, _, rfl, rfl, .inl ⟨_, rfl, _, _, rfl, rfl, (by show (0 : Int) < 2147483587; decide), ?_⟩⟩)⟩
    dsimp only
    generalize hz : (w * w + y') % 2147483587 = w'
    have z0 : 0 ≤ w' := by omega
    have z1 : w' < 2 ^ 40 := by omega
    refine ⟨_, rfl, a, _, 2, 2, rfl, rfl, hH2, rfl, ?_⟩
    rw [upd_upd]
    have hH3 : (upd H a (.lst ([V.int x, .int y', .int w].set 2 (.int w')))) a = some (.lst [.int x, .int y', .int w']) := upd_same
    have g3 : ∀ (i : Int) (u : V), atI [V.int x, .int y', .int w'] i = some u → ∀ (Q : VK), Q u (upd H a (.lst ([V.int x, .int y', .int w].set 2 (.int w')))) → rIx K (.ref a) (.int i) (upd H a (.lst ([V.int x, .int y', .int w].set 2 (.int w')))) Q := fun i u hu Q q => .inl ⟨a, _, i, u, rfl, rfl, .inl (.inl hH3), hu, q⟩
    refine ⟨_, rfl, g3 1 _ rfl _ ⟨_, _, rfl, rfl, wide_div (b := 8) (by decide) (by decide) (by decide) (by decide), ?_⟩⟩
    refine ⟨_, rfl, g3 2 _ rfl _ ⟨_, _, rfl, rfl, wide_div (b := 8) (by decide) (by decide) (by decide) (by decide), ?_⟩⟩
    refine .inl ⟨_, _, rfl, rfl, .inl ⟨_, rfl, _, rfl, _, b, rfl, rfl, b0, ?_⟩⟩
    have t2 : Tap x y' w' := ⟨ht.x0, y0, y1, z0, z1⟩
    obtain ⟨g2, tp2⟩ := tp_write e tp hH t2
    exact k _ _ F _ (q _ (Int.emod_nonneg _ (by omega)) (Int.emod_lt_of_pos _ b0)) g2 tp2 (.int _)
end Cf
namespace Cf
open PySem PySem.Spec PyProof.Rows L2
open Evl (Ex)
section
variable {K : PySem.W.Frag} {t : Option Addr} {ρ : Rho} {i : Nat} {te : TE}
/-- the promise of a def that makes a new list of its own -/
def spF (K : PySem.W.Frag) (W : List PyData → (List PyData → Prop) → Prop) : Sp := fun vs H Q _ => ∃ F ds R, Ex F H ∧ Dqs K F ds vs ∧ W ds R ∧
  ∀ es p xs F' H', R es → Gr none F H F' H' → H p = none → F' p = none → H' p = some (.lst xs) → Dqs K F' es xs → Q (.ref p) H'
theorem DL_callF {W : List PyData → (List PyData → Prop) → Prop} {E : XK} {tr : TA} {Q : List PyData → Prop} (h : DA K t tr ρ fun ds => W ds Q) : DL K t (tCall (spF K W) [] E tr) ρ Q := fun F0 H0 F H σ A QK k =>
  h F0 H0 F H σ A _ fun ds vs F1 H1 hq e1 z => ⟨F1, ds, Q, e1.g.fh, by rw [List.append_nil]; exact z, hq, fun es p xs F' H' q g n1 n2 n3 zd => k es p xs F' H' q (e1.trans ((A.step e1).stp g)) (e1.back n1) n2 n3 zd⟩
def DSF (K : PySem.W.Frag) (ts : TS) (ρ : Rho) (R : List PyData → Prop) : Prop := ∀ (F0 H0 F H : Hp) (σ : L2.St) (D : Ends), At K none F0 H0 F H σ ρ →
  (∀ es p xs F' H', R es → Gr none F H F' H' → H p = none → F' p = none → H' p = some (.lst xs) → Dqs K F' es xs → D.rt (.ref p) H') → ts D σ H
theorem DSF_ret {R : List PyData → Prop} (h : DL K none te ρ R) : DSF K (tRet te) ρ R := fun F0 H0 F H σ D A k => h F0 H0 F H σ A _ fun es p xs F' H' q e n n1 n2 z => k es p xs F' H' q e.g n n1 n2 z
theorem DSF_set {t2 : TS} {R : List PyData → Prop} (h : DE K none te ρ fun d => DSF K t2 (ρ.set i (.sh d)) R) : DSF K (tSeq (tAsg te (gName i)) t2) ρ R := fun F0 H0 F H σ D A k =>
  h F0 H0 F H σ A _ fun d v F1 H1 q e z => q F0 H0 F1 H1 _ D ((A.step e).set (s := .sh d) ⟨v, rfl, z⟩ fun _ e => by cases e) fun es p xs F' H' q g n n1 n2 z =>
    k es p xs F' H' q (e.g.trans g fun a z => by cases z) (e.back n) n1 n2 z
theorem run_F {W : List PyData → (List PyData → Prop) → Prop} {N : List Str} {vs : List V} {H : Hp} {Q : VK} {E : XK} {ts : TS} (h : spF K W vs H Q E)
    (b : ∀ ds R, W ds R → ds.length ≤ N.length ∧ DSF K ts (ds.map Sl.sh ++ List.replicate (N.length - ds.length) Sl.no) R) : ts { nx := fun _ H' => Q .non H', rt := Q } (L2.start N vs) H := by
  obtain ⟨F, ds, R, e, z, hW, k⟩ := h
  obtain ⟨hl, b⟩ := b ds R hW
  have A : At K none F H F H (L2.start N vs) (ds.map Sl.sh ++ List.replicate (N.length - ds.length) Sl.no) := by
    refine ⟨Gr.refl e, ?_, fun i o s h1 h2 => ?_, fun i j p es fs n h1 => ?_, fun a q => by cases q⟩
    · unfold L2.start
      simp [z.len]
    · unfold L2.start at h1
      by_cases hi : i < ds.length
      · rw [List.getElem?_append_left (by simpa [z.len] using hi), List.getElem?_map] at h1
        rw [List.getElem?_append_left (by simpa using hi), List.getElem?_map] at h2
        rw [List.getElem?_eq_getElem hi] at h2
        cases h2
        obtain ⟨v, hv, zd⟩ := z.at (i := i) (List.getElem?_eq_getElem hi)
        rw [hv] at h1
        cases h1
        exact ⟨v, rfl, zd⟩
      · rw [List.getElem?_append_right (by simpa using hi)] at h2
        have := List.mem_of_getElem? h2
        have := (List.mem_replicate.mp this).2
        subst this
        trivial
    · have := List.mem_of_getElem? h1
      rcases List.mem_append.mp this with m | m
      · obtain ⟨d, _, m⟩ := List.mem_map.mp m
        cases m
      · have := (List.mem_replicate.mp m).2
        cases this
  exact b F H F H _ _ A fun es p xs F' H' q g n n1 n2 z => k es p xs F' H' q g n n1 n2 z
theorem DC_list {xs : List PyData} {Q : PyData → Prop} (h : ∃ ds, (xs = [.list ds] ∨ xs = [.tuple ds]) ∧ Q (.list ds)) : DC K (rListA K) xs Q := fun vs F H e z QK k => by
  obtain ⟨ds, h, q⟩ := h
  refine DCL_list (Q := fun ds => Q (.list ds)) ⟨ds, h, q⟩ vs F H e z QK fun es p ys F' H' q g n n1 n2 z => ?_
  have e1 : Ex F' (upd F' p (.lst ys)) := Ex.new n1
  refine k _ _ (upd F' p (.lst ys)) H' q ⟨g.ff.trans e1, g.hh, fun a o w => ?_, fun a o w u => ?_⟩ (.lst (.inl (.inl upd_same)) (z.up e1))
  · by_cases y : a = p
    · subst y
      rw [upd_same] at w
      cases w
      exact n2
    · rw [upd_ne y] at w
      exact g.fh a o w
  · by_cases y : a = p
    · rw [y]
      exact n
    · rw [upd_ne y] at w
      exact g.nw a o w u
theorem DR_catL {x y : PyData} {Q : PyData → Prop} (h : ∃ ds es, x = .list ds ∧ y = .list es ∧ ds.length + es.length ≤ 100000 ∧ Q (.list (ds ++ es))) : DR K (rPlus K) x y Q := fun v w F H e q1 q2 QK k => by
  refine DRL_cat (Q := fun ds => Q (.list ds)) h v w F H e q1 q2 QK fun es p ys F' H' q g n n1 n2 z => ?_
  have e1 : Ex F' (upd F' p (.lst ys)) := Ex.new n1
  refine k _ _ (upd F' p (.lst ys)) H' q ⟨g.ff.trans e1, g.hh, fun a o w => ?_, fun a o w u => ?_⟩ (.lst (.inl (.inl upd_same)) (z.up e1))
  · by_cases y : a = p
    · subst y
      rw [upd_same] at w
      cases w
      exact n2
    · rw [upd_ne y] at w
      exact g.fh a o w
  · by_cases y : a = p
    · rw [y]
      exact n
    · rw [upd_ne y] at w
      exact g.nw a o w u
end
end Cf
/-! a result whose last item is a list of its own, changed later; what was there before stays -/
namespace Cf
open PySem PySem.Spec PyProof.Rows L2
open Evl (Ex)
section
variable {K : PySem.W.Frag} {t : Option Addr} {ρ : Rho} {i : Nat} {d : PyData} {te : TE} {tr : TA} {t1 t2 : TS} {N B C : Rho → Prop} {R Q : PyData → Prop}
theorem DR_notB {x y : PyData} (h : ∃ a b, x = .bool a ∧ y = .bool b ∧ Q (.bool (!decide (a = b)))) : DR K rNotB x y Q := fun v w F H e q1 q2 QK k => by
  obtain ⟨a, b, rfl, rfl, q⟩ := h
  cases q1
  cases q2
  exact ⟨a, b, rfl, rfl, k _ _ F H q (Gr.refl e) (.bl _)⟩
theorem DE_varO (h : ρ[i]? = some (.od d)) (q : Q d) : DE K t (tVar i) ρ Q := fun F0 H0 F H σ A QK k => by
  obtain ⟨o, e, v, rfl, z⟩ := A.slot h
  exact ⟨v, e, k d v F H q A.rfl (z.up A.gr.ff)⟩
theorem DE_varN (h : ρ[i]? = some (.nw d)) (q : Q d) : DE K t (tVar i) ρ Q := fun F0 H0 F H σ A QK k => by
  obtain ⟨o, e, v, rfl, z, _⟩ := A.slot h
  exact ⟨v, e, k d v F H q A.rfl z⟩
def Sl.old : Sl → Sl
  | .sh d => .od d
  | .nw d => .od d
  | .ow _ => .no
  | .dk _ _ => .no
  | .dt _ _ => .no
  | s => s
def Sl.keep : Sl → Sl
  | .od d => .od d
  | .tp => .tp
  | .vl v => .vl v
  | _ => .no
theorem map_slot {f : Sl → Sl} {s : Sl} (h : (ρ.map f)[i]? = some s) : ∃ s', ρ[i]? = some s' ∧ s = f s' := by
  rw [List.getElem?_map] at h
  cases e : ρ[i]? with
  | none => rw [e] at h; cases h
  | some s' =>
    rw [e] at h
    exact ⟨s', rfl, (Option.some.inj h).symm⟩
theorem base_none {F0 H0 F H : Hp} {σ : L2.St} (A : At K t F0 H0 F H σ ρ) {p : Addr} (n : F p = none) : F0 p = none := none_back (fun o q => A.gr.ff p o q) n
/-- the promise of a def that makes data with a list of its own -/
def spN (K : PySem.W.Frag) (W : List PyData → (PyData → Prop) → Prop) : Sp := fun vs H Q _ => ∃ F ds R, Ex F H ∧ Dqs K F ds vs ∧ W ds R ∧ ∀ d v F' H', R d → Gr none F H F' H' → Dq K F' d v → Nw F H F' d v → Q v H'
theorem DE_callN {W : List PyData → (PyData → Prop) → Prop} {E : XK} (h : DA K t tr ρ fun ds => W ds Q) : DE K t (tCall (spN K W) [] E tr) ρ Q := fun F0 H0 F H σ A QK k =>
  h F0 H0 F H σ A _ fun ds vs F1 H1 hq e1 z => ⟨F1, ds, Q, e1.g.fh, by rw [List.append_nil]; exact z, hq, fun d v F' H' q g zd _ => k d v F' H' q (e1.trans ((A.step e1).stp g)) zd⟩
/-! ### a def that makes such a result -/
def DSN (K : PySem.W.Frag) (ts : TS) (ρ : Rho) (R : PyData → Prop) : Prop := ∀ (F0 H0 F H : Hp) (σ : L2.St) (D : Ends), At K none F0 H0 F H σ ρ →
  (∀ d v F' H', R d → Gr none F0 H0 F' H' → Dq K F' d v → Nw F0 H0 F' d v → D.rt v H') → ts D σ H
def DAN (K : PySem.W.Frag) (t : Option Addr) (ta : TA) (ρ : Rho) (Q : List PyData → Prop) : Prop :=
  ∀ (F0 H0 F H : Hp) (σ : L2.St), At K t F0 H0 F H σ ρ → ∀ QK : List V → Hp → Prop,
    (∀ ds vs p xs F' H', Q ds → Stp t F H F' H' → Dqs K F' ds (vs ++ [.ref p]) → F' p = some (.lst xs) → H0 p = none → F0 p = none → xs.length < 100000 → QK (vs ++ [.ref p]) H') → ta σ H QK
end
end Cf
/-! an error that a clause catches and a name keeps -/
namespace Cf
open PySem PySem.Spec PyProof.Rows L2
open Evl (Ex)
/-- the object of a caught error without fields of its own -/
def ExcH (cls : Value) (a : Addr) : HO := .ext fun h => ∃ oe vs, h.get? a = some oe ∧ Zc cls none oe ∧ oe.data = .fields vs
/-- what 'except x as n' wishes where the suite keeps the error -/
def wKeep (K : PySem.W.Frag) (c : Value) (i : Nat) (ts : Addr → Value → Option Addr → TS) (Wo : WX) (D : Ends) : WX := fun cls d σ H =>
  ∃ b, PySem.W.exmOne K cls c = some b ∧ (b = true → d = none ∧ ∀ a, H a = none → ts a cls d { nx := fun σ' H' => H' a = none → D.nx (σ'.set i none) (upd H' a (ExcH cls a)), rt := fun _ _ => False } (σ.set i (some (.ref a))) H) ∧ (b = false → Wo cls d σ H)
section
variable {X : Cx} {x n : Str} {c : Value} {i : Nat} {body suite : List Stmt} {b0 : Stmt} {np pos pos' : Pos} {tb : WX → TS} {ts : Addr → Value → Option Addr → TS} {Wo : WX}
end
/-- isinstance(e, T), e a kept error -/
def rIsX (K : PySem.W.Frag) : List V → Hp → VK → Prop := fun xs H Q => ∃ (a D : Addr) (c : V) (cv : Value) (b : Bool), xs = [.ref a, c] ∧ H a = some (ExcH (.ref D) a) ∧ ExcC K D ∧ (∀ u, RelV c u → u = cv) ∧ PySem.W.kitOne K (.ref D) cv = some b ∧ Q (.bl b) H
end Cf
/-! own errors whose making says super().__init__(f'..{x}'); self.x = x -/
namespace Cf
open PySem PySem.Spec PyProof.Rows L2
open PySem.W (ksEnv ksFn ks_superIn kxs_mw)

abbrev oiA (x : Str) (p1 p2 : Pos) : Arguments where
  posonlyargs := []
  args := [⟨"self", none, p1⟩, ⟨x, none, p2⟩]
  vararg := none
  kwonlyargs := []
  kw_defaults := []
  kwarg := none
  defaults := []
abbrev oiC (m x : Str) (q1 q2 q3 q4 q5 q6 q7 q8 : Pos) : Expr := .Call (.Attribute (.Call (.Name "super" q1) [] [] q2) "__init__" q3) [.JoinedStr [.Constant (.str m) 0 q4, .FormattedValue (.Name x q5) (-1) none q6] q7] [] q8
abbrev oiB (m x : Str) (q1 q2 q3 q4 q5 q6 q7 q8 q9 r1 r2 r3 r4 : Pos) : List Stmt := [.Expr (oiC m x q1 q2 q3 q4 q5 q6 q7 q8) q9, .Assign [.Attribute (.Name "self" r1) x r2] (.Name x r3) r4]
abbrev oiS (x : Str) : Scope where
  kind := .function
  names := [(Str.ofString "self", .local), (x, .local), (Str.ofString "__class__", .free), (Str.ofString "super", .globalImplicit)]
  isGenerator := false
  isCoroutine := false
  more := []
/-- the field's name is a plain one -/
structure OiX (x : Str) : Prop where
  kx : (oiS x).names.lookup x = some .local
  ks : (oiS x).names.lookup ("self" : Str) = some .local
  kc : (oiS x).names.lookup ("__class__" : Str) = some .free
  ku : (oiS x).names.lookup ("super" : Str) = some .globalImplicit
  ne : (("self" : Str) == x) = false
  db : (x == ("__debug__" : Str)) = false
  cd : (x == ("__classdict__" : Str)) = false
  bd : ∀ (qual : Str) (body : List Stmt) (doc pm : Value) (an : Option Addr) (cd ct : Value) (cc : Addr) (p1 p2 : Pos) (u1 u2 : Value), bindArgs (ksFn "__init__" qual (oiA x p1 p2) body (oiS x) .none .none doc pm an cd ct cc) ⟨[u1, u2], []⟩ = pure [(("self" : Str), u1), (x, u2)]
theorem oi_he (o : Expr) (vs : List Expr) (q7 : Pos) (name : Str) (q3 q8 : Pos) (env : Env) (h : (q3.endLine == q8.line) = true) : eval (.Call (.Attribute o name q3) [.JoinedStr vs q7] [] q8) env = (do
      let ov ← attributeBase o name env (eval o env)
      standAt q3.atName
      let (f, first) ← holding [ov] (getMethod ov name (do return (← importBound o env).getD true))
      callWith q8 f first (backTo q8 (starEach [.JoinedStr vs q7] env)) []) := by
  rw [arm_eval_Call]
  unfold methodCall methodCallPos
  simp only [h, Bool.or_true, if_true, pure_bind]
  rfl
/-- what the written part says of the class nm at C, of its __init__ at fI -/
structure OiT (P : Program) (K : PySem.W.Frag) (mg : Str → Option Value) (C fI cc cda : Addr) (nm m x qual : Str) : Prop where
  gC : mg nm = some (.ref C)
  ox : OexC K C
  iC : PySem.W.findIn K (.ref C) "__init__" = some (some (.ref fI))
  tI : PySem.W.typeIn K (.ref fI) = some (.type "function")
  noX : PySem.W.findIn K (.ref C) x = some none
  fn : ∃ (oc : Value) (od : Option Addr) (doc pm : Value) (an : Option Addr) (ct : Value) (osl : Array (Option Value)) (p1 p2 q1 q2 q3 q4 q5 q6 q7 q8 q9 r1 r2 r3 r4 : Pos),
    K.lookup fI = some ⟨oc, od, .func (ksFn "__init__" qual (oiA x p1 p2) (oiB m x q1 q2 q3 q4 q5 q6 q7 q8 q9 r1 r2 r3 r4) (oiS x) .none .none doc pm an (.ref cda) ct cc), osl⟩ ∧ (q3.endLine == q8.line) = true
  cd : PySem.W.codeIn K (.ref cda) qual = true
  co : ∃ (ccl : Value) (cdd : Option Addr) (vs : Array Value) (file : Str) (tf : Tok) (ccs : Array (Option Value)), K.lookup cda = some ⟨ccl, cdd, .fields vs, ccs⟩ ∧ vs[2]? = some (.str file tf) ∧ ((P.main.file : Str) == file) = true
  ce : ∃ (cl : Value) (cld : Option Addr) (csl : Array (Option Value)), K.lookup cc = some ⟨cl, cld, .cell (some (.ref C)), csl⟩
  su : ks_superIn K C C "__init__" = some (some (.builtin "ValueError.__init__"))
  sb : PySem.W.subIn K (.ref C) (.type "ValueError") = some true
  mr : PySem.W.mroIn K C (.ref C) = some true
  op : PySem.W.nsIn K PySem.cStatics "thirdparty.any" = some none
  no : mg "super" = none
  top : (P.main.scope.names.lookup ("super" : Str)).isSome = false
theorem oi_emp (m : Str) : (Str.empty ++ m : Str) = m := by
  obtain ⟨c⟩ := m
  show (⟨#[] ++ c⟩ : Str) = ⟨c⟩
  rw [Array.empty_append]
theorem oi_len (m y : Str) : m.length ≤ (m ++ y).length := by
  obtain ⟨c⟩ := m
  obtain ⟨e⟩ := y
  show c.size ≤ (c ++ e).size
  rw [Array.size_append]
  exact Nat.le_add_right ..
/-- {x}: a text, an int or None -/
def tFmtN (te : TE) : TE := fun σ H Q => te σ H fun x H1 => (∃ y : Str, x = .str y ∧ y.length ≤ sizeLine ∧ Q (.str y) H1) ∨ (∃ i : Int, x = .int i ∧ i.natAbs.log2 < 1920 ∧ Q (.str (toString i)) H1) ∨ (x = .non ∧ Q (.str "None") H1)
theorem pe_fmtN {X : Cx} {e : Expr} {te : TE} {pos : Pos} (he : PE X e te) : PE X (.FormattedValue e (-1) none pos) (tFmtN te) := by
  refine ⟨fun pins s σ H Q I h => wpAny_FormattedValue_plain (thn (he.run pins s σ H _ I h) fun u s1 hv => ?_)⟩
  obtain ⟨x, H1, I1, r1, q⟩ := hv
  rcases q with ⟨y, rfl, hz, q⟩ | ⟨i, rfl, hz, q⟩ | ⟨rfl, q⟩
  · obtain ⟨tk, rfl⟩ := r1
    exact wpAny_formatField_str ⟨.str y, H1, I1, ⟨tk, rfl⟩, q⟩ ⟨.str y, H1, I1.tok _, ⟨_, rfl⟩, q⟩ hz
  · obtain ⟨tk, rfl⟩ := r1
    exact wpAny_formatField_int hz ⟨.str (toString i), H1, I1.tok _, ⟨_, rfl⟩, q⟩
  · obtain rfl : u = Value.none := r1
    exact wpAny_formatField_none ⟨.str "None", H1, I1.tok _, ⟨_, rfl⟩, q⟩
/-- what can be shown in the error's text -/
def OiV (m : Str) (v : V) : Prop := (∃ y : Str, v = .str y ∧ (m ++ y).length ≤ sizeLine ∧ y.length ≤ sizeLine) ∨ (∃ i : Int, v = .int i ∧ i.natAbs.log2 < 1920 ∧ (m ++ (toString i : Str)).length ≤ sizeLine) ∨ (v = .non ∧ (m ++ ("None" : Str)).length ≤ sizeLine)
/-- __init__ over an error that is being made -/
def spOi (m x : Str) (C : Addr) : Sp := fun vs H Q _ => ∃ (a : Addr) (v : V), vs = [.ref a, v] ∧ OiV m v ∧ H a = some (exo a C none) ∧ ∀ dx, H dx = none → dx ≠ a → Q .non (upd (upd H dx (exd dx [(x, v)])) a (exo a C (some dx)))

section
variable {prog : Program} {w : World} {A : Around} {E : Value → Shared → Prop} {h : Heap} {g : Array GenState} {d : Drawn} {t : Nat} {os : OsState}
variable {nm q : Str} {C N : Addr} {bs bm : List Value} {hdct : Bool} {sn : List Str} {sub : List Value} {ab : Bool} {col : Option Bool} {dd : Option Addr} {k0 k1 k2 k3 k5 : Option Value}
/-- the bound ValueError.__init__ called -/
theorem oi_mw {u a t0 : Addr} {rest : List Value} {Q : Value → Shared → Prop} (hC : h.get? C = some (excClassObj nm q C N bs bm hdct sn sub ab col dd k0 k1 k2 k3 k5 "ValueError.__new__"))
    (hu : h.get? u = some (kxs_mw "ValueError.__init__" a)) (ha : h.get? a = some (PySem.W.excObj C t0 none .none)) (hz : rest.length ≤ sizeLine)
    (k : ∀ h' t1, (∀ b o, b ≠ a → h.get? b = some o → h'.get? b = some o) → h'.get? a = some (PySem.W.excObj C t1 none .none) → Q .none ⟨h', g, d, t, os⟩) : wpAny (model prog w) A (call (.ref u) rest) Q E ⟨h, g, d, t, os⟩ := by
  have e1 : (Value.type "method-wrapper" == Value.type "method" || Value.type "method-wrapper" == Value.type "builtin_function_or_method" || Value.type "method-wrapper" == Value.type "method-wrapper") = true := by decide
  refine wpAny_call (codeAny_of_tree ?_)
  show wpAny _ A.in1 (callAny (.ref u) _) _ _ _
  simp only [callAny]
  refine wpAny_bind (wpAny_load hu ?_)
  simp only [kxs_mw, e1, if_true]
  refine PySem.W.KFB.if_so (by decide) (wpAny_bind (PySem.W.check_bound_init F.excBase_ValueError.toExcCallFacts hC ha rfl (wpAny_bind (wpAny_pure (wpAny_pure ⟨plainId_quiet F.excBase_ValueError.init.plain _, codeAny_builtin F.excBase_ValueError.initEntry ?_⟩)))))
  exact PySem.W.exc_init_tree (cls := .ref C) (t0 := t0) (dv := none) (c2 := .none) (c3 := .none) (b4 := .bool false) ha hz fun h' kk e' _ => k h' _ kk e'
end
/-- the context of the body -/
def oiCx (CX : CXT) (P : Program) (w : World) (K : PySem.W.Frag) (mg : Str → Option Value) (base : Heap) (x qual : Str) (fI cc cda : Addr) (A : Around) (outer : List Env) (s : Shared) (H : Hp) (E : XK) : Cx where
  prog := P
  w := w
  K := K
  mg := mg
  base := base
  A := A.deeper (ksEnv qual (oiS x) s.heap.objs.size fI (.ref cda) cc)
  N := ["self", x]
  s_0 := s
  H_0 := H
  env := ksEnv qual (oiS x) s.heap.objs.size fI (.ref cda) cc
  outer := outer
  stack := ksEnv qual (oiS x) s.heap.objs.size fI (.ref cda) cc :: outer
  ex := []
  fn := fun _ => false
  calm := true
  pn := []
  xe := fun e s' => wpAny (model P w) (A.deeper (ksEnv qual (oiS x) s.heap.objs.size fI (.ref cda) cc)) (leaving (ksEnv qual (oiS x) s.heap.objs.size fI (.ref cda) cc) e) (fun _ s'' => CX outer H s E e s'') (fun e' s'' => CX outer H s E e' s'') s'
theorem oi_names {x y : Str} {k : NameKind} (h : (oiS x).names.lookup y = some k) : (y = "self" ∧ k = .local) ∨ (y = x ∧ k = .local) ∨ (y = "__class__" ∧ k = .free) ∨ (y = "super" ∧ k = .globalImplicit) := by
  have hm := PySem.mem_of_lookup h
  simp only [oiS, List.mem_cons, List.not_mem_nil, or_false, Prod.mk.injEq] at hm
  rcases hm with ⟨a, b⟩ | ⟨a, b⟩ | ⟨a, b⟩ | ⟨a, b⟩
  · exact .inl ⟨a, b⟩
  · exact .inr (.inl ⟨a, b⟩)
  · exact .inr (.inr (.inl ⟨a, b⟩))
  · exact .inr (.inr (.inr ⟨a, b⟩))
theorem oi_cell {y : Str} {cc c : Addr} (h : List.lookup y [(("__class__" : Str), cc)] = some c) : y = "__class__" ∧ c = cc := by
  rcases List.mem_singleton.mp (PySem.mem_of_lookup h) with e
  cases e
  exact ⟨rfl, rfl⟩
section
variable {CX : CXT} {P : Program} {w : World} {K : PySem.W.Frag} {mg : Str → Option Value} {base : Heap} {x qual : Str} {C fI cc cda : Addr} {A : Around} {outer : List Env} {s : Shared} {H : Hp} {E : XK} {a : Addr} {v : V} {u : Value} {h₁ : Heap} {tk : Nat}
theorem oi_start (hx : OiX x) (hc : ∃ (cl : Value) (cld : Option Addr) (csl : Array (Option Value)), K.lookup cc = some ⟨cl, cld, .cell (some (.ref C)), csl⟩) (hd : A.handled = none) (e0 : Env0 P w K mg base A outer s H) (r : RelV v u)
    (hns : h₁.Ns s.heap.objs.size fun y => ([(x, u), (("self" : Str), Value.ref a)] : List (Str × Value)).lookup y) (kp : ∀ b o, s.heap.get? b = some o → h₁.get? b = some o) :
    Inv (oiCx CX P w K mg base x qual fI cc cda A outer s H E) [] [some (.ref a), some v] H { s with heap := h₁, toks := tk } := by
  have noA : ∀ b : Addr, b ∉ (oiCx CX P w K mg base x qual fI cc cda A outer s H E).ex := fun b z => absurd (show b ∈ ([] : List Addr) from z) (by simp)
  obtain ⟨cl, cld, csl, lk⟩ := hc
  have bcc := e0.mod.kin _ _ lk
  have hcc := e0.bs _ _ bcc
  refine ⟨⟨e0.mod, rfl, rfl, rfl, Nat.le_refl _, fun y z c h1 h2 => ?_, fun y hy => ?_, fun y c z _ => ?_, fun _ => hd, Around.frames_deeper e0.frames, .inr ⟨rfl, rfl⟩, fun b z => absurd z (noA b), e0.bs, e0.bsz, fun b _ _ => noA b, fun b z => absurd z (noA b), e0.funs, e0.frf⟩,
    rfl, e0.bare, Un.kept kp, ⟨_, hns, fun i y v' h1 h2 h3 => ?_⟩, fun y c h => ?_, e0.hok.fresh (Nat.le_refl _), fun y c h => ?_, fun p hp => absurd (show p ∈ ([] : List (Addr × Obj)) from hp) (by simp), e0.hok.kept kp, rfl⟩
  · rw [(oi_cell h1).1, (oi_cell h2).1]
  · have hy : (oiS x).names.lookup y = some .cell ∨ (oiS x).names.lookup y = some .free := hy
    rcases hy with q | q
    · rcases oi_names q with ⟨_, z⟩ | ⟨_, z⟩ | ⟨_, z⟩ | ⟨_, z⟩ <;> cases z
    · rcases oi_names q with ⟨_, z⟩ | ⟨_, z⟩ | ⟨z, _⟩ | ⟨_, z⟩
      · cases z
      · cases z
      · exact ⟨cc, by rw [z]; rfl⟩
      · cases z
  · exact absurd (show false = true from z) (by decide)
  · have hN : ([("self" : Str), x])[i]? = some y := h1
    have hne : (("self" : Str) == x) = false := hx.ne
    match i, hN, h2 with
    | 0, hN, h2 =>
      cases hN
      cases h2
      refine ⟨.ref a, rfl, .inl ⟨hx.ks, ?_⟩⟩
      show List.lookup _ [(x, u), (("self" : Str), Value.ref a)] = _
      simp only [List.lookup, hne]
      rfl
    | 1, hN, h2 =>
      cases hN
      cases h2
      refine ⟨u, r, .inl ⟨hx.kx, ?_⟩⟩
      simp [List.lookup]
    | n + 2, hN, _ => simp at hN
  · obtain ⟨_, rfl⟩ := oi_cell (show List.lookup y [(("__class__" : Str), cc)] = some c from h)
    exact ⟨_, ⟨_, kp _ _ hcc.1, rfl⟩⟩
  · obtain ⟨_, rfl⟩ := oi_cell (show List.lookup y [(("__class__" : Str), cc)] = some c from h)
    exact hcc.2
/-- the def __init__ of such a class -/
theorem oi_ok {nm m : Str} (hx : OiX x) (T : OiT P K mg C fI cc cda nm m x qual) :
    ∃ fd : FuncData, FnOk P w K mg base CX 1 fI fd ["self", x] (spOi m x C) ∧ Binds K fd ["self", x] [] := by
  obtain ⟨oc, od, doc, pm, an, ct, osl, p1, p2, q1, q2, q3, q4, q5, q6, q7, q8, q9, r1, r2, r3, r4, lk, hpos⟩ := T.fn
  have hB : Binds K (ksFn "__init__" qual (oiA x p1 p2) (oiB m x q1 q2 q3 q4 q5 q6 q7 q8 q9 r1 r2 r3 r4) (oiS x) .none .none doc pm an (.ref cda) ct cc) ["self", x] [] := Binds.all fun us hl => by
    match us, hl with
    | [u1, u2], _ => exact hx.bd _ _ _ _ _ _ _ _ _ _ _ _
  refine ⟨_, ⟨fun vs H Q E hs => ?_, fun A outer s H args us vs Q E hr e0 hb r hsp => ?_⟩, hB⟩
  · obtain ⟨a, v, rfl, _⟩ := hs
    rfl
  obtain ⟨a, v, rfl, hv, ha, hq⟩ := hsp
  obtain ⟨u0, u, rfl, r0, rv⟩ := vals2 r
  obtain rfl : u0 = Value.ref a := r0
  have KX : K.In s.heap := e0.mod.kin.keeps fun b o e => (e0.bs b o e).1
  have lim : s.heap.NoLimit := e0.mod.nolimit.keeps fun b o e => (e0.bs b o e).1
  obtain ⟨ccl, cdd, vs, file, tf, ccs, lc, hvs, hfile⟩ := T.co
  obtain ⟨cl, cld, csl, lcc⟩ := T.ce
  obtain ⟨nmC, qC, NC, bs, bm, sn, sub, ab, col, dd, k0, k1, k2, k3, k5, hC, hbm⟩ := T.ox.cls
  have hcl : PySem.W.clsIn K C = some { name := nmC, bases := bs, mro := .ref C :: bm, ns := NC, qualname := qC, hasDict := true, slotNames := sn, subclasses := sub, abstract := ab, collection := col, hasDel := false } := by
    unfold PySem.W.clsIn
    rw [hC] <;> rfl
  refine PySem.ks_codeAny_call_defAt (fd := ksFn "__init__" qual (oiA x p1 p2) (oiB m x q1 q2 q3 q4 q5 q6 q7 q8 q9 r1 r2 r3 r4) (oiS x) .none .none doc pm an (.ref cda) ct cc) (body := oiB m x q1 q2 q3 q4 q5 q6 q7 q8 q9 r1 r2 r3 r4)
    (binds := [("self", .ref a), (x, u)]) (by have := hr.dp; omega) (KX _ _ lk) rfl lim (PySem.W.codeRec_of KX T.cd) rfl hb (fun y hy => ?_) (fun y hy => ?_) (fun h₁ hns kp => ?_)
  · simp only [oiS, List.mem_cons, List.not_mem_nil, or_false] at hy
    rcases hy with rfl | rfl | rfl | rfl <;> (intro z; cases z)
  · rcases List.mem_cons.mp hy with rfl | hy
    · exact hx.ks
    · rcases List.mem_singleton.mp hy with rfl
      exact hx.kx
  have hns : h₁.Ns s.heap.objs.size fun y => ([(x, u), (("self" : Str), Value.ref a)] : List (Str × Value)).lookup y := hns
  have I : Inv (oiCx CX P w K mg base x qual fI cc cda A outer s H E) [] [some (.ref a), some v] H { s with heap := h₁, toks := s.toks + 2 } := oi_start hx T.ce hr.hd e0 rv hns kp
  have K1 : K.In h₁ := KX.keeps kp
  have hne : (("self" : Str) == x) = false := hx.ne
  obtain ⟨t1, hao⟩ := exo_at I.hok ha
  show PySem.wpAt _ _ _ (execs (oiB m x q1 q2 q3 q4 q5 q6 q7 q8 q9 r1 r2 r3 r4) (ksEnv qual (oiS x) s.heap.objs.size fI (.ref cda) cc)) _ _ _
  refine PySem.ks_wpAt_execs_cons (PySem.ks_wpAt_Expr_any (PySem.ks_wpAt_MethodCall ?_ (oi_he _ _ _ _ _ _ _ hpos)))
  obtain ⟨mb, h1, h2⟩ := I.mod.blt
  refine PySem.ks_wpAt_super_base (f := fI) (cc := cda) hx.ku hx.kc (by decide) rfl (K1 _ _ lk) rfl rfl rfl (K1 _ _ lc) rfl hvs hfile T.top ?_
  refine PySem.W.ks_loadName_global rfl hx.ku (Calls.loadGlobal_builtin (I.mod.glob.keeps I.bk) T.no (h1.keeps I.bk) ((h2 _ (by decide)).trans PyProof.Rows.Boot.«super») ⟨rfl, ?_⟩)
  refine wpAny_loadName_free rfl hx.kc rfl ⟨_, K1 _ _ lcc, rfl⟩ ?_
  refine wpAny_loadName_local rfl hx.ks hns (v := .ref a) (by simp only [List.lookup, hne]; rfl) ?_
  refine PySem.ks_wpAny_isType_cls (K1 _ _ hC) rfl ⟨rfl, ?_⟩
  refine PySem.ks_wpAny_call_super (K1 _ _ hC) rfl hao rfl (fun c z => by cases z) (PySem.W.looks_mroIn K1 T.mr) (fun h2 e2 k2 => ?_)
  have I2 := I.kept (t' := s.toks + 2) k2
  have K2 : K.In h2 := K1.keeps k2
  have hI : PySem.W.Looks (model P w) h2 (isInstance (.ref a) (.type "ValueError")) true := (PySem.W.InstAt.type (x := a) (C := C) (od := none) ⟨k2 _ _ hao, rfl, rfl, trivial⟩).andThen (PySem.W.looks_subIn K2 T.sb)
  have haC : a ≠ C := fun z => by
    have y := K1 _ _ hC
    rw [← z, hao] at y
    cases y
  have su := T.su
  unfold ks_superIn at su
  rw [hcl] at su
  refine PySem.W.kxs_getMethod PySem.W.kxs_ValueError e2 (PySem.W.looks_opaque K2 T.op) (l₀ := .ref C :: bm) (fun A Q E s k q => wpAny_bind ((PySem.W.looks_clsIn K2 hcl) A _ E s k (wpAny_pure q))) rfl K2 su hI haC (by decide) ?_
  have sz3 : h2.objs.size < (h2.push (kxs_mw "ValueError.__init__" a)).objs.size := by rw [Heap.size_push]; exact Nat.lt_succ_self _
  have I3 : Inv (oiCx CX P w K mg base x qual fI cc cda A outer s H E) [] [some (.ref a), some v] H ⟨h2.push (kxs_mw "ValueError.__init__" a), s.gens, s.drawn, s.toks + 2 + 1, s.os⟩ := I2.kept (t' := s.toks + 2 + 1) fun b o e => Heap.get?_push_of_some _ e
  have at3 : (h2.push (kxs_mw "ValueError.__init__" a)).get? h2.objs.size = some (kxs_mw "ValueError.__init__" a) := Heap.get?_push_size _ rfl
  have I4 : Inv (oiCx CX P w K mg base x qual fI cc cda A outer s H E) [(h2.objs.size, kxs_mw "ValueError.__init__" a)] [some (.ref a), some v] H ⟨h2.push (kxs_mw "ValueError.__init__" a), s.gens, s.drawn, s.toks + 2 + 1, s.os⟩ :=
    ⟨I3.ok, I3.os, I3.bare, I3.base, I3.loc, I3.cell, I3.free, I3.freeC, fun p hp => by
      rcases List.mem_singleton.mp (show p ∈ [(h2.objs.size, kxs_mw "ValueError.__init__" a)] from hp) with rfl
      exact ⟨at3, I2.hok.fresh (Nat.le_refl _), fun z => absurd (show h2.objs.size < h2.objs.size by
        have := I2.lt
        rw [← z] at this
        exact this) (Nat.lt_irrefl _), I2.nofs (Nat.le_refl _), fun v z => by cases z⟩, I3.hok, I3.len⟩
  show wpAny _ _ (callWith q8 (.ref h2.objs.size) [] (backTo q8 (starEach [.JoinedStr [.Constant (.str m) 0 q4, .FormattedValue (.Name x q5) (-1) none q6] q7] (ksEnv qual (oiS x) s.heap.objs.size fI (.ref cda) cc))) []) _ _ _
  refine PySem.W.kxs_callWith (i := "ValueError.__init__") (x := a) (by rfl) ?_
  have pj : PJ (oiCx CX P w K mg base x qual fI cc cda A outer s H E) [.Constant (.str m) 0 q4, .FormattedValue (.Name x q5) (-1) none q6] [tC (.str m), tFmtN (tVar 1)] := .cons pe_str (.cons (pe_fmtN (pe_var (i := 1) rfl (.inl hx.kx) hx.db hx.cd)) .nil)
  have pa := pa_cons (pe_joined (pos := q7) pj) pa_nil
  refine PySem.Calls.evalArgs_plain (wpAny_mono (pa.run q8 _ _ _ _ (fun vs H5 => H5 = H ∧ ∃ z : Str, vs = [.str z]) I4 ?_) (fun us5 s5 h5 => ?_) fun _ _ z => z)
  · have e0 : (Str.empty ++ m : Str) = m := oi_emp m
    refine ⟨m, rfl, ?_, ?_⟩
    · rw [e0]
      rcases hv with ⟨y, _, hz, _⟩ | ⟨j, _, _, hz⟩ | ⟨_, hz⟩
      all_goals exact Nat.le_trans (oi_len m _) hz
    · rw [e0]
      refine ⟨v, rfl, ?_⟩
      rcases hv with ⟨y, rfl, hz, hz2⟩ | ⟨j, rfl, hj, hz⟩ | ⟨rfl, hz⟩
      · exact .inl ⟨y, rfl, hz2, y, rfl, hz, rfl, _, rfl⟩
      · exact .inr (.inl ⟨j, rfl, hj, _, rfl, hz, rfl, _, rfl⟩)
      · exact .inr (.inr ⟨rfl, _, rfl, hz, rfl, _, rfl⟩)
  obtain ⟨vs5, H5, I5, r5, eH, z5, rfl⟩ := h5
  rw [eH] at I5
  have hu5 : s5.heap.get? h2.objs.size = some (kxs_mw "ValueError.__init__" a) := (I5.pin _ (List.mem_singleton.mpr rfl)).1
  refine ⟨hu5, ?_⟩
  obtain ⟨t5, ha5⟩ := exo_at I5.hok ha
  have hl5 : us5.length ≤ sizeLine := by
    rw [← r5.length, sizeLine_eq]
    show 1 ≤ 16777216
    decide
  have K5 := I5.kIn
  obtain ⟨hp5, g5, d5, tk5, os5⟩ := s5
  show wpAny _ _ (call (.ref h2.objs.size) us5) _ _ _
  refine oi_mw (K5 _ _ hC) hu5 ha5 hl5 fun h6 t6 k6 a6 => ?_
  have J := I5.write (t' := tk5) (x := a) (e := a) (o := exo a C none) (h' := h6) (by rw [ha]; exact True.intro) (.inl rfl) k6 ⟨_, a6⟩ (exo_ok a6)
  have eu : upd H a (exo a C none) = H := by
    funext b
    by_cases hb : b = a
    · rw [hb, upd_same, ha]
    · rw [upd_ne hb]
  rw [eu] at J
  have ps := pss_one (ps_ost (f := x) (pos := r4) (p' := r2) (pe_var (X := oiCx CX P w K mg base x qual fI cc cda A outer s H E) (i := 0) (pos := r1) rfl (.inl hx.ks)) (pe_var (i := 1) (pos := r3) rfl (.inl hx.kx) hx.db hx.cd))
  refine PySem.wpAt_of_wpAny (wpAny_mono (ps.run _ _ _ _ { nx := fun _ H' => Q .non H', rt := fun _ _ => False } J ?_) (fun f s7 h7 => ?_) fun _ _ z => z)
  · exact ⟨v, rfl, .ref a, rfl, a, C, rfl, T.ox, T.noX, .inl ⟨ha, fun dx n ne => hq dx n ne⟩⟩
  · cases f with
    | next =>
      obtain ⟨σ7, H7, I7, q7⟩ := h7
      exact ⟨.non, H7, I7.os, I7.bare, I7.base, I7.hok, rfl, q7⟩
    | brk => exact h7.elim fun _ h => h.elim fun _ h => h.2.elim
    | cont => exact h7.elim fun _ h => h.elim fun _ h => h.2.elim
    | ret u => exact h7.elim fun _ h => h.elim fun _ h => h.elim fun _ h => h.2.2.elim
end
theorem oiX_limit : OiX "limit" := ⟨rfl, rfl, rfl, rfl, rfl, rfl, rfl, fun _ _ _ _ _ _ _ _ _ _ _ _ => by first | rfl | with_unfolding_all rfl⟩
theorem oiX_place : OiX "place" := ⟨rfl, rfl, rfl, rfl, rfl, rfl, rfl, fun _ _ _ _ _ _ _ _ _ _ _ _ => by first | rfl | with_unfolding_all rfl⟩
end Cf
/-! errors as values: made, asked for their class, their fields read -/
namespace Cf
open PySem PySem.Spec PyProof.Rows L2
open Evl (Ex)

/-- the object of an error whose dict is at d -/
def ErO (C d a : Addr) : HO := .ext fun h => ∃ oe vs, h.get? a = some oe ∧ Zc (.ref C) (some d) oe ∧ oe.data = .fields vs
/-- an error of the class at C, its fields -/
def Er (F : Hp) (C : Addr) (fs : List (Str × V)) (a : Addr) : Prop :=
  (fs = [] ∧ (F a = some (ExcH (.ref C) a) ∨ F a = some (ExO (.ref C) a))) ∨ ∃ d, (F a = some (exo a C (some d)) ∨ F a = some (ErO C d a)) ∧ (F d = some (exd d fs) ∨ F d = some (.xd fs))
theorem Er.up {F F' : Hp} {C a : Addr} {fs : List (Str × V)} (e : Ex F F') (h : Er F C fs a) : Er F' C fs a := by
  rcases h with ⟨h0, h | h⟩ | ⟨d, h, h'⟩
  · exact .inl ⟨h0, .inl (e _ _ h)⟩
  · exact .inl ⟨h0, .inr (e _ _ h)⟩
  · exact .inr ⟨d, h.imp (e _ _) (e _ _), h'.imp (e _ _) (e _ _)⟩
theorem xd_at {P : Program} {w : World} {H : Hp} {h : Heap} {d : Addr} {fs : List (Str × V)} (hok : HOk P w H h) (e : H d = some (exd d fs) ∨ H d = some (.xd fs)) : ∃ mA, h.Ns1 d mA ∧ ∀ f, RelO (fs.lookup f) (mA f) := by
  rcases e with e | e
  · exact exd_at hok e
  · exact hok d _ e
theorem er_inst {P : Program} {w : World} {H : Hp} {h : Heap} {C a : Addr} {fs : List (Str × V)} (hok : HOk P w H h) (e : Er H C fs a) : ∃ ox od, PySem.W.InstAt h a ox C od := by
  rcases e with ⟨_, e | e⟩ | ⟨d, e, e'⟩
  · obtain ⟨⟨⟨o1, o2, o3, o4⟩, vs, g, ⟨z1, z2⟩, y⟩, _⟩ := hok a _ e
    dsimp only at z1 z2 y
    subst z1 z2 y
    exact ⟨_, none, g, rfl, rfl, trivial⟩
  · obtain ⟨⟨⟨o1, o2, o3, o4⟩, vs, g, ⟨z1, z2⟩, y, _⟩, _⟩ := hok a _ e
    dsimp only at z1 z2 y
    subst z1 z2 y
    exact ⟨_, none, g, rfl, rfl, trivial⟩
  · obtain ⟨mA, hns, hr⟩ := xd_at hok e'
    obtain ⟨od, ho, hl⟩ := lookIn_ns hns
    rcases e with e | e
    · obtain ⟨t1, g⟩ := exo_at hok e
      exact ⟨_, some od, g, rfl, rfl, ho⟩
    · obtain ⟨⟨⟨o1, o2, o3, o4⟩, vs, g, ⟨z1, z2⟩, y⟩, _⟩ := hok a _ e
      dsimp only at z1 z2 y
      subst z1 z2 y
      exact ⟨_, some od, g, rfl, rfl, ho⟩
/-- isinstance(e, T) -/
def rIsEr (K : PySem.W.Frag) : List V → Hp → VK → Prop := fun xs H Q => ∃ (a C : Addr) (fs : List (Str × V)) (c : V) (cv : Value) (b : Bool), xs = [.ref a, c] ∧ Er H C fs a ∧ ExcC K C ∧ (∀ u, RelV c u → u = cv) ∧ PySem.W.kitOne K (.ref C) cv = some b ∧ Q (.bl b) H
theorem call_isEr {X : Cx} : CallR X (.builtin "isinstance") (rIsEr X.K) := by
  intro pins s σ H xs us Q I r h
  obtain ⟨a, C, fs, c, cv, b, rfl, ha, hE, hc, e, q⟩ := h
  obtain ⟨u1, u2, rfl, r1, r2⟩ := vals2 r
  cases r1
  obtain rfl := hc _ r2
  obtain ⟨ox, od, J⟩ := er_inst I.hok ha
  have hcl : (PySem.W.clsIn X.K C).isSome = true := by
    obtain ⟨cd, hcd, _⟩ := PySem.W.any_some hE.hd
    rw [hcd]
    rfl
  exact PySem.W.kia_one (PySem.W.kitx_exc hcl hE.hg hE.hk hE.hs hE.ha hE.hn hE.ht hE.hm) I.kIn J e (fun z => nomatch z) fun tk => ⟨.bl b, H, I.kept (t' := tk) fun _ _ z => z, rfl, q⟩
/-- e.n -/
def tErF (K : PySem.W.Frag) (n : Str) (te : TE) : TE := fun σ H Q => te σ H fun x H1 => ∃ (a C : Addr) (fs : List (Str × V)) (v : V), x = .ref a ∧ Er H1 C fs a ∧ XfC K C ∧ PySem.W.findIn K (.ref C) n = some none ∧ fs.lookup n = some v ∧ Q v H1
theorem pe_erF {X : Cx} {e : Expr} {te : TE} {n : Str} {pos : Pos} (he : PE X e te) (hb : attributeBase e n X.env (eval e X.env) = eval e X.env := by rfl) : PE X (.Attribute e n pos) (tErF X.K n te) := by
  refine ⟨fun pins s σ H Q I h => attr_of hb (thn (he.run pins s σ H _ I h) fun u s1 hh => ?_)⟩
  obtain ⟨x, H1, I1, rx, a, C, fs, v, ex, ea, T, hno, l, q⟩ := hh
  subst ex
  obtain rfl : u = Value.ref a := rx
  rcases ea with ⟨z, _⟩ | ⟨d, e, e'⟩
  · rw [z] at l
    cases l
  · obtain ⟨mA, hns, hr⟩ := xd_at I1.hok e'
    obtain ⟨od, ho, hl⟩ := lookIn_ns hns
    obtain ⟨u, hu, ru⟩ := RelO.some_of (v := v) (o := mA n) (by rw [← l]; exact hr n)
    have J : ∃ ox, PySem.W.InstAt s1.heap a ox C (some od) := by
      rcases e with e | e
      · obtain ⟨t1, g⟩ := exo_at I1.hok e
        exact ⟨_, g, rfl, rfl, ho⟩
      · obtain ⟨⟨⟨o1, o2, o3, o4⟩, vs, g, ⟨z1, z2⟩, y⟩, _⟩ := I1.hok a _ e
        dsimp only at z1 z2 y
        subst z1 z2 y
        exact ⟨_, g, rfl, rfl, ho⟩
    obtain ⟨ox, J⟩ := J
    exact HandSPX.exc_get I1.kIn J T.ga T.gg T.exC (PySem.W.findObj_own T.hdC hno rfl (by rw [hl, hu])) (handed_of ru) ⟨v, H1, I1.tok _, ru, q⟩
/-- C(e), C's own __init__ keeping sp, as a value -/
def tErI (C : Addr) (sp : Sp) (ta : TA) : TE := fun σ H Q => ta σ H fun vs H1 => vs.length ≤ 1000 ∧ ∀ a, H1 a = none → sp (.ref a :: vs) (upd H1 a (exo a C none)) (fun v H2 => v = .non ∧ Q (.ref a) H2) (fun _ _ _ => False)
theorem pe_erI {X : Cx} {x : Str} {C fI : Addr} {k : Nat} {fd : FuncData} {ps : List Str} {sp : Sp} {e : Expr} {es : List Expr} {ta : TA} {p pos : Pos} (T : OexC X.K C) (iC : PySem.W.findIn X.K (.ref C) "__init__" = some (some (.ref fI))) (tI : PySem.W.typeIn X.K (.ref fI) = some (.type "function"))
    (F1 : FnOk X.prog X.w X.K X.mg X.base CX0 k fI fd ps sp) (hr : Room (k + 1) X.A) (hb : L2.Binds X.K fd ps []) (hg : Gl X x) (hm : X.mg x = some (.ref C)) (ha : PA X (e :: es) ta)
    (hdb : (x == ("__debug__" : Str)) = false := by decide) (he : starEach (e :: es) X.env = (false, eval e X.env) :: starEach es X.env := by rfl) (hpl : (backTo pos (starEach es X.env)).any (·.1) = false := by rfl) :
    PE X (.Call (.Name x p) (e :: es) [] pos) (tErI C sp ta) := by
  refine ⟨fun pins s σ H Q I h => ?_⟩
  obtain ⟨nm, q, N, bs, bm, sn, sub, ab, col, dd, k0, k1, k2, k3, k5, hC, hbm⟩ := T.cls
  refine wpAny_Call_Name_kw (ld_glob I hg hm ?_ hdb)
  refine PySem.W.callWith_K (h₀ := X.base) I.ok.mod.kin T.kC (thn (ha.run pos pins s σ H _ I h) fun us s1 ⟨vs, H1, I1, r1, hz, q1⟩ => ⟨I1.kIn, ?_⟩) he hpl
  show wpAny _ _ (call (.ref C) us) _ _ _
  obtain ⟨hp, g, dr, tk, os⟩ := s1
  have sz := Nat.le_succ hp.objs.size
  have hn : H1 (hp.objs.size + 1) = none := I1.hok.fresh sz
  have hq := q1 (hp.objs.size + 1) hn
  have kk : ∀ b o, hp.get? b = some o → ((hp.push (PySem.W.kdv_tup us)).push (PySem.HandSPX.excO C hp.objs.size)).get? b = some o := fun b o e => Heap.get?_push_of_some _ (Heap.get?_push_of_some _ e)
  have hget : ((hp.push (PySem.W.kdv_tup us)).push (PySem.HandSPX.excO C hp.objs.size)).get? (hp.objs.size + 1) = some (PySem.HandSPX.excO C hp.objs.size) := by heap_get
  have I2 := I1.laid (t' := tk) (a := hp.objs.size + 1) (o := exo (hp.objs.size + 1) C none) kk sz (exo_ok hget)
  have r2 : Vals (V.ref (hp.objs.size + 1) :: vs) (Value.ref (hp.objs.size + 1) :: us) := .cons rfl r1
  have hl : (Value.ref (hp.objs.size + 1) :: us ++ []).length = ps.length := by
    rw [List.append_nil, ← r2.length]
    exact F1.len _ _ _ _ hq
  have hus : us.length ≤ sizeLine := by
    rw [← Paired.length r1, sizeLine_eq]
    omega
  have bt := hb ⟨(hp.push (PySem.W.kdv_tup us)).push (PySem.HandSPX.excO C hp.objs.size), g, dr, tk, os⟩ (Value.ref (hp.objs.size + 1) :: us) I2.kIn hl
  rw [List.append_nil] at bt
  refine wpAny_call (PySem.HandSPX.call_own F.excBase_ValueError (fun Y => PySem.HandSPX.refsVE_contains Y bm hbm) (I1.kIn _ _ hC) (PySem.W.looks_findIn I1.kIn iC) (fun self => PySem.W.bind_fn I1.kIn self tI) hus
    (codeAny_mono (F1.run _ X.stack _ _ _ _ _ _ (fun _ _ _ => False) (hr.make C us []) (I2.env0.make C us []) bt r2 hq) fun r s' hq' => ?_))
  cases r with
  | error er => exact False.elim hq'
  | ok fl =>
    cases fl with
    | ret u =>
      obtain ⟨v, H2, os2, bare2, un2, hok2, rv, ev, q2⟩ := hq'
      subst ev
      obtain ⟨h2, g2, d2, t2, os'⟩ := s'
      have J := I2.call' (ch := []) os2 un2 hok2 bare2 (fun b z => absurd z (by simp))
      exact ⟨rv, .ref (hp.objs.size + 1), H2, J, rfl, q2⟩
    | next => exact False.elim hq'
    | brk => exact False.elim hq'
    | cont => exact False.elim hq'
end Cf
/-! xs[::k] -/
namespace Cf
open PySem PySem.Spec PyProof.Rows L2
open Evl (Ex)
def stepIx (n : Nat) (k : Int) : List Nat := (List.range (if (0 : Int) < n then ((n : Int) - 0 + k - 1) / k else 0).toNat).map fun (i : Nat) => (0 + k * (i : Int)).toNat
def stepV {α : Type} (k : Int) (xs : List α) : List α := (stepIx xs.length k).filterMap fun i => xs[i]?
def tStepL (K : PySem.W.Frag) (te tk : TE) : TE := fun σ H Q => te σ H fun x H1 => tPart tk σ H1 fun o H2 => ∃ a xs k, x = .ref a ∧ o = some k ∧ 0 < k ∧ SqL K H2 a xs ∧ ∀ p, H2 p = none → Q (.ref p) (upd H2 p (.lst (stepV k xs)))
end Cf
/-! [e for i, x in enumerate(xs) if c], [e for x, y in zip(xs, ys)] -/
namespace Cf
open PySem PySem.Spec PyProof.Rows L2
open Evl (Ex)
section
variable {K : PySem.W.Frag} {t : Option Addr} {ρ : Rho} {i j : Nat} {te : TE} {tr : TA}
end
end Cf
/-! a list's truth, stores into a list of its own, extend, comprehensions over pairs, wide powers -/
namespace Cf
open PySem PySem.Spec PyProof.Rows L2
open Evl (Ex)
/-- ** of ints below 2 ^ 9000, up to the tenth power -/
def CPowW (i j : Int) : Prop := 0 ≤ j ∧ j ≤ 100 ∧ i.natAbs < 2 ^ 9000
def rPowW : R2 := rI CPowW fun i j => .int (i ^ j.toNat)
def tTru (K : PySem.W.Frag) (ta : TE) : TT := fun σ H Q => ta σ H fun x H' => ∃ k, TruV K x H' k ∧ Q k H'
section
variable {K : PySem.W.Frag} {t : Option Addr} {ρ : Rho} {i j : Nat} {d : PyData} {te ti tl : TE} {t1 t2 : TS} {N B C : Rho → Prop} {R : PyData → Prop}
/-- repr of a list of its own -/
theorem DE_reprOw {ds : List PyData} {Q : PyData → Prop} (h : ρ[i]? = some (.ow ds)) (q : (PyData.list ds).showable = true ∧ (PyData.list ds).shown.length ≤ sizeLine ∧ (PyData.list ds).depth ≤ 60 ∧ Q (.str (PyData.list ds).shown)) : DE K t (tCB (rReprD K) (tCons (tVar i) tNil)) ρ Q := fun F0 H0 F H σ A QK k => by
  obtain ⟨p, xs, e, h1, h2, h3, h4, h5⟩ := A.own h
  exact ⟨.ref p, e, .ref p, .list ds, rfl, .lst (.inl (.inl h1)) (h5.up A.fh), q.1, q.2.1, q.2.2.1, k _ _ F H q.2.2.2 A.rfl (.str _)⟩
/-! ### defs that return a list of their own -/
def DSG (K : PySem.W.Frag) (ts : TS) (ρ : Rho) (R : List PyData → Prop) : Prop := ∀ (F0 H0 F H : Hp) (σ : L2.St) (D : Ends), At K none F0 H0 F H σ ρ →
  (∀ es p xs F' H', R es → Gr none F0 H0 F' H' → H0 p = none → F' p = none → H' p = some (.lst xs) → Dqs K F' es xs → D.rt (.ref p) H') → ts D σ H
abbrev KeepsG (W : List PyData → (List PyData → Prop) → Prop) (n : Nat) (tb : PySem.W.Frag → TS) : Prop :=
  ∀ (K : PySem.W.Frag) (ds : List PyData) (R : List PyData → Prop), W ds R → ds.length ≤ n ∧ DSG K (tb K) (ds.map Sl.sh ++ List.replicate (n - ds.length) Sl.no) R
end
end Cf
namespace Cf
open PySem PySem.Spec PyProof.Rows L2
open Evl (Ex)
/-! ### what is changed within a loop's turn -/
section
variable {K : PySem.W.Frag} {t : Option Addr} {ρ : Rho} {i : Nat} {d : PyData} {te ta tb tc : TE} {t1 t2 : TS} {N B C : Rho → Prop} {R : PyData → Prop}
def DSW (K : PySem.W.Frag) (t : Option Addr) (ts : TS) (ρ : Rho) (N : Rho → Prop) (R : PyData → Prop) (B C : Rho → Prop) : Prop :=
  ∀ (F0 H0 F H : Hp) (σ : L2.St) (D : Ends), At K t F0 H0 F H σ ρ →
    (∀ ρ' F' H' σ', N ρ' → At K t F0 H0 F' H' σ' ρ' → D.nx σ' H') →
    (∀ d v F' H', R d → Gr t F0 H0 F' H' → TpOk t F' H' → Dq K F' d v → D.rt v H') →
    (∀ ρ' F' H' σ', B ρ' → At K t F0 H0 F' H' σ' ρ' → D.bk σ' H') →
    (∀ ρ' F' H' σ', C ρ' → At K t F0 H0 F' H' σ' ρ' → D.ct σ' H') → ts D σ H
theorem DS.w (h : DS K t t1 ρ N R B C) : DSW K t t1 ρ N R B C := fun F0 H0 F H σ D A kn kr kb kc =>
  h F0 H0 F H σ D A (fun r F' H' s q a _ => kn r F' H' s q a) kr (fun r F' H' s q a _ => kb r F' H' s q a) fun r F' H' s q a _ => kc r F' H' s q a
def Sl.young : Sl → Sl
  | .od d => .sh d
  | s => s
theorem At.young {F0 H0 F H F' H' : Hp} {σ σ' : L2.St} {ρ' : Rho} (A : At K t F0 H0 F H σ ρ) (A' : At K t F H F' H' σ' ρ') : At K t F0 H0 F' H' σ' (ρ'.map Sl.young) where
  gr := A.gr.trans A'.gr fun a e => (A'.tp a e).1
  len := by rw [List.length_map, A'.len]
  sl := fun j o s h1 h2 => by
    obtain ⟨s', h3, rfl⟩ := map_slot h2
    have w := A'.sl j o s' h1 h3
    cases s' with
    | no => trivial
    | sh d => exact w
    | ow ds =>
      obtain ⟨p, xs, e, w1, w2, w3, w4, w5⟩ := w
      exact ⟨p, xs, e, w1, w2, none_back (fun o q => A.gr.hh p o w4 q) w3, w4, w5⟩
    | tp => exact w
    | vl v => exact w
    | od d =>
      obtain ⟨v, e, z⟩ := w
      exact ⟨v, e, z.up A'.gr.ff⟩
    | nw d =>
      obtain ⟨v, e, z, p, xs, h1, h2, h3, h4⟩ := w
      exact ⟨v, e, z, p, xs, h1, (A.fs h2).old, base_none A h3, h4⟩
    | dk p kvs =>
      obtain ⟨e, w1, w2, w3, w4⟩ := w
      exact ⟨e, w1, w2, none_back (fun o q => A.gr.hh p o w4 q) w3, w4⟩
    | fx kds => exact w
    | fd kds => exact w
    | ft kds => exact w
    | pr φ => exact w
    | dt p kvs =>
      obtain ⟨e, w1, w2, w3, w4⟩ := w
      exact ⟨e, w1, w2, none_back (fun o q => A.gr.hh p o w4 q) w3, w4⟩
  ap := fun i j p ds es n h1 h2 h3 => by
    obtain ⟨s1, g1, e1⟩ := map_slot h1
    obtain ⟨s2, g2, e2⟩ := map_slot h2
    cases s1 <;> cases e1
    cases s2 <;> cases e2
    exact A'.ap i j p ds es n g1 g2 h3
  tp := A'.tp
end
/-! ### [f, g][k](..) -/
def tPick (s0 s1 : Sp) (i : Nat) (ta : TA) : TE := fun σ H Q => ∃ z : Int, σ[i]? = some (some (.int z)) ∧ ∀ (p : Addr) (o : HO), H p = none →
  (z = 0 ∧ ta σ (upd H p o) fun vs H2 => s0 (vs ++ []) H2 Q E0) ∨ (z = 1 ∧ ta σ (upd H p o) fun vs H2 => s1 (vs ++ []) H2 Q E0)
section
variable {X : Cx} {CX : CXT} {k : Nat} {f0 f1 : Addr} {fd0 fd1 : FuncData} {ps0 ps1 : List Str} {s0 s1 : Sp} {x0 x1 x2 : Str} {p0 p1 p2 p3 p4 pos : Pos} {e : Expr} {es : List Expr} {t : TA} {i : Nat}
end
section
variable {K : PySem.W.Frag} {t : Option Addr} {ρ : Rho} {i j : Nat} {tr : TA} {N B C : Rho → Prop} {R Q : PyData → Prop} {W0 W1 : List PyData → (PyData → Prop) → Prop}
/-- the number of the def -/
def num01 (ρ : Rho) (i : Nat) (b : Bool) : Prop := ρ[i]? = some (.sh (.int (if b then 1 else 0))) ∨ ρ[i]? = some (.od (.int (if b then 1 else 0)))
theorem At.num01 {F0 H0 F H : Hp} {σ : L2.St} (A : At K t F0 H0 F H σ ρ) {b : Bool} (h : num01 ρ i b) : σ[i]? = some (some (.int (if b then 1 else 0))) := by
  rcases h with h | h
  · obtain ⟨v, e, z⟩ := A.var h
    cases z
    exact e
  · obtain ⟨o, e, v, rfl, z⟩ := A.slot h
    cases z
    exact e
end
end Cf
namespace Cf
open PySem PySem.Spec PyProof.Rows L2
open Evl (Ex)
section
variable {K : PySem.W.Frag} {t : Option Addr} {ρ : Rho} {i j : Nat} {d : PyData} {te ta tb tl : TE} {t1 t2 : TS} {N B C : Rho → Prop} {R : PyData → Prop}
end
end Cf
namespace Cf
open PySem PySem.Spec PyProof.Rows L2
section
variable {M : Model} {A : Around} {E : Value → Shared → Prop}
end

/-- the iterators of a zip -/
def itRefs (z0 n : Nat) : List Value := (List.range n).map fun j => Value.ref (z0 + j)
end Cf
namespace Cf
open PySem PySem.Spec PyProof.Rows L2
section
variable {prog : Program} {w : World} {A : Around} {E : Value → Shared → Prop} {s : Shared}
abbrev IsZipN (h : Heap) (z TI TO : Addr) (f0 : Value) (f1 : Bool) : Prop := h.get? z = some { cls := .type "zip", dict := none, data := .fields #[f0, .bool f1, .bool false, .ref TI, .ref TO], slots := #[] }
abbrev IsTupN (h : Heap) (T : Addr) (vs : List Value) : Prop := h.get? T = some { cls := .type "tuple", data := .seq vs.toArray }
structure ZA (z TI TO : Addr) (is ls : List Addr) : Prop where
  TIz : TI ≠ z
  TOz : TO ≠ z
  TITO : TI ≠ TO
  iz : ∀ i ∈ is, i ≠ z ∧ i ≠ TI ∧ i ≠ TO
  nd : is.Nodup
  lz : ∀ l ∈ ls, l ≠ z ∧ l ≠ TO ∧ ∀ i ∈ is, l ≠ i
  len : is.length = ls.length
  ne : is ≠ []
/-- the lists and their iterators -/
structure ZL (h : Heap) (is ls : List Addr) (xss : List (Array Value)) (k : Nat) : Prop where
  it : ∀ (j : Nat) (i l : Addr), is[j]? = some i → ls[j]? = some l → h.IsListIter i l k
  ll : ∀ (j : Nat) (l : Addr) (xs : Array Value), ls[j]? = some l → xss[j]? = some xs → h.IsList l xs
end
end Cf
namespace Cf
open PySem PySem.Spec PyProof.Rows L2
section
variable {prog : Program} {w : World} {A : Around} {E : Value → Shared → Prop} {s : Shared}
end
end Cf
namespace Cf
open PySem PySem.Spec PyProof.Rows L2
section
variable {prog : Program} {w : World} {A : Around} {E : Value → Shared → Prop} {s : Shared}
/-- what a zip keeps of the tuple that it handed out -/
def F0 (f0 : Value) : Prop := f0 = .none ∨ ∃ T : Addr, f0 = rawInt T
end
/-- lists of values as they stand at ls -/
def RowsAt (K : PySem.W.Frag) (H : Hp) (ls : List Addr) (rows : List (List V)) : Prop := rows.length = ls.length ∧ ∀ (j : Nat) (l : Addr) (xs : List V), ls[j]? = some l → rows[j]? = some xs → SqL K H l xs
def ColAt (rows : List (List V)) (i : Nat) (us : List V) : Prop := us.length = rows.length ∧ ∀ (j : Nat) (xs : List V) (u : V), rows[j]? = some xs → us[j]? = some u → xs[i]? = some u
def ItzN (K : PySem.W.Frag) (ls : List Addr) : It :=
  ⟨fun i H => ∃ rows us, RowsAt K H ls rows ∧ ColAt rows i us,
    fun i H v H' => ∃ T us, v = .ref T ∧ H T = none ∧ H' = upd H T (.tup us) ∧ ∀ rows, RowsAt K H ls rows → ColAt rows i us,
    fun i H => ∃ rows, RowsAt K H ls rows ∧ ∀ xs, rows[0]? = some xs → xs.length ≤ i⟩
section
variable {X : Cx} {pins : List (Addr × Obj)} {σ : L2.St} {H : Hp} {s : Shared}
end
/-- zip(*e), e a list of lists -/
def iZipS (K : PySem.W.Frag) (te : TE) : TI := fun σ H R => te σ H fun x H1 => ∃ (a : Addr) (ls : List Addr) (rows : List (List V)), x = .ref a ∧ SqL K H1 a (ls.map V.ref) ∧ RowsAt K H1 ls rows ∧ ls ≠ [] ∧ ls.length ≤ 100000 ∧ R (ItzN K ls) H1
end Cf
namespace Cf
open PySem PySem.Spec PyProof.Rows L2
open Evl (Ex)
section
variable {K : PySem.W.Frag} {t : Option Addr} {ρ : Rho} {i : Nat} {te : TE}
/-- the k-th items of the rows -/
def colD (rows : List (List PyData)) (k : Nat) : List PyData := rows.map fun r => r.getD k .none
/-- a new tuple of the k-th items -/
def YCol (rows : List (List V)) : Nat → Hp → V → Hp → Prop := fun k H v H' => ∃ T us, v = .ref T ∧ H T = none ∧ H' = upd H T (.tup us) ∧ ColAt rows k us
theorem RowsAt.up {F F' : Hp} (e : Ex F F') {ls : List Addr} {rs : List (List V)} (h : RowsAt K F ls rs) : RowsAt K F' ls rs := ⟨h.1, fun j l xs hl hx => Evl.ex_l e (h.2 j l xs hl hx)⟩
end
end Cf
/-! for x, y, z in zip(xs, ys, zs) -/
namespace Cf
open PySem PySem.Spec PyProof.Rows L2
section
variable {prog : Program} {w : World} {A : Around} {E : Value → Shared → Prop} {s : Shared}
end
def iZip3 (K : PySem.W.Frag) (ta : TA) : TI := fun σ H R => ta σ H fun vs H1 => ∃ (ls : List Addr) (rows : List (List V)), vs = ls.map V.ref ∧ RowsAt K H1 ls rows ∧ ls ≠ [] ∧ ls.length ≤ 100000 ∧ R (ItzN K ls) H1
end Cf
/-! for i, x in enumerate(xs) -/
namespace Cf
open PySem PySem.Spec PyProof.Rows L2
open Evl (Ex)
section
variable {K : PySem.W.Frag} {t : Option Addr} {ρ : Rho} {i j : Nat} {t1 : TS} {N B C : Rho → Prop} {R : PyData → Prop}
end
end Cf
/-! values that are no data, by what is true of them: errors, lists of errors -/
namespace Cf
open PySem PySem.Spec PyProof.Rows L2
open Evl (Ex)
abbrev Vp := Hp → V → Prop
def Fz (Φ : Vp) (F : Hp) (v : V) : Prop := ∀ F', Ex F F' → Φ F' v
theorem Fz.up {Φ : Vp} {F F' : Hp} {v : V} (h : Fz Φ F v) (e : Ex F F') : Fz Φ F' v := fun F2 e2 => h F2 (e.trans e2)
theorem Fz.now {Φ : Vp} {F : Hp} {v : V} (h : Fz Φ F v) : Φ F v := h F (Ex.refl F)
/-- an error of the class at C, with a field perhaps -/
def VEr (K : PySem.W.Frag) (C : Addr) (fd : Option (Str × PyData)) : Vp := fun F v => ∃ a fs, v = .ref a ∧ Er F C fs a ∧ ∀ x d, fd = some (x, d) → ∃ u, fs.lookup x = some u ∧ Dq K F d u
theorem vEr_fz {K : PySem.W.Frag} {C : Addr} {fd : Option (Str × PyData)} {F : Hp} {v : V} (h : VEr K C fd F v) : Fz (VEr K C fd) F v := fun F' e => by
  obtain ⟨a, fs, e1, e2, e3⟩ := h
  refine ⟨a, fs, e1, e2.up e, fun x d q => ?_⟩
  obtain ⟨u, l, z⟩ := e3 x d q
  exact ⟨u, l, z.up e⟩
def Fzs : List Vp → Hp → List V → Prop
  | [], _, [] => True
  | Φ :: Φs, F, v :: vs => Fz Φ F v ∧ Fzs Φs F vs
  | _, _, _ => False
theorem Fzs.up {F F' : Hp} (e : Ex F F') : ∀ {Φs : List Vp} {vs : List V}, Fzs Φs F vs → Fzs Φs F' vs
  | [], [], _ => trivial
  | _ :: _, _ :: _, h => ⟨h.1.up e, Fzs.up e h.2⟩
  | [], _ :: _, h => h.elim
  | _ :: _, [], h => h.elim
theorem Fzs.len {F : Hp} : ∀ {Φs : List Vp} {vs : List V}, Fzs Φs F vs → vs.length = Φs.length
  | [], [], _ => rfl
  | _ :: _, _ :: _, h => congrArg (· + 1) (Fzs.len h.2)
  | [], _ :: _, h => h.elim
  | _ :: _, [], h => h.elim
theorem Fzs.app {F : Hp} : ∀ {Φs Ψs : List Vp} {vs ws : List V}, Fzs Φs F vs → Fzs Ψs F ws → Fzs (Φs ++ Ψs) F (vs ++ ws)
  | [], _, [], _, _, h => h
  | _ :: _, _, _ :: _, _, h, h' => ⟨h.1, Fzs.app h.2 h'⟩
  | [], _, _ :: _, _, h, _ => h.elim
  | _ :: _, _, [], _, h, _ => h.elim
theorem Fzs.at {F : Hp} : ∀ {Φs : List Vp} {vs : List V} {i : Nat} {Φ : Vp}, Fzs Φs F vs → Φs[i]? = some Φ → ∃ v, vs[i]? = some v ∧ Fz Φ F v
  | [], [], i, v, _, h => by simp at h
  | _ :: _, v :: _, 0, _, h, q => ⟨v, rfl, by cases q; exact h.1⟩
  | _ :: Φs, _ :: vs, i + 1, v, h, q => Fzs.at (i := i) h.2 (by simpa using q)
  | [], _ :: _, _, _, h, _ => h.elim
  | _ :: _, [], _, _, h, _ => h.elim
/-- a list of such values, frozen -/
def VLs (Φs : List Vp) : Vp := fun F v => ∃ p xs, v = .ref p ∧ F p = some (.lst xs) ∧ Fzs Φs F xs
theorem vLs_fz {Φs : List Vp} {F : Hp} {v : V} (h : VLs Φs F v) : Fz (VLs Φs) F v := fun F' e => by
  obtain ⟨p, xs, e1, e2, e3⟩ := h
  exact ⟨p, xs, e1, e _ _ e2, e3.up e⟩
section
variable {K : PySem.W.Frag} {t : Option Addr} {ρ : Rho} {i j l : Nat} {te ta tb : TE} {tr : TA} {t1 t2 : TS} {N B C : Rho → Prop} {R : PyData → Prop}
/-- what an expression gives that is no data -/
def DV (K : PySem.W.Frag) (t : Option Addr) (te : TE) (ρ : Rho) (Q : Vp → Prop) : Prop :=
  ∀ (F0 H0 F H : Hp) (σ : L2.St), At K t F0 H0 F H σ ρ → ∀ QK : VK, (∀ Φ v F' H', Q Φ → Stp t F H F' H' → Fz Φ F' v → QK v H') → te σ H QK
def DVA (K : PySem.W.Frag) (t : Option Addr) (ta : TA) (ρ : Rho) (Q : List Vp → Prop) : Prop :=
  ∀ (F0 H0 F H : Hp) (σ : L2.St), At K t F0 H0 F H σ ρ → ∀ QK : List V → Hp → Prop, (∀ Φs vs F' H', Q Φs → Stp t F H F' H' → Fzs Φs F' vs → QK vs H') → ta σ H QK
theorem DV_var {Φ : Vp} {Q : Vp → Prop} (h : ρ[i]? = some (.pr Φ)) (q : Q Φ) : DV K t (tVar i) ρ Q := fun F0 H0 F H σ A QK k => by
  obtain ⟨o, e, v, rfl, z⟩ := A.slot h
  exact ⟨v, e, k Φ v F H q A.rfl z⟩
/-- X(text), X without own __init__ -/
def tEr1 (C : Addr) (te : TE) : TE := fun σ H Q => te σ H fun _ H1 => ∀ a, H1 a = none → Q (.ref a) (upd H1 a (ExO (.ref C) a))
theorem DV_er1 {C : Addr} {Q : Vp → Prop} (h : DE K t te ρ fun _ => Q (VEr K C none)) : DV K t (tEr1 C te) ρ Q := fun F0 H0 F H σ A QK k =>
  h F0 H0 F H σ A _ fun d v F1 H1 q e1 z a na => by
    have A1 := A.step e1
    have g := Gr.new A1.fh (o := ExO (.ref C) a) na
    exact k _ _ _ _ q (e1.trans (A1.stp g)) (vEr_fz ⟨a, [], rfl, .inl ⟨rfl, .inr upd_same⟩, fun _ _ z => by cases z⟩)
/-- the field of an error -/
def FldOk (m : Str) (d : PyData) : Prop := m.length ≤ 1000 ∧ ((∃ n : Int, d = .int n ∧ 0 ≤ n ∧ n < 10 ^ 300) ∨ d = .none)
theorem tx_size {n : Int} (h0 : 0 ≤ n) (h : n < 10 ^ 300) : (toString n : Str).length ≤ 300 := PyProof.Rows.toString_length_le h0 (by decide) h
theorem str_len2 (a b : Str) : (a ++ b).length = a.length + b.length := by
  obtain ⟨c⟩ := a
  obtain ⟨e⟩ := b
  show (c ++ e).size = c.size + e.size
  rw [Array.size_append]
theorem fld_oi {F : Hp} {m : Str} {d : PyData} {v : V} (h : FldOk m d) (z : Dq K F d v) : OiV m v := by
  obtain ⟨hm, ⟨n, rfl, h0, hn⟩ | rfl⟩ := h
  · cases z
    refine .inr (.inl ⟨n, rfl, ?_, ?_⟩)
    · by_cases hz : n.natAbs = 0
      · rw [hz]
        decide
      · rw [Nat.log2_lt hz]
        have : n.natAbs < 10 ^ 300 := by
          have e : ((n.natAbs : Nat) : Int) < ((10 ^ 300 : Nat) : Int) := by
            rw [Int.natAbs_of_nonneg h0]
            exact_mod_cast hn
          exact_mod_cast e
        exact Nat.lt_trans this (by decide +kernel)
    · have := tx_size h0 hn
      rw [str_len2, sizeLine_eq]
      omega
  · cases z
    refine .inr (.inr ⟨rfl, ?_⟩)
    rw [str_len2, sizeLine_eq]
    have : ("None" : Str).length = 4 := by decide
    omega
theorem upd_back {H : Hp} {a dx : Addr} {o1 o2 o3 : HO} (n : dx ≠ a) : upd (upd (upd H a o1) dx o2) a o3 = upd (upd H dx o2) a o3 := by
  funext b
  by_cases h : b = a
  · rw [h, upd_same, upd_same]
  · rw [upd_ne h, upd_ne h]
    by_cases h2 : b = dx
    · rw [h2, upd_same, upd_same]
    · rw [upd_ne h2, upd_ne h2, upd_ne h]
theorem DV_erI {m x : Str} {C : Addr} {Q : Vp → Prop} (h : DE K t te ρ fun d => FldOk m d ∧ Q (VEr K C (some (x, d)))) : DV K t (tErI C (spOi m x C) (tCons te tNil)) ρ Q := fun F0 H0 F H σ A QK k =>
  h F0 H0 F H σ A _ fun d v F1 H1 q e1 z => by
    have A1 := A.step e1
    refine ⟨by simp, fun a na => ⟨a, v, rfl, fld_oi q.1 z, upd_same, fun dx nd ne => ⟨rfl, ?_⟩⟩⟩
    rw [upd_ne ne] at nd
    rw [upd_back ne]
    have g1 := Gr.new A1.fh (o := exd dx [(x, v)]) nd
    have na2 : upd H1 dx (exd dx [(x, v)]) a = none := by rw [upd_ne (Ne.symm ne)]; exact na
    have g2 := Gr.new g1.fh (o := exo a C (some dx)) na2
    have g := g1.trans g2 (fun a z => by cases z)
    refine k _ _ _ _ q.2 (e1.trans (A1.stp g)) (vEr_fz ⟨a, [(x, v)], rfl, .inr ⟨dx, .inl upd_same, .inl ?_⟩, fun x' d' w => ?_⟩)
    · rw [upd_ne ne, upd_same]
    · cases w
      exact ⟨v, by simp [List.lookup], z.up g.ff⟩
theorem DVA_nil {Q : List Vp → Prop} (q : Q []) : DVA K t tNil ρ Q := fun F0 H0 F H σ A QK k => k [] [] F H q A.rfl trivial
theorem DVA_cons {Q : List Vp → Prop} (h : DV K t te ρ fun Φ => DVA K t tr ρ fun Φs => Q (Φ :: Φs)) : DVA K t (tCons te tr) ρ Q := fun F0 H0 F H σ A QK k =>
  h F0 H0 F H σ A _ fun Φ v F1 H1 hr e1 q1 => hr F0 H0 F1 H1 σ (A.step e1) _ fun Φs vs F2 H2 q e2 q2 => k _ _ F2 H2 q (e1.trans e2) ⟨q1.up e2.ff, q2⟩
theorem Stp.hold {F0 H0 F H F' H' : Hp} {σ : L2.St} (A : At K t F0 H0 F H σ ρ) (e : Stp t F H F' H') {p : Addr} {o : HO} (f : H p = none) (n : F' p = none) (h : H' p = some o) (ht : t ≠ some p) : Stp t F H (upd F' p o) H' := by
  have e1 : Ex F' (upd F' p o) := Ex.new n
  refine ⟨⟨e.ff.trans e1, e.g.hh, fun a u z => ?_, fun a u z w => ?_⟩, fun a z => ?_⟩
  · by_cases y : a = p
    · subst y
      rw [upd_same] at z
      cases z
      exact h
    · rw [upd_ne y] at z
      exact e.g.fh a u z
  · by_cases y : a = p
    · rw [y]
      exact f
    · rw [upd_ne y] at z
      exact e.g.nw a u z w
  · obtain ⟨w1, x, y, u, w2, w3⟩ := e.tp a z
    refine ⟨?_, x, y, u, w2, w3⟩
    rw [upd_ne (fun q => ht (by rw [z, q]))]
    exact w1
theorem DV_lst {Q : Vp → Prop} (h : DVA K t tr ρ fun Φs => Φs.length ≤ 100000 ∧ Q (VLs Φs)) : DV K t (tLst tr) ρ Q := fun F0 H0 F H σ A QK k =>
  h F0 H0 F H σ A _ fun Φs vs F1 H1 hq e1 q1 => by
    have A1 := A.step e1
    refine ⟨Evl.sz_of (by rw [q1.len]; exact hq.1), fun p n => ?_⟩
    have g := Gr.new A1.fh (o := .lst vs) n
    exact k _ _ _ _ hq.2 (e1.trans (A1.stp g)) (vLs_fz ⟨p, vs, rfl, upd_same, q1.up g.ff⟩)
theorem DV_cat {Q : Vp → Prop} (h : DV K t ta ρ fun Φ => ∃ Φs, Φ = VLs Φs ∧ DV K t tb ρ fun Ψ => ∃ Ψs, Ψ = VLs Ψs ∧ Φs.length + Ψs.length ≤ 100000 ∧ Q (VLs (Φs ++ Ψs))) : DV K t (tOp (rPlus K) ta tb) ρ Q := fun F0 H0 F H σ A QK k =>
  h F0 H0 F H σ A _ fun Φ v F1 H1 h1 e1 q1 => by
    obtain ⟨Φs, rfl, h1⟩ := h1
    have A1 := A.step e1
    refine h1 F0 H0 F1 H1 σ A1 _ fun Ψ w F2 H2 h2 e2 q2 => ?_
    obtain ⟨Ψs, rfl, hl, q⟩ := h2
    have A2 := A1.step e2
    obtain ⟨p1, xs, rfl, f1, z1⟩ := (q1.up e2.ff).now
    obtain ⟨p2, ys, rfl, f2, z2⟩ := q2.now
    refine .inr (.inl ⟨p1, p2, xs, ys, rfl, rfl, Evl.ex_l A2.fh (.inl (.inl f1)), Evl.ex_l A2.fh (.inl (.inl f2)), Evl.sz_of (by rw [z1.len, z2.len]; exact hl), fun p n => ?_⟩)
    have g := Gr.new A2.fh (o := .lst (xs ++ ys)) n
    exact k _ _ _ _ q ((e1.trans e2).trans (A2.stp g)) (vLs_fz ⟨p, _, rfl, upd_same, (z1.app z2).up g.ff⟩)
theorem DS_setV (h : DV K t te ρ fun Φ => N (ρ.set i (.pr Φ))) : DS K t (tAsg te (gName i)) ρ N R B C := fun F0 H0 F H σ D A kn kr kb kc =>
  h F0 H0 F H σ A _ fun Φ v F1 H1 q e1 z => kn _ F1 H1 _ q ((A.step e1).set (s := .pr Φ) ⟨v, rfl, z⟩ fun _ e => by cases e) e1.ff
/-- a body that gives such a value back -/
def DSV (K : PySem.W.Frag) (ts : TS) (ρ : Rho) (Q : Vp → Prop) : Prop :=
  ∀ (F0 H0 F H : Hp) (σ : L2.St) (D : Ends), At K none F0 H0 F H σ ρ → (∀ Φ v F' H', Q Φ → Gr none F0 H0 F' H' → Fz Φ F' v → D.rt v H') → ts D σ H
theorem DSV_ret {Q : Vp → Prop} (h : DV K none te ρ Q) : DSV K (tRet te) ρ Q := fun F0 H0 F H σ D A k => h F0 H0 F H σ A _ fun Φ v F1 H1 q e1 z => k Φ v F1 H1 q (A.step e1).gr z
theorem DSV_seq {Q : Vp → Prop} (h : DS K none t1 ρ (fun ρ1 => DSV K t2 ρ1 Q) (fun _ => False) NoR NoR) : DSV K (tSeq t1 t2) ρ Q := fun F0 H0 F H σ D A k =>
  h F0 H0 F H σ { D with nx := t2 D } A (fun r F1 H1 s1 q A1 e1 => q F0 H0 F1 H1 s1 D A1 k) (fun _ _ _ _ q => q.elim) (fun _ _ _ _ q => q.elim) fun _ _ _ _ q => q.elim
/-- a def over data that gives such a value back -/
def spV (K : PySem.W.Frag) (W : List PyData → (Vp → Prop) → Prop) : Sp := fun vs H Q _ => ∃ F ds R, Ex F H ∧ Dqs K F ds vs ∧ W ds R ∧ ∀ Φ v F' H', R Φ → Gr none F H F' H' → Fz Φ F' v → Q v H'
theorem at_start {F H : Hp} {ds : List PyData} {vs : List V} {N : List Str} (e : Ex F H) (z : Dqs K F ds vs) (hl : ds.length ≤ N.length) : At K none F H F H (L2.start N vs) (ds.map Sl.sh ++ List.replicate (N.length - ds.length) Sl.no) := by
  refine ⟨Gr.refl e, ?_, fun i o s h1 h2 => ?_, fun i j p es fs n h1 => ?_, fun a q => by cases q⟩
  · unfold L2.start
    simp [z.len]
  · unfold L2.start at h1
    by_cases hi : i < ds.length
    · rw [List.getElem?_append_left (by simpa [z.len] using hi), List.getElem?_map] at h1
      rw [List.getElem?_append_left (by simpa using hi), List.getElem?_map] at h2
      rw [List.getElem?_eq_getElem hi] at h2
      cases h2
      obtain ⟨v, hv, zd⟩ := z.at (i := i) (List.getElem?_eq_getElem hi)
      rw [hv] at h1
      cases h1
      exact ⟨v, rfl, zd⟩
    · rw [List.getElem?_append_right (by simpa using hi)] at h2
      rw [List.getElem?_replicate] at h2
      split at h2
      · cases h2
        trivial
      · cases h2
  · exfalso
    rcases List.mem_append.mp (List.mem_of_getElem? h1) with q | q
    · obtain ⟨d, _, q⟩ := List.mem_map.mp q
      cases q
    · have := List.eq_of_mem_replicate q
      cases this
theorem run_V {W : List PyData → (Vp → Prop) → Prop} {N : List Str} {vs : List V} {H : Hp} {Q : VK} {E : XK} {ts : TS} (h : spV K W vs H Q E)
    (b : ∀ ds R, W ds R → ds.length ≤ N.length ∧ DSV K ts (ds.map Sl.sh ++ List.replicate (N.length - ds.length) Sl.no) R) : ts { nx := fun _ H' => Q .non H', rt := Q } (L2.start N vs) H := by
  obtain ⟨F, ds, R, e, z, hW, k⟩ := h
  obtain ⟨hl, b⟩ := b ds R hW
  exact b F H F H _ _ (at_start e z hl) k
theorem DV_call {W : List PyData → (Vp → Prop) → Prop} {E : XK} {Q : Vp → Prop} (h : DA K t tr ρ fun ds => W ds Q) : DV K t (tCall (spV K W) [] E tr) ρ Q := fun F0 H0 F H σ A QK k =>
  h F0 H0 F H σ A _ fun ds vs F1 H1 hq e1 z => ⟨F1, ds, Q, e1.g.fh, by rw [List.append_nil]; exact z, hq, fun d v F' H' q g zd => k d v F' H' q (e1.trans ((A.step e1).stp g)) zd⟩
/-- a def over one such value that gives data -/
def spQ (K : PySem.W.Frag) (W : Vp → (PyData → Prop) → Prop) : Sp := fun vs H Q _ => ∃ F v Φ R, vs = [v] ∧ Ex F H ∧ Fz Φ F v ∧ W Φ R ∧ ∀ d u F' H', R d → Gr none F H F' H' → Dq K F' d u → Q u H'
theorem run_Q {W : Vp → (PyData → Prop) → Prop} {N : List Str} {vs : List V} {H : Hp} {Q : VK} {E : XK} {ts : TS} (hN : 1 ≤ N.length) (h : spQ K W vs H Q E)
    (b : ∀ Φ R, W Φ R → DS K none ts (Sl.pr Φ :: List.replicate (N.length - 1) Sl.no) (fun _ => R .none) R NoR NoR) : ts { nx := fun _ H' => Q .non H', rt := Q } (L2.start N vs) H := by
  obtain ⟨F, v, Φ, R, rfl, e, z, hW, k⟩ := h
  have A : At K none F H F H (L2.start N [v]) (Sl.pr Φ :: List.replicate (N.length - 1) Sl.no) := by
    refine ⟨Gr.refl e, ?_, fun i o s h1 h2 => ?_, fun i j p es fs n h1 => ?_, fun a q => by cases q⟩
    · unfold L2.start
      simp
    · unfold L2.start at h1
      cases i with
      | zero =>
        cases h2
        simp at h1
        subst h1
        exact ⟨v, rfl, z⟩
      | succ i =>
        rw [List.getElem?_cons_succ, List.getElem?_replicate] at h2
        split at h2
        · cases h2
          trivial
        · cases h2
    · exfalso
      rcases List.mem_cons.mp (List.mem_of_getElem? h1) with q | q
      · cases q
      · cases List.eq_of_mem_replicate q
  exact b Φ R hW F H F H _ _ A (fun _ F' H' _ q A' e => k _ _ F' H' q A'.gr .non) (fun d v F' H' q g _ z => k d v F' H' q g z) (fun _ _ _ _ q => q.elim) fun _ _ _ _ q => q.elim
theorem DE_callQ {W : Vp → (PyData → Prop) → Prop} {E : XK} {Q : PyData → Prop} (h : DV K t te ρ fun Φ => W Φ Q) : DE K t (tCall (spQ K W) [] E (tCons te tNil)) ρ Q := fun F0 H0 F H σ A QK k =>
  h F0 H0 F H σ A _ fun Φ v F1 H1 hq e1 z => ⟨F1, v, Φ, Q, rfl, e1.g.fh, z, hq, fun d u F' H' q g zd => k d u F' H' q (e1.trans ((A.step e1).stp g)) zd⟩
/-- isinstance(e, X) -/
theorem DE_isEr {c : V} {Q : PyData → Prop} (h : DV K t te ρ fun Φ => ∃ C fd cv b, Φ = VEr K C fd ∧ ExcC K C ∧ (∀ u, RelV c u → u = cv) ∧ PySem.W.kitOne K (.ref C) cv = some b ∧ Q (.bool b)) : DE K t (tCB (rIsEr K) (tCons te (tCons (tC c) tNil))) ρ Q := fun F0 H0 F H σ A QK k =>
  h F0 H0 F H σ A _ fun Φ v F1 H1 hq e1 z => by
    obtain ⟨C, fd, cv, b, rfl, hE, hc, hk, q⟩ := hq
    obtain ⟨a, fs, rfl, ha, _⟩ := z.now
    exact ⟨a, C, fs, c, cv, b, rfl, ha.up (A.step e1).fh, hE, hc, hk, k _ _ F1 H1 q e1 (.bl b)⟩
/-- e.x -/
theorem DE_erF {x : Str} {Q : PyData → Prop} (h : DV K t te ρ fun Φ => ∃ C d, Φ = VEr K C (some (x, d)) ∧ XfC K C ∧ PySem.W.findIn K (.ref C) x = some none ∧ Q d) : DE K t (tErF K x te) ρ Q := fun F0 H0 F H σ A QK k =>
  h F0 H0 F H σ A _ fun Φ v F1 H1 hq e1 z => by
    obtain ⟨C, d, rfl, hX, hn, q⟩ := hq
    obtain ⟨a, fs, rfl, ha, hf⟩ := z.now
    obtain ⟨u, l, zd⟩ := hf x d rfl
    exact ⟨a, C, fs, u, rfl, ha.up (A.step e1).fh, hX, hn, l, k d u F1 H1 q e1 zd⟩
/-- len of a list of such values -/
theorem DE_lenV {Φs : List Vp} {Q : PyData → Prop} (h : ρ[i]? = some (.pr (VLs Φs))) (q : Q (.int Φs.length)) : DE K t (tCB (rLenA K) (tCons (tVar i) tNil)) ρ Q := fun F0 H0 F H σ A QK k => by
  obtain ⟨o, e, v, rfl, z⟩ := A.slot h
  obtain ⟨p, xs, rfl, f, zs⟩ := (show Fz (VLs Φs) F v from z).now
  exact ⟨_, e, .inl ⟨p, xs, rfl, .inl (Evl.ex_l A.fh (.inl (.inl f))), by rw [zs.len]; exact k _ _ F H q A.rfl (.int _)⟩⟩
/-- xs[i] -/
theorem DV_ix {Φs : List Vp} {Q : Vp → Prop} (h : ρ[i]? = some (.pr (VLs Φs))) (hb : DE K t tb ρ fun d => ∃ n : Int, d = .int n ∧ ∃ k : Nat, ∃ Φ, (n = k ∨ n = (k : Int) - Φs.length) ∧ Φs[k]? = some Φ ∧ Q Φ) : DV K t (tOp (rIx K) (tVar i) tb) ρ Q := fun F0 H0 F H σ A QK k => by
  obtain ⟨o, e, v, rfl, z⟩ := A.slot h
  refine ⟨v, e, hb F0 H0 F H σ A _ fun d u F1 H1 hq e1 zd => ?_⟩
  obtain ⟨n, rfl, m, Φ, hn, hm, q⟩ := hq
  cases zd
  obtain ⟨p, xs, rfl, f, zs⟩ := ((show Fz (VLs Φs) F v from z).up e1.ff).now
  obtain ⟨w, hw, zw⟩ := zs.at hm
  have hlt : m < xs.length := (List.getElem?_eq_some_iff.mp hw).1
  have e2 : atI xs n = some w := by
    rcases hn with rfl | rfl
    · exact atI_nat hw
    · unfold atI ixN
      rw [← zs.len, if_neg (by omega), if_pos (by omega), show ((m : Int) - xs.length + xs.length).toNat = m by omega]
      exact hw
  exact .inl ⟨p, xs, n, w, rfl, rfl, Evl.ex_l (A.step e1).fh (.inl (.inl f)), e2, k _ _ F1 H1 q e1 zw⟩
end
end Cf
/-! how long texts of data are -/
namespace Cf
open PySem
structure Shw (n k : Nat) (d : PyData) : Prop where
  sb : d.showable = true
  ln : d.shown.length ≤ n
  dp : d.depth ≤ k
theorem Shw.up {n m k j : Nat} {d : PyData} (h : Shw n k d) (hn : n ≤ m) (hk : k ≤ j) : Shw m j d := ⟨h.sb, Nat.le_trans h.ln hn, Nat.le_trans h.dp hk⟩
theorem shw_int {i : Int} (h : i.natAbs < 10 ^ 45) : Shw 64 0 (.int i) := by
  refine ⟨?_, ?_, by simp only [PyData.depth]; exact Nat.le_refl _⟩
  · simp only [PyData.showable]
    refine decide_eq_true (Nat.lt_of_lt_of_le (PySem.Flt.log2_lt_of (k := 160) (by decide) (Nat.lt_of_lt_of_le h (by decide))) (by decide))
  · have e := int_text_length_le10 (k := 45) (by decide) h
    clear h
    simp only [PyData.shown]
    rw [show (toString i : Str).length = (toString i : String).length from ofString_length _]
    omega
theorem shw_all {n k : Nat} : ∀ ds : List PyData, (∀ d ∈ ds, Shw n k d) → PyData.showableAll ds = true ∧ ((PyData.shownAll ds).map (·.length)).sum ≤ ds.length * n ∧ (PyData.shownAll ds).length = ds.length ∧ PyData.depthAll ds ≤ k
  | [], _ => ⟨by simp only [PyData.showableAll], by simp [PyData.shownAll], by simp only [PyData.shownAll]; rfl, by simp only [PyData.depthAll]; omega⟩
  | d :: ds, h => by
    obtain ⟨h1, h2, h3, h4⟩ := shw_all ds fun x hx => h x (List.mem_cons_of_mem _ hx)
    have hd := h d List.mem_cons_self
    refine ⟨?_, ?_, ?_, ?_⟩
    · simp only [PyData.showableAll, hd.sb, h1, Bool.and_self]
    · simp only [PyData.shownAll, List.map_cons, List.sum_cons, List.length_cons]
      have := hd.ln
      rw [Nat.add_mul, Nat.one_mul]
      omega
    · simp only [PyData.shownAll, List.length_cons, h3]
    · simp only [PyData.depthAll]
      exact Nat.max_le.mpr ⟨hd.dp, h4⟩
theorem shw_list {n k : Nat} {ds : List PyData} (h : ∀ d ∈ ds, Shw n k d) : Shw (ds.length * (n + 2) + 3) (k + 1) (.list ds) := by
  obtain ⟨h1, h2, h3, h4⟩ := shw_all ds h
  refine ⟨by simp only [PyData.showable, h1], ?_, by simp only [PyData.depth]; omega⟩
  have e := listText_len_le (PyData.shownAll ds)
  simp only [PyData.shown]
  rw [Nat.mul_add]
  omega
theorem shw_non : Shw 64 0 .none := ⟨by decide +kernel, by decide +kernel, by decide +kernel⟩
end Cf
namespace Cf
open PySem PySem.Spec PyProof.Rows L2
open Evl (Ex)
local macro_rules | `(tactic| walk_at "d") => `(tactic| first
  | (with_reducible refine DS_seq ?_)
  | (with_reducible refine DS_if ?_)
  | (with_reducible refine DS_ret ?_)
  | (with_reducible refine DS_next ?_)
  | (with_reducible refine DS_retN ?_)
  | (with_reducible refine DS_set ?_)
  | (with_reducible refine DS_drop ?_)
  | (with_reducible refine DS_unpack ?_)
  | (with_reducible refine DS_par ?_)
  | (with_reducible refine DE_int ?_)
  | (with_reducible refine DE_bl ?_)
  | (with_reducible refine DE_non ?_)
  | (with_reducible refine DE_str ?_)
  | (with_reducible refine DE_isi ?_)
  | (with_reducible refine DE_and ?_)
  | (with_reducible refine DE_or ?_)
  | (with_reducible refine DE_not ?_)
  | (with_reducible refine DE_if ?_)
  | (with_reducible refine DE_chain ?_)
  | (with_reducible refine DE_tyIs ?_)
  | (with_reducible refine DE_tyNot ?_)
  | (with_reducible refine DE_call ?_)
  | (with_reducible refine DE_cb ?_)
  | (with_reducible refine DE_op ?_)
  | (with_reducible refine DE_un ?_)
  | (with_reducible refine DE_tup ?_)
  | (with_reducible refine DT_test ?_)
  | (with_reducible refine DT_B ?_)
  | (with_reducible refine DT_and ?_)
  | (with_reducible refine DT_or ?_)
  | (with_reducible refine DT_not ?_)
  | (with_reducible refine DT_yes ?_)
  | (with_reducible refine DA_nil ?_)
  | (with_reducible refine DA_cons ?_)
  | (with_reducible refine DO_no ?_)
  | (with_reducible refine DO_at ?_)
  | (with_reducible refine DR_minus ?_)
  | (with_reducible refine DR_mod ?_)
  | (with_reducible refine DR_div ?_)
  | (with_reducible refine DR_pow ?_)
  | (with_reducible refine DR_lt ?_)
  | (with_reducible refine DR_le ?_)
  | (with_reducible refine DR_gt ?_)
  | (with_reducible refine DR_ge ?_)
  | (with_reducible refine DR_eq ?_)
  | (with_reducible refine DR_ne ?_)
  | (with_reducible refine DR_isN ?_)
  | (with_reducible refine DR_notN ?_)
  | (with_reducible refine DU_neg ?_)
  | (with_reducible refine DC_len ?_)
  | (with_reducible refine DC_int ?_)
  | (with_reducible refine DC_abs ?_)
  | (with_reducible refine DC_max2 ?_)
  | (with_reducible refine DC_min2 ?_)
  | (with_reducible refine DC_sum ?_)
  | (with_reducible refine DC_all ?_)
  | (with_reducible refine DC_any ?_)
  | (with_reducible refine DC_repr ?_)
  | (with_reducible refine ⟨_, kb_int _, ?_⟩)
  | (with_reducible refine ⟨_, kb_bool _, ?_⟩)
  | (with_reducible refine ⟨_, kb_list _, ?_⟩)
  | (with_reducible refine ⟨_, kb_tuple _, ?_⟩)
  | (with_reducible refine ⟨_, rfl, ?_⟩)
  | (with_reducible refine ⟨_, _, rfl, rfl, ?_⟩)
  | ((with_reducible refine' DE_var ?k1 ?_); (case k1 => exact rfl)))


theorem big_lt {b : Int} (h : b < 2 ^ 200) : b < 2 ^ 8000 := Int.lt_of_lt_of_le h (pow_mono (by decide) (by decide))
/-- x[..] of a list is new data -/
theorem DE_lst0 {K : PySem.W.Frag} {t : Option Addr} {ρ : Rho} {Q : PyData → Prop} (q : Q (.list [])) : DE K t (tLst tNil) ρ Q := DE_new (DL_lst (DA_nil ⟨by decide, q⟩))
abbrev KeepsF (W : List PyData → (List PyData → Prop) → Prop) (n : Nat) (tb : PySem.W.Frag → TS) : Prop :=
  ∀ (K : PySem.W.Frag) (ds : List PyData) (R : List PyData → Prop), W ds R → ds.length ≤ n ∧ DSF K (tb K) (ds.map Sl.sh ++ List.replicate (n - ds.length) Sl.no) R

def W__law_tap (ds : List PyData) (R : List PyData → Prop) : Prop := ∃ c t : Int, ds = [.int c, .int t] ∧ 0 ≤ t ∧ t < 1000 ∧ ∀ x y z : Int, Tap x y z → R [.int x, .int y, .int z]
def t__law_tap (K : PySem.W.Frag) : TS :=
  (tSeq (tAsg (tOp (rPlus K) (tOp rTimes (tC (.int 2)) (tCB rAbsA (tCons (tVar 0) tNil))) (tCB rIntA (tCons (tOp rLtI (tVar 0) (tC (.int 0))) tNil))) (gName 2))
    (tRet (tLst (tCons (tVar 2) (tCons (tOp (rPlus K) (tOp (rPlus K) (tOp rModI (tCB rIntA (tCons (tVar 2) tNil)) (tC (.int 4294967291))) (tOp rTimes (tC (.int 977)) (tVar 1))) (tC (.int 1))) (tCons (tOp (rPlus K) (tOp (rPlus K) (tOp rModI (tCB rIntA (tCons (tVar 2) tNil)) (tC (.int 2147483587))) (tOp rTimes (tC (.int 31)) (tVar 1))) (tC (.int 2))) tNil))))))
theorem ds__law_tap : KeepsF W__law_tap 3 t__law_tap := by
  intro K ds R h
  obtain ⟨c, t, rfl, t0, t1, q⟩ := h
  refine ⟨by simp, ?_⟩
  show DSF K (t__law_tap K) [.sh (.int c), .sh (.int t), .no] _
  unfold t__law_tap
  refine DSF_set ?_
  repeat walk_at "d"
  refine DR_timesI ⟨_, _, rfl, rfl, .inl ⟨by decide, by decide⟩, ?_⟩
  repeat walk_at "d"
  refine .inr ⟨_, rfl, DR_plusI ⟨_, _, rfl, rfl, ?_⟩⟩
  generalize hw : 2 * (if c < 0 then -c else c) + (if decide (c < 0) = true then 1 else 0) = w
  have w0 : 0 ≤ w := by
    subst hw
    split <;> split <;> omega
  refine DSF_ret (DL_lst ?_)
  repeat walk_at "d"
  refine .inl ⟨_, rfl, ?_⟩
  repeat walk_at "d"
  refine ⟨by decide, ?_⟩
  repeat walk_at "d"
  refine DR_timesI ⟨_, _, rfl, rfl, .inl ⟨by decide, by decide⟩, ?_⟩
  refine DR_plusI ⟨_, _, rfl, rfl, ?_⟩
  repeat walk_at "d"
  refine DR_plusI ⟨_, _, rfl, rfl, ?_⟩
  repeat walk_at "d"
  refine .inl ⟨_, rfl, ?_⟩
  repeat walk_at "d"
  refine ⟨by decide, ?_⟩
  repeat walk_at "d"
  refine DR_timesI ⟨_, _, rfl, rfl, .inl ⟨by decide, by decide⟩, ?_⟩
  refine DR_plusI ⟨_, _, rfl, rfl, ?_⟩
  repeat walk_at "d"
  refine DR_plusI ⟨_, _, rfl, rfl, ?_⟩
  repeat walk_at "d"
  exact ⟨by simp, q _ _ _ ⟨w0, by omega, by omega, by omega, by omega⟩⟩

def W__law_cells (ds : List PyData) (R : PyData → Prop) : Prop := ∃ (ns : List Int) (m : Int), ds = [LI ns, .int m] ∧ ns.length ≤ 63 ∧ ∀ cs : List Int, cs.length ≤ 64 → R (LI cs)
def t__law_cells (K : PySem.W.Frag) : TS :=
  (tRet (tSl (rSlL K) (tOp (rPlus K) (tVar 0) (tLst (tCons (tC (.int 0)) tNil))) tNoPart (tPart (tCB rMax2A (tCons (tC (.int 1)) (tCons (tCB rMin2A (tCons (tVar 1) (tCons (tCB (rLenA K) (tCons (tVar 0) tNil)) tNil))) tNil))))))
theorem cutD_map {α : Type} (f : α → PyData) (l : List α) (lo hi : Option Int) : ∃ m : List α, cutD (l.map f) lo hi = m.map f ∧ m.length ≤ l.length := by
  unfold cutD
  rw [← List.map_drop, ← List.map_take]
  exact ⟨_, rfl, by rw [List.length_take, List.length_drop]; omega⟩
theorem ds__law_cells : Keeps W__law_cells 2 t__law_cells := by
  intro K ds R h
  obtain ⟨ns, m, rfl, hl, q⟩ := h
  refine ⟨by simp, ?_⟩
  show DS K _ (t__law_cells K) [.sh (LI ns), .sh (.int m)] _ _ _ _
  unfold t__law_cells
  refine DS_ret (DE_new (DL_sl ?_))
  refine DE_new (DL_op ?_)
  repeat walk_at "d"
  refine DE_new (DL_lst ?_)
  repeat walk_at "d"
  refine ⟨by simp, DRL_cat ⟨_, _, rfl, rfl, by simp; omega, ?_⟩⟩
  repeat walk_at "d"
  have e : ns.map PyData.int ++ [.int 0] = (ns ++ [0]).map PyData.int := by simp
  rw [e]
  refine ⟨_, _, rfl, ?_⟩
  repeat walk_at "d"
  refine ⟨_, _, rfl, ?_⟩
  repeat walk_at "d"
  obtain ⟨cs, ec, lc⟩ := cutD_map PyData.int (ns ++ [0]) none (some (max 1 (min m (ns.map PyData.int).length)))
  rw [ec]
  exact q cs (by rw [List.length_append] at lc; simp at lc; omega)

def W__law_many (ds : List PyData) (R : PyData → Prop) : Prop := ∃ s l : Int, ds = [.int s, .int l] ∧ 2 ≤ s ∧ s ≤ 4 ∧ R (.int (s ^ l.toNat))
def t__law_many (K : PySem.W.Frag) : TS :=
  (tSeq (tAsg (tC (.int 1)) (gName 2))
    (tSeq (tFor (iRg1 (tCons (tVar 1) tNil)) (gName 3)
    (tAsg (tOp rTimes (tVar 2) (tVar 0)) (gName 2)))
    (tRet (tVar 2))))
def W__law_number (ds : List PyData) (R : PyData → Prop) : Prop := ∃ (s : Int) (r : List Int) (z : Int) (l : Nat), ds = [.int s, LI r, .int z, .int l] ∧ 2 ≤ s ∧ s ≤ 4 ∧ r ≠ [] ∧ R (.int (num s (win r z l)))
def t__law_number (K : PySem.W.Frag) : TS :=
  (tSeq (tAsg (tC (.int 0)) (gName 4))
    (tSeq (tFor (iRg1 (tCons (tVar 3) tNil)) (gName 5)
    (tAsg (tOp (rPlus K) (tOp rTimes (tVar 4) (tVar 0)) (tOp (rIx K) (tVar 1) (tOp rModI (tCB rIntA (tCons (tOp (rPlus K) (tVar 2) (tVar 5)) tNil)) (tCB (rLenA K) (tCons (tVar 1) tNil))))) (gName 4)))
    (tRet (tVar 4))))
def W__law_widest (ds : List PyData) (R : PyData → Prop) : Prop := ∃ s w : Int, ds = [.int s, .int w] ∧ 2 ≤ s ∧ s ≤ 4 ∧ s ≤ w ∧ ∀ n : Nat, 1 ≤ n → s ^ n ≤ w → R (.int n)
def t__law_widest (K : PySem.W.Frag) : TS :=
  (tSeq (tAsg (tC (.int 1)) (gName 2))
    (tSeq (tWhile (tTest (tOp rLeI (tCall (spP K W__law_many) [] E0 (tCons (tVar 0) (tCons (tOp (rPlus K) (tVar 2) (tC (.int 1))) tNil))) (tVar 1)))
    (tAsg (tOp (rPlus K) (tVar 2) (tC (.int 1))) (gName 2)))
    (tRet (tVar 2))))
end Cf
namespace Cf
open PySem PySem.Spec PyProof.Rows L2
open Evl (Ex)
local macro_rules | `(tactic| walk_at "d") => `(tactic| first
  | (with_reducible refine DS_seq ?_)
  | (with_reducible refine DS_if ?_)
  | (with_reducible refine DS_ret ?_)
  | (with_reducible refine DS_next ?_)
  | (with_reducible refine DS_retN ?_)
  | (with_reducible refine DS_set ?_)
  | (with_reducible refine DS_drop ?_)
  | (with_reducible refine DS_unpack ?_)
  | (with_reducible refine DS_par ?_)
  | (with_reducible refine DE_int ?_)
  | (with_reducible refine DE_bl ?_)
  | (with_reducible refine DE_non ?_)
  | (with_reducible refine DE_str ?_)
  | (with_reducible refine DE_isi ?_)
  | (with_reducible refine DE_and ?_)
  | (with_reducible refine DE_or ?_)
  | (with_reducible refine DE_not ?_)
  | (with_reducible refine DE_if ?_)
  | (with_reducible refine DE_chain ?_)
  | (with_reducible refine DE_tyIs ?_)
  | (with_reducible refine DE_tyNot ?_)
  | (with_reducible refine DE_call ?_)
  | (with_reducible refine DE_cb ?_)
  | (with_reducible refine DE_op ?_)
  | (with_reducible refine DE_un ?_)
  | (with_reducible refine DE_tup ?_)
  | (with_reducible refine DT_test ?_)
  | (with_reducible refine DT_B ?_)
  | (with_reducible refine DT_and ?_)
  | (with_reducible refine DT_or ?_)
  | (with_reducible refine DT_not ?_)
  | (with_reducible refine DT_yes ?_)
  | (with_reducible refine DA_nil ?_)
  | (with_reducible refine DA_cons ?_)
  | (with_reducible refine DO_no ?_)
  | (with_reducible refine DO_at ?_)
  | (with_reducible refine DR_minus ?_)
  | (with_reducible refine DR_mod ?_)
  | (with_reducible refine DR_div ?_)
  | (with_reducible refine DR_pow ?_)
  | (with_reducible refine DR_lt ?_)
  | (with_reducible refine DR_le ?_)
  | (with_reducible refine DR_gt ?_)
  | (with_reducible refine DR_ge ?_)
  | (with_reducible refine DR_eq ?_)
  | (with_reducible refine DR_ne ?_)
  | (with_reducible refine DR_isN ?_)
  | (with_reducible refine DR_notN ?_)
  | (with_reducible refine DU_neg ?_)
  | (with_reducible refine DC_len ?_)
  | (with_reducible refine DC_int ?_)
  | (with_reducible refine DC_abs ?_)
  | (with_reducible refine DC_max2 ?_)
  | (with_reducible refine DC_min2 ?_)
  | (with_reducible refine DC_sum ?_)
  | (with_reducible refine DC_all ?_)
  | (with_reducible refine DC_any ?_)
  | (with_reducible refine DC_repr ?_)
  | (with_reducible refine ⟨_, kb_int _, ?_⟩)
  | (with_reducible refine ⟨_, kb_bool _, ?_⟩)
  | (with_reducible refine ⟨_, kb_list _, ?_⟩)
  | (with_reducible refine ⟨_, kb_tuple _, ?_⟩)
  | (with_reducible refine ⟨_, rfl, ?_⟩)
  | (with_reducible refine ⟨_, _, rfl, rfl, ?_⟩)
  | ((with_reducible refine' DE_var ?k1 ?_); (case k1 => exact rfl)))


def W__law_ring (ds : List PyData) (R : PyData → Prop) : Prop := ∃ s c : Int, ds = [.int s, .int c] ∧ 2 ≤ s ∧ s ≤ 4 ∧ 1 ≤ c ∧ c ≤ 512 ∧ ∀ r : List Int, r ≠ [] → (r.length : Int) ≤ c → Signs s r → R (LI r)
def t__law_ring (K : PySem.W.Frag) : TS :=
  (tSeq (tAsg (tTup (tCons (tOp (rPlus K) (tC (.int 1)) (tCall (spT K W__law_draw) [] E0 (tCons (tVar 0) (tCons (tVar 2) tNil)))) (tCons (tCall (spT K W__law_draw) [] E0 (tCons (tVar 0) (tCons (tC (.int 4)) tNil))) tNil))) (gTup K 2 (gNames [3, 4])))
    (tSeq (tIfS (tTest (tOp (rEqU K) (tVar 4) (tC (.int 3))))
    (tSeq (tAsg (tLc (iRg1 (tCons (tOp (rPlus K) (tC (.int 1)) (tCall (spT K W__law_draw) [] E0 (tCons (tVar 0) (tCons (tC (.int 4)) tNil)))) tNil)) (gName 6) tYes (tCall (spT K W__law_draw) [] E0 (tCons (tVar 0) (tCons (tVar 1) tNil))) [6]) (gName 5))
    (tRet (tLc (iRg1 (tCons (tVar 3) tNil)) (gName 7) tYes (tOp (rIx K) (tVar 5) (tOp rModI (tCB rIntA (tCons (tVar 7) tNil)) (tCB (rLenA K) (tCons (tVar 5) tNil)))) [7])))
    tNext)
    (tRet (tLc (iRg1 (tCons (tVar 3) tNil)) (gName 7) tYes (tIf (tOr (tTest (tOp rGtI (tVar 4) (tC (.int 0)))) (tTest (tOp (rEqU K) (tCall (spT K W__law_draw) [] E0 (tCons (tVar 0) (tCons (tC (.int 4)) tNil))) (tC (.int 0))))) (tCall (spT K W__law_draw) [] E0 (tCons (tVar 0) (tCons (tVar 1) tNil))) (tC (.int 0))) [7]))))
def top_ : Int := 10 ^ 39
def W__law_weight (ds : List PyData) (R : PyData → Prop) : Prop := ∃ s w top : Int, ds = [.int s, .int w, .int top] ∧ 2 ≤ s ∧ s ≤ 4 ∧ s ≤ w ∧ w ≤ 1024 ∧ 0 ≤ top ∧ top ≤ top_ ∧ ∀ (l : Nat) (vs : List Int), Wt s l vs → s ^ l ≤ w → (∀ v ∈ vs, -top ≤ v ∧ v ≤ top) → R (wtD s l vs)
def t__law_weight (K : PySem.W.Frag) : TS :=
  (tSeq (tPar 4 5 (tCons (tOp (rPlus K) (tC (.int 1)) (tCall (spT K W__law_draw) [] E0 (tCons (tVar 0) (tCons (tCall (spP K W__law_widest) [] E0 (tCons (tVar 1) (tCons (tVar 2) tNil))) tNil)))) (tCons (tCall (spT K W__law_draw) [] E0 (tCons (tVar 0) (tCons (tC (.int 3)) tNil))) tNil)))
    (tSeq (tAsg (tLc (iRg1 (tCons (tCall (spP K W__law_many) [] E0 (tCons (tVar 1) (tCons (tVar 4) tNil))) tNil)) (gName 7) tYes (tOp rMinus (tCall (spT K W__law_draw) [] E0 (tCons (tVar 0) (tCons (tOp (rPlus K) (tOp rTimes (tC (.int 2)) (tVar 3)) (tC (.int 1))) tNil))) (tVar 3)) [7]) (gName 6))
    (tSeq (tIfS (tTest (tOp (rEqU K) (tVar 5) (tC (.int 0))))
    (tAsg (tLc (iList K (tVar 6)) (gName 8) tYes (tIf (tTest (tOp (rEqU K) (tCall (spT K W__law_draw) [] E0 (tCons (tVar 0) (tCons (tC (.int 3)) tNil))) (tC (.int 0)))) (tVar 8) (tC (.int 0))) [8]) (gName 6))
    tNext)
    (tRet (tTup (tCons (tVar 1) (tCons (tVar 4) (tCons (tVar 6) tNil))))))))
def W__law_sum (ds : List PyData) (R : PyData → Prop) : Prop := ∃ (s : Int) (l : Nat) (vs r : List Int), ds = [wtD s l vs, LI r] ∧ Wt s l vs ∧ r ≠ [] ∧ r.length ≤ 5000 ∧ Signs s r ∧ R (.int (ringSum s l vs r))
def t__law_sum (K : PySem.W.Frag) : TS :=
  (tSeq (tAsg (tVar 0) (gTup K 3 (gNames [2, 3, 4])))
    (tRet (tCB (rSum K) (tCons (tLc (iRg1 (tCons (tCB (rLenA K) (tCons (tVar 1) tNil)) tNil)) (gName 5) tYes (tOp (rIx K) (tVar 4) (tCall (spP K W__law_number) [] E0 (tCons (tVar 2) (tCons (tVar 1) (tCons (tVar 5) (tCons (tVar 3) tNil)))))) [5]) tNil))))
def W__law_same (ds : List PyData) (R : PyData → Prop) : Prop := ∃ (a b : PyData) (vs : List PyData), ds = [.tuple [a, b, .list vs]] ∧ R (.tuple [a, b, .list vs])
def t__law_same (K : PySem.W.Frag) : TS :=
  (tRet (tTup (tCons (tOp (rIx K) (tVar 0) (tC (.int 0))) (tCons (tOp (rIx K) (tVar 0) (tC (.int 1))) (tCons (tCB (rListA K) (tCons (tOp (rIx K) (tVar 0) (tC (.int 2))) tNil)) tNil)))))
def W__law_is_whole (ds : List PyData) (R : PyData → Prop) : Prop := ∃ x, ds = [x] ∧ R (.bool (isInt x))
def t__law_is_whole (K : PySem.W.Frag) : TS :=
  (tRet (tAndV (tCB (rIsi K) (tCons (tVar 0) (tCons (tC (.ty "int")) tNil))) (tNotV (tCB (rIsi K) (tCons (tVar 0) (tCons (tC (.ty "bool")) tNil))))))
end Cf
namespace Cf
open PySem PySem.Spec PyProof.Rows L2
open Evl (Ex)
local macro_rules | `(tactic| walk_at "d") => `(tactic| first
  | (with_reducible refine DS_seq ?_)
  | (with_reducible refine DS_if ?_)
  | (with_reducible refine DS_ret ?_)
  | (with_reducible refine DS_next ?_)
  | (with_reducible refine DS_retN ?_)
  | (with_reducible refine DS_set ?_)
  | (with_reducible refine DS_drop ?_)
  | (with_reducible refine DS_unpack ?_)
  | (with_reducible refine DS_par ?_)
  | (with_reducible refine DE_int ?_)
  | (with_reducible refine DE_bl ?_)
  | (with_reducible refine DE_non ?_)
  | (with_reducible refine DE_str ?_)
  | (with_reducible refine DE_isi ?_)
  | (with_reducible refine DE_and ?_)
  | (with_reducible refine DE_or ?_)
  | (with_reducible refine DE_not ?_)
  | (with_reducible refine DE_if ?_)
  | (with_reducible refine DE_chain ?_)
  | (with_reducible refine DE_tyIs ?_)
  | (with_reducible refine DE_tyNot ?_)
  | (with_reducible refine DE_call ?_)
  | (with_reducible refine DE_cb ?_)
  | (with_reducible refine DE_op ?_)
  | (with_reducible refine DE_un ?_)
  | (with_reducible refine DE_tup ?_)
  | (with_reducible refine DT_test ?_)
  | (with_reducible refine DT_B ?_)
  | (with_reducible refine DT_and ?_)
  | (with_reducible refine DT_or ?_)
  | (with_reducible refine DT_not ?_)
  | (with_reducible refine DT_yes ?_)
  | (with_reducible refine DA_nil ?_)
  | (with_reducible refine DA_cons ?_)
  | (with_reducible refine DO_no ?_)
  | (with_reducible refine DO_at ?_)
  | (with_reducible refine DR_minus ?_)
  | (with_reducible refine DR_mod ?_)
  | (with_reducible refine DR_div ?_)
  | (with_reducible refine DR_pow ?_)
  | (with_reducible refine DR_lt ?_)
  | (with_reducible refine DR_le ?_)
  | (with_reducible refine DR_gt ?_)
  | (with_reducible refine DR_ge ?_)
  | (with_reducible refine DR_eq ?_)
  | (with_reducible refine DR_ne ?_)
  | (with_reducible refine DR_isN ?_)
  | (with_reducible refine DR_notN ?_)
  | (with_reducible refine DU_neg ?_)
  | (with_reducible refine DC_len ?_)
  | (with_reducible refine DC_int ?_)
  | (with_reducible refine DC_abs ?_)
  | (with_reducible refine DC_max2 ?_)
  | (with_reducible refine DC_min2 ?_)
  | (with_reducible refine DC_sum ?_)
  | (with_reducible refine DC_all ?_)
  | (with_reducible refine DC_any ?_)
  | (with_reducible refine DC_repr ?_)
  | (with_reducible refine ⟨_, kb_int _, ?_⟩)
  | (with_reducible refine ⟨_, kb_bool _, ?_⟩)
  | (with_reducible refine ⟨_, kb_list _, ?_⟩)
  | (with_reducible refine ⟨_, kb_tuple _, ?_⟩)
  | (with_reducible refine ⟨_, rfl, ?_⟩)
  | (with_reducible refine ⟨_, _, rfl, rfl, ?_⟩)
  | ((with_reducible refine' DE_var ?k1 ?_); (case k1 => exact rfl)))


def W__law_is_weight (ds : List PyData) (R : PyData → Prop) : Prop := ∃ x, ds = [x] ∧ shortW x = true ∧ R (.bool (isWeight x))
def t__law_is_weight (K : PySem.W.Frag) : TS :=
  (tSeq (tIfS (tOr (tNot (tB (tCB (rIsi K) (tCons (tVar 0) (tCons (tC (.ty "tuple")) tNil))))) (tOr (tTest (tOp (rNeU K) (tCB (rLenA K) (tCons (tVar 0) tNil)) (tC (.int 3)))) (tTest (tOp (rNeU K) (tLc (iTup K (tSl (rSlT K) (tVar 0) tNoPart (tPart (tC (.int 2))))) (gName 1) (tNot (tB (tCall (spP K W__law_is_whole) [] E0 (tCons (tVar 1) tNil)))) (tVar 1) [1]) (tLst tNil)))))
    (tRet (tC (.bl false)))
    tNext)
    (tSeq (tAsg (tVar 0) (gTup K 3 (gNames [2, 3, 4])))
    (tSeq (tIfS (tOr (tNot (tTest (tChain rLeI rLeI (tC (.int 2)) (tVar 2) (tC (.int 4))))) (tOr (tNot (tTest (tChain rLeI rLeI (tC (.int 1)) (tVar 3) (tC (.int 10))))) (tOr (tTest (tOp rGtI (tCall (spP K W__law_many) [] E0 (tCons (tVar 2) (tCons (tVar 3) tNil))) (tC (.int 1024)))) (tNot (tB (tCB (rIsi K) (tCons (tVar 4) (tCons (tC (.ty "list")) tNil))))))))
    (tRet (tC (.bl false)))
    tNext)
    (tRet (tAndV (tOp (rEqU K) (tCB (rLenA K) (tCons (tVar 4) tNil)) (tCall (spP K W__law_many) [] E0 (tCons (tVar 2) (tCons (tVar 3) tNil)))) (tOp (rEqU K) (tLc (iList K (tVar 4)) (gName 1) (tNot (tB (tCall (spP K W__law_is_whole) [] E0 (tCons (tVar 1) tNil)))) (tVar 1) [1]) (tLst tNil)))))))
end Cf
namespace Cf
open PySem PySem.Spec PyProof.Rows L2
open Evl (Ex)
local macro_rules | `(tactic| walk_at "d") => `(tactic| first
  | (with_reducible refine DS_seq ?_)
  | (with_reducible refine DS_if ?_)
  | (with_reducible refine DS_ret ?_)
  | (with_reducible refine DS_next ?_)
  | (with_reducible refine DS_retN ?_)
  | (with_reducible refine DS_set ?_)
  | (with_reducible refine DS_drop ?_)
  | (with_reducible refine DS_unpack ?_)
  | (with_reducible refine DS_par ?_)
  | (with_reducible refine DE_int ?_)
  | (with_reducible refine DE_bl ?_)
  | (with_reducible refine DE_non ?_)
  | (with_reducible refine DE_str ?_)
  | (with_reducible refine DE_isi ?_)
  | (with_reducible refine DE_and ?_)
  | (with_reducible refine DE_or ?_)
  | (with_reducible refine DE_not ?_)
  | (with_reducible refine DE_if ?_)
  | (with_reducible refine DE_chain ?_)
  | (with_reducible refine DE_tyIs ?_)
  | (with_reducible refine DE_tyNot ?_)
  | (with_reducible refine DE_call ?_)
  | (with_reducible refine DE_cb ?_)
  | (with_reducible refine DE_op ?_)
  | (with_reducible refine DE_un ?_)
  | (with_reducible refine DE_tup ?_)
  | (with_reducible refine DT_test ?_)
  | (with_reducible refine DT_B ?_)
  | (with_reducible refine DT_and ?_)
  | (with_reducible refine DT_or ?_)
  | (with_reducible refine DT_not ?_)
  | (with_reducible refine DT_yes ?_)
  | (with_reducible refine DA_nil ?_)
  | (with_reducible refine DA_cons ?_)
  | (with_reducible refine DO_no ?_)
  | (with_reducible refine DO_at ?_)
  | (with_reducible refine DR_minus ?_)
  | (with_reducible refine DR_mod ?_)
  | (with_reducible refine DR_div ?_)
  | (with_reducible refine DR_pow ?_)
  | (with_reducible refine DR_lt ?_)
  | (with_reducible refine DR_le ?_)
  | (with_reducible refine DR_gt ?_)
  | (with_reducible refine DR_ge ?_)
  | (with_reducible refine DR_eq ?_)
  | (with_reducible refine DR_ne ?_)
  | (with_reducible refine DR_isN ?_)
  | (with_reducible refine DR_notN ?_)
  | (with_reducible refine DU_neg ?_)
  | (with_reducible refine DC_len ?_)
  | (with_reducible refine DC_int ?_)
  | (with_reducible refine DC_abs ?_)
  | (with_reducible refine DC_max2 ?_)
  | (with_reducible refine DC_min2 ?_)
  | (with_reducible refine DC_sum ?_)
  | (with_reducible refine DC_all ?_)
  | (with_reducible refine DC_any ?_)
  | (with_reducible refine DC_repr ?_)
  | (with_reducible refine ⟨_, kb_int _, ?_⟩)
  | (with_reducible refine ⟨_, kb_bool _, ?_⟩)
  | (with_reducible refine ⟨_, kb_list _, ?_⟩)
  | (with_reducible refine ⟨_, kb_tuple _, ?_⟩)
  | (with_reducible refine ⟨_, rfl, ?_⟩)
  | (with_reducible refine ⟨_, _, rfl, rfl, ?_⟩)
  | (with_reducible refine DE_emp ?_)
  | (with_reducible refine DE_new (DL_lst ?_))
  | (with_reducible refine DE_new (DL_sl ?_))
  | (with_reducible refine DE_slT ?_)
  | (with_reducible refine DC_list ?_)
  | ((with_reducible refine' DE_callT ?k1 ?_); (case k1 => exact rfl))
  | ((with_reducible refine' DE_var ?k1 ?_); (case k1 => exact rfl)))

abbrev Itm (d : PyData) : Prop := Shw 64 1 d
def Nice (x : PyData) : Prop := shortW x = true ∧ Shw 300000 4 x
end Cf
/-! rings turned, rings twice -/
namespace Cf
/-- the value of the word at a place -/
def val (s : Int) (l : Nat) (vs r : List Int) (z : Int) : Int := vs.getD (num s (win r z l)).toNat 0
end Cf
/-! words by numbers, rules, rings behind a tick -/
namespace Cf
def lowf (s : Int) : Nat → Int → List Int
  | 0, _ => []
  | l + 1, n => n % s :: lowf s l (n / s)
/-- the word with a number -/
def wordOf (s : Int) (l : Nat) (n : Int) : List Int := (lowf s l n).reverse
/-- a rule -/
structure Rl (s f : Int) (w : Nat) (T : List Int) : Prop where
  s2 : 2 ≤ s
  s4 : s ≤ 4
  w1 : 1 ≤ w
  le : s ^ w ≤ 1024
  ln : s ^ w = (T.length : Int)
  ok : Signs s T
  f0 : -100 ≤ f
  f1 : f + w ≤ 101
/-- an item of a table -/
def itm (T : List Int) (n : Int) : Int := T.getD n.toNat 0
/-- the signs that a rule makes of a word -/
def mids (s : Int) (w : Nat) (T : List Int) (k : Nat) (W : List Int) : List Int := (List.range k).map fun j => itm T (num s ((W.drop j).take w))
/-- the number of what a tick makes of the word with a number -/
def made (s : Int) (w : Nat) (T : List Int) : Nat → Int → Int
  | 0, n => itm T n
  | k + 1, n => made s w T k (n / s) * s + itm T (n % s ^ w)
/-- the composed table -/
def compT (s : Int) (w1 : Nat) (T1 : List Int) (w2 : Nat) (T2 : List Int) : List Int :=
  (List.range (s ^ (w1 + w2 - 1)).toNat).map fun (n : Nat) => itm T2 (num s (mids s w1 T1 w2 (wordOf s (w1 + w2 - 1) n)))
/-- the ring behind a tick -/
def tick (s f : Int) (w : Nat) (T r : List Int) : List Int := (List.range r.length).map fun (c : Nat) => itm T (num s (win r ((c : Int) + f) w))
/-- the mirrored table -/
def mirT (s : Int) (w : Nat) (T : List Int) : List Int := (List.range T.length).map fun (n : Nat) => itm T (num s (wordOf s w n).reverse)
end Cf
namespace Cf
open PySem PySem.Spec PyProof.Rows L2
open Evl (Ex)
local macro_rules | `(tactic| walk_at "d") => `(tactic| first
  | (with_reducible refine DS_seq ?_)
  | (with_reducible refine DS_if ?_)
  | (with_reducible refine DS_ret ?_)
  | (with_reducible refine DS_next ?_)
  | (with_reducible refine DS_retN ?_)
  | (with_reducible refine DS_set ?_)
  | (with_reducible refine DS_drop ?_)
  | (with_reducible refine DS_unpack ?_)
  | (with_reducible refine DS_par ?_)
  | (with_reducible refine DE_int ?_)
  | (with_reducible refine DE_bl ?_)
  | (with_reducible refine DE_non ?_)
  | (with_reducible refine DE_str ?_)
  | (with_reducible refine DE_isi ?_)
  | (with_reducible refine DE_and ?_)
  | (with_reducible refine DE_or ?_)
  | (with_reducible refine DE_not ?_)
  | (with_reducible refine DE_if ?_)
  | (with_reducible refine DE_chain ?_)
  | (with_reducible refine DE_tyIs ?_)
  | (with_reducible refine DE_tyNot ?_)
  | (with_reducible refine DE_call ?_)
  | (with_reducible refine DE_cb ?_)
  | (with_reducible refine DE_op ?_)
  | (with_reducible refine DE_un ?_)
  | (with_reducible refine DE_tup ?_)
  | (with_reducible refine DT_test ?_)
  | (with_reducible refine DT_B ?_)
  | (with_reducible refine DT_and ?_)
  | (with_reducible refine DT_or ?_)
  | (with_reducible refine DT_not ?_)
  | (with_reducible refine DT_yes ?_)
  | (with_reducible refine DA_nil ?_)
  | (with_reducible refine DA_cons ?_)
  | (with_reducible refine DO_no ?_)
  | (with_reducible refine DO_at ?_)
  | (with_reducible refine DR_minus ?_)
  | (with_reducible refine DR_mod ?_)
  | (with_reducible refine DR_div ?_)
  | (with_reducible refine DR_pow ?_)
  | (with_reducible refine DR_lt ?_)
  | (with_reducible refine DR_le ?_)
  | (with_reducible refine DR_gt ?_)
  | (with_reducible refine DR_ge ?_)
  | (with_reducible refine DR_eq ?_)
  | (with_reducible refine DR_ne ?_)
  | (with_reducible refine DR_isN ?_)
  | (with_reducible refine DR_notN ?_)
  | (with_reducible refine DU_neg ?_)
  | (with_reducible refine DC_len ?_)
  | (with_reducible refine DC_int ?_)
  | (with_reducible refine DC_abs ?_)
  | (with_reducible refine DC_max2 ?_)
  | (with_reducible refine DC_min2 ?_)
  | (with_reducible refine DC_sum ?_)
  | (with_reducible refine DC_all ?_)
  | (with_reducible refine DC_any ?_)
  | (with_reducible refine DC_repr ?_)
  | (with_reducible refine ⟨_, kb_int _, ?_⟩)
  | (with_reducible refine ⟨_, kb_bool _, ?_⟩)
  | (with_reducible refine ⟨_, kb_list _, ?_⟩)
  | (with_reducible refine ⟨_, kb_tuple _, ?_⟩)
  | (with_reducible refine ⟨_, rfl, ?_⟩)
  | (with_reducible refine ⟨_, _, rfl, rfl, ?_⟩)
  | (with_reducible refine DE_callN ?_)
  | (with_reducible refine DR_notB ?_)
  | (with_reducible refine DE_emp ?_)
  | (with_reducible refine DE_new (DL_lst ?_))
  | (with_reducible refine DE_new (DL_sl ?_))
  | (with_reducible refine DE_slT ?_)
  | (with_reducible refine DC_list ?_)
  | ((with_reducible refine' DE_callT ?k1 ?_); (case k1 => exact rfl))
  | ((with_reducible refine' DE_var ?k1 ?_); (case k1 => exact rfl))
  | ((with_reducible refine' DE_varO ?k1 ?_); (case k1 => exact rfl))
  | ((with_reducible refine' DE_varN ?k1 ?_); (case k1 => exact rfl)))


def W_word_at (ds : List PyData) (R : PyData → Prop) : Prop := ∃ (s : Int) (l : Nat) (n : Int), ds = [.int s, .int l, .int n] ∧ 2 ≤ s ∧ s ≤ 4 ∧ l ≤ 1000 ∧ R (LI (wordOf s l n))
def t_word_at (K : PySem.W.Frag) : TS :=
  (tSeq (tAsg (tLst tNil) (gName 3))
    (tSeq (tFor (iRg1 (tCons (tVar 1) tNil)) (gName 4)
    (tSeq (tDrop (tBM K "list" rAppend (tVar 3) (tCons (tOp rModI (tVar 2) (tVar 0)) tNil)))
    (tAsg (tOp rDivI (tVar 2) (tVar 0)) (gName 2))))
    (tRet (tRevL K (tVar 3)))))
def W__law_word (ds : List PyData) (R : PyData → Prop) : Prop := ∃ (s n : Int) (l : Nat), ds = [.int s, .int n, .int l] ∧ 2 ≤ s ∧ s ≤ 4 ∧ l ≤ 1000 ∧ R (LI (wordOf s l n))
def t__law_word (K : PySem.W.Frag) : TS :=
  (tSeq (tAsg (tLst tNil) (gName 3))
    (tSeq (tFor (iRg1 (tCons (tVar 2) tNil)) (gName 4)
    (tSeq (tDrop (tBM K "list" rAppend (tVar 3) (tCons (tOp rModI (tCB rIntA (tCons (tVar 1) tNil)) (tVar 0)) tNil)))
    (tAsg (tOp rDivI (tVar 1) (tVar 0)) (gName 1))))
    (tRet (tRevL K (tVar 3)))))
def W_is_reached (ds : List PyData) (R : PyData → Prop) : Prop := ∃ f w : Int, ds = [.int f, .int w] ∧ R (.bool (decide (-100 ≤ f) && decide (f + w ≤ 101)))
def t_is_reached (K : PySem.W.Frag) : TS :=
  (tRet (tAndV (tOp rGeI (tVar 0) (tUn rNegI (tC (.int 100)))) (tOp rLeI (tOp (rPlus K) (tVar 0) (tVar 1)) (tOp (rPlus K) (tC (.int 100)) (tC (.int 1))))))
def isRule : PyData → Bool
  | .tuple [.int s, .int f, .int w, .list T] => decide (2 ≤ s ∧ s ≤ 4) && decide (1 ≤ w) && (decide (-100 ≤ f) && decide (f + w ≤ 101)) && isWord s (.list T) && decide (cw s w 1024 = some (T.length : Int))
  | _ => false
def shortR : PyData → Bool
  | .tuple [a, b, c, d] => shortD d
  | .list ds => decide (ds.length < 100000)
  | .tuple ds => decide (ds.length < 100000)
  | .str z => decide (z.length < 100000)
  | _ => true
def W_is_rule (ds : List PyData) (R : PyData → Prop) : Prop := ∃ (x : PyData), ds = [x] ∧ shortR x = true ∧ R (.bool (isRule x))
def t_is_rule (K : PySem.W.Frag) : TS :=
  (tSeq (tIfS (tOr (tTest (tOp rNT (tCB (rTyp K) (tCons (tVar 0) tNil)) (tC (.ty "tuple")))) (tTest (tOp (rNeU K) (tCB (rLenA K) (tCons (tVar 0) tNil)) (tC (.int 4)))))
    (tRet (tC (.bl false)))
    tNext)
    (tSeq (tAsg (tVar 0) (gTup K 4 (gNames [1, 2, 3, 4])))
    (tSeq (tIfS (tOr (tNot (tB (tCall (spP K W_is_sign_count) [] E0 (tCons (tVar 1) tNil)))) (tOr (tNot (tB (tCall (spP K W_is_integer) [] E0 (tCons (tVar 2) tNil)))) (tNot (tB (tCall (spP K W_is_integer) [] E0 (tCons (tVar 3) tNil))))))
    (tRet (tC (.bl false)))
    tNext)
    (tSeq (tIfS (tOr (tTest (tOp rLtI (tVar 3) (tC (.int 1)))) (tOr (tNot (tB (tCall (spP K W_is_reached) [] E0 (tCons (tVar 2) (tCons (tVar 3) tNil))))) (tNot (tB (tCall (spP K W_is_word) [] E0 (tCons (tVar 1) (tCons (tVar 4) tNil)))))))
    (tRet (tC (.bl false)))
    tNext)
    (tRet (tOp (rEqU K) (tCB (rLenA K) (tCons (tVar 4) tNil)) (tCall (spP K W_count_words) [] E0 (tCons (tVar 1) (tCons (tVar 3) (tCons (tC (.int 1024)) tNil))))))))))
abbrev rlD (s f : Int) (w : Nat) (T : List Int) : PyData := .tuple [.int s, .int f, .int w, LI T]
def W_check_rule (ds : List PyData) (R : PyData → Prop) : Prop := ∃ (x : PyData), ds = [x] ∧ shortR x = true ∧ isRule x = true ∧ R .none
def t_check_rule (K : PySem.W.Frag) : TS :=
  (tIfS (tNot (tB (tCall (spP K W_is_rule) [] E0 (tCons (tVar 0) tNil))))
    tNever
    tNext)
def W_check_like_signs (ds : List PyData) (R : PyData → Prop) : Prop := ∃ (s : Int) (as bs : List PyData), ds = [.tuple (.int s :: as), .tuple (.int s :: bs)] ∧ R .none
def t_check_like_signs (K : PySem.W.Frag) : TS :=
  (tIfS (tTest (tOp (rNeU K) (tOp (rIx K) (tVar 0) (tC (.int 0))) (tOp (rIx K) (tVar 1) (tC (.int 0)))))
    tNever
    tNext)
def W_made_numbers (ds : List PyData) (R : PyData → Prop) : Prop := ∃ (s f : Int) (w : Nat) (T : List Int) (k : Nat), ds = [rlD s f w T, .int ((k : Int) + 1)] ∧ Rl s f w T ∧ s ^ (w + k) ≤ 1024 ∧
  R (LI ((List.range (s ^ (w + k)).toNat).map fun (n : Nat) => made s w T k n))
def t_made_numbers (K : PySem.W.Frag) : TS :=
  (tSeq (tAsg (tVar 0) (gTup K 4 (gNames [2, 3, 3, 4])))
    (tSeq (tAsg (tCB (rListA K) (tCons (tVar 4) tNil)) (gName 5))
    (tSeq (tFor (iRg1 (tCons (tOp rMinus (tVar 1) (tC (.int 1))) tNil)) (gName 3)
    (tSeq (tAsg (tOp rTimes (tCB (rLenA K) (tCons (tVar 5) tNil)) (tVar 2)) (gName 6))
    (tAsg (tLc (iRg1 (tCons (tVar 6) tNil)) (gName 7) tYes (tOp (rPlus K) (tOp rTimes (tOp (rIx K) (tVar 5) (tOp rDivI (tVar 7) (tVar 2))) (tVar 2)) (tOp (rIx K) (tVar 4) (tOp rModI (tVar 7) (tCB (rLenA K) (tCons (tVar 4) tNil))))) [7]) (gName 5))))
    (tRet (tVar 5)))))
end Cf
namespace Cf
open PySem PySem.Spec PyProof.Rows L2
open Evl (Ex)
local macro_rules | `(tactic| walk_at "d") => `(tactic| first
  | (with_reducible refine DS_seq ?_)
  | (with_reducible refine DS_if ?_)
  | (with_reducible refine DS_ret ?_)
  | (with_reducible refine DS_next ?_)
  | (with_reducible refine DS_retN ?_)
  | (with_reducible refine DS_set ?_)
  | (with_reducible refine DS_drop ?_)
  | (with_reducible refine DS_unpack ?_)
  | (with_reducible refine DS_par ?_)
  | (with_reducible refine DE_int ?_)
  | (with_reducible refine DE_bl ?_)
  | (with_reducible refine DE_non ?_)
  | (with_reducible refine DE_str ?_)
  | (with_reducible refine DE_isi ?_)
  | (with_reducible refine DE_and ?_)
  | (with_reducible refine DE_or ?_)
  | (with_reducible refine DE_not ?_)
  | (with_reducible refine DE_if ?_)
  | (with_reducible refine DE_chain ?_)
  | (with_reducible refine DE_tyIs ?_)
  | (with_reducible refine DE_tyNot ?_)
  | (with_reducible refine DE_call ?_)
  | (with_reducible refine DE_cb ?_)
  | (with_reducible refine DE_op ?_)
  | (with_reducible refine DE_un ?_)
  | (with_reducible refine DE_tup ?_)
  | (with_reducible refine DT_test ?_)
  | (with_reducible refine DT_B ?_)
  | (with_reducible refine DT_and ?_)
  | (with_reducible refine DT_or ?_)
  | (with_reducible refine DT_not ?_)
  | (with_reducible refine DT_yes ?_)
  | (with_reducible refine DA_nil ?_)
  | (with_reducible refine DA_cons ?_)
  | (with_reducible refine DO_no ?_)
  | (with_reducible refine DO_at ?_)
  | (with_reducible refine DR_minus ?_)
  | (with_reducible refine DR_mod ?_)
  | (with_reducible refine DR_div ?_)
  | (with_reducible refine DR_pow ?_)
  | (with_reducible refine DR_lt ?_)
  | (with_reducible refine DR_le ?_)
  | (with_reducible refine DR_gt ?_)
  | (with_reducible refine DR_ge ?_)
  | (with_reducible refine DR_eq ?_)
  | (with_reducible refine DR_ne ?_)
  | (with_reducible refine DR_isN ?_)
  | (with_reducible refine DR_notN ?_)
  | (with_reducible refine DU_neg ?_)
  | (with_reducible refine DC_len ?_)
  | (with_reducible refine DC_int ?_)
  | (with_reducible refine DC_abs ?_)
  | (with_reducible refine DC_max2 ?_)
  | (with_reducible refine DC_min2 ?_)
  | (with_reducible refine DC_sum ?_)
  | (with_reducible refine DC_all ?_)
  | (with_reducible refine DC_any ?_)
  | (with_reducible refine DC_repr ?_)
  | (with_reducible refine ⟨_, kb_int _, ?_⟩)
  | (with_reducible refine ⟨_, kb_bool _, ?_⟩)
  | (with_reducible refine ⟨_, kb_list _, ?_⟩)
  | (with_reducible refine ⟨_, kb_tuple _, ?_⟩)
  | (with_reducible refine ⟨_, rfl, ?_⟩)
  | (with_reducible refine ⟨_, _, rfl, rfl, ?_⟩)
  | (with_reducible refine DE_callN ?_)
  | (with_reducible refine DR_notB ?_)
  | (with_reducible refine DE_emp ?_)
  | (with_reducible refine DE_new (DL_lst ?_))
  | (with_reducible refine DE_new (DL_sl ?_))
  | (with_reducible refine DE_slT ?_)
  | (with_reducible refine DC_list ?_)
  | ((with_reducible refine' DE_callT ?k1 ?_); (case k1 => exact rfl))
  | ((with_reducible refine' DE_var ?k1 ?_); (case k1 => exact rfl))
  | ((with_reducible refine' DE_varO ?k1 ?_); (case k1 => exact rfl))
  | ((with_reducible refine' DE_varN ?k1 ?_); (case k1 => exact rfl)))


abbrev KeepsN (W : List PyData → (PyData → Prop) → Prop) (n : Nat) (tb : PySem.W.Frag → TS) : Prop :=
  ∀ (K : PySem.W.Frag) (ds : List PyData) (R : PyData → Prop), W ds R → ds.length ≤ n ∧ DSN K (tb K) (ds.map Sl.sh ++ List.replicate (n - ds.length) Sl.no) R

def itD (T : List Int) : PyData → PyData | .int n => .int (itm T n) | _ => .none
def W_composed (ds : List PyData) (R : PyData → Prop) : Prop := ∃ (s f1 : Int) (w1 : Nat) (T1 : List Int) (f2 : Int) (w2 : Nat) (T2 : List Int), ds = [rlD s f1 w1 T1, rlD s f2 w2 T2] ∧ Rl s f1 w1 T1 ∧ Rl s f2 w2 T2 ∧ s ^ (w1 + w2 - 1) ≤ 1024 ∧
  -100 ≤ f1 + f2 ∧ f1 + f2 + ((w1 + w2 - 1 : Nat) : Int) ≤ 101 ∧ R (rlD s (f1 + f2) (w1 + w2 - 1) (compT s w1 T1 w2 T2))
def t_composed (K : PySem.W.Frag) : TS :=
  (tSeq (tDrop (tCall (spP K W_check_rule) [] E0 (tCons (tVar 0) tNil)))
    (tSeq (tDrop (tCall (spP K W_check_rule) [] E0 (tCons (tVar 1) tNil)))
    (tSeq (tDrop (tCall (spP K W_check_like_signs) [] E0 (tCons (tVar 0) (tCons (tVar 1) tNil))))
    (tSeq (tAsg (tOp (rPlus K) (tOp (rIx K) (tVar 0) (tC (.int 1))) (tOp (rIx K) (tVar 1) (tC (.int 1)))) (gName 2))
    (tSeq (tAsg (tOp rMinus (tOp (rPlus K) (tOp (rIx K) (tVar 0) (tC (.int 2))) (tOp (rIx K) (tVar 1) (tC (.int 2)))) (tC (.int 1))) (gName 3))
    (tSeq (tIfS (tTest (tOp rIsNone (tCall (spP K W_count_words) [] E0 (tCons (tOp (rIx K) (tVar 0) (tC (.int 0))) (tCons (tVar 3) (tCons (tC (.int 1024)) tNil)))) (tC .non)))
    tNever
    tNext)
    (tSeq (tIfS (tNot (tB (tCall (spP K W_is_reached) [] E0 (tCons (tVar 2) (tCons (tVar 3) tNil)))))
    tNever
    tNext)
    (tSeq (tAsg (tLc (iList K (tCall (spP K W_made_numbers) [] E0 (tCons (tVar 0) (tCons (tOp (rIx K) (tVar 1) (tC (.int 2))) tNil)))) (gName 5) tYes (tOp (rIx K) (tOp (rIx K) (tVar 1) (tC (.int 3))) (tVar 5)) [5]) (gName 4))
    (tRet (tTup (tCons (tOp (rIx K) (tVar 0) (tC (.int 0))) (tCons (tVar 2) (tCons (tVar 3) (tCons (tVar 4) tNil))))))))))))))
def W_mirrored (ds : List PyData) (R : PyData → Prop) : Prop := ∃ (s f : Int) (w : Nat) (T : List Int), ds = [rlD s f w T] ∧ Rl s f w T ∧ R (rlD s (1 - f - w) w (mirT s w T))
def t_mirrored (K : PySem.W.Frag) : TS :=
  (tSeq (tDrop (tCall (spP K W_check_rule) [] E0 (tCons (tVar 0) tNil)))
    (tSeq (tAsg (tVar 0) (gTup K 4 (gNames [1, 2, 3, 4])))
    (tSeq (tAsg (tLc (iRg1 (tCons (tCB (rLenA K) (tCons (tVar 4) tNil)) tNil)) (gName 6) tYes (tCall (spP K W_word_at) [] E0 (tCons (tVar 1) (tCons (tVar 3) (tCons (tVar 6) tNil)))) [6]) (gName 5))
    (tSeq (tAsg (tLc (iList K (tVar 5)) (gName 8) tYes (tOp (rIx K) (tVar 4) (tCall (spP K W_number_of) [] E0 (tCons (tVar 1) (tCons (tRevL K (tVar 8)) tNil)))) [8]) (gName 7))
    (tRet (tTup (tCons (tVar 1) (tCons (tOp rMinus (tOp rMinus (tC (.int 1)) (tVar 2)) (tVar 3)) (tCons (tVar 3) (tCons (tVar 7) tNil))))))))))
end Cf
namespace Cf
open PySem PySem.Spec PyProof.Rows L2
open Evl (Ex)
local macro_rules | `(tactic| walk_at "d") => `(tactic| first
  | (with_reducible refine DS_seq ?_)
  | (with_reducible refine DS_if ?_)
  | (with_reducible refine DS_ret ?_)
  | (with_reducible refine DS_next ?_)
  | (with_reducible refine DS_retN ?_)
  | (with_reducible refine DS_set ?_)
  | (with_reducible refine DS_drop ?_)
  | (with_reducible refine DS_unpack ?_)
  | (with_reducible refine DS_par ?_)
  | (with_reducible refine DE_int ?_)
  | (with_reducible refine DE_bl ?_)
  | (with_reducible refine DE_non ?_)
  | (with_reducible refine DE_str ?_)
  | (with_reducible refine DE_isi ?_)
  | (with_reducible refine DE_and ?_)
  | (with_reducible refine DE_or ?_)
  | (with_reducible refine DE_not ?_)
  | (with_reducible refine DE_if ?_)
  | (with_reducible refine DE_chain ?_)
  | (with_reducible refine DE_tyIs ?_)
  | (with_reducible refine DE_tyNot ?_)
  | (with_reducible refine DE_call ?_)
  | (with_reducible refine DE_cb ?_)
  | (with_reducible refine DE_op ?_)
  | (with_reducible refine DE_un ?_)
  | (with_reducible refine DE_tup ?_)
  | (with_reducible refine DT_test ?_)
  | (with_reducible refine DT_B ?_)
  | (with_reducible refine DT_and ?_)
  | (with_reducible refine DT_or ?_)
  | (with_reducible refine DT_not ?_)
  | (with_reducible refine DT_yes ?_)
  | (with_reducible refine DA_nil ?_)
  | (with_reducible refine DA_cons ?_)
  | (with_reducible refine DO_no ?_)
  | (with_reducible refine DO_at ?_)
  | (with_reducible refine DR_minus ?_)
  | (with_reducible refine DR_mod ?_)
  | (with_reducible refine DR_div ?_)
  | (with_reducible refine DR_pow ?_)
  | (with_reducible refine DR_lt ?_)
  | (with_reducible refine DR_le ?_)
  | (with_reducible refine DR_gt ?_)
  | (with_reducible refine DR_ge ?_)
  | (with_reducible refine DR_eq ?_)
  | (with_reducible refine DR_ne ?_)
  | (with_reducible refine DR_isN ?_)
  | (with_reducible refine DR_notN ?_)
  | (with_reducible refine DU_neg ?_)
  | (with_reducible refine DC_len ?_)
  | (with_reducible refine DC_int ?_)
  | (with_reducible refine DC_abs ?_)
  | (with_reducible refine DC_max2 ?_)
  | (with_reducible refine DC_min2 ?_)
  | (with_reducible refine DC_sum ?_)
  | (with_reducible refine DC_all ?_)
  | (with_reducible refine DC_any ?_)
  | (with_reducible refine DC_repr ?_)
  | (with_reducible refine ⟨_, kb_int _, ?_⟩)
  | (with_reducible refine ⟨_, kb_bool _, ?_⟩)
  | (with_reducible refine ⟨_, kb_list _, ?_⟩)
  | (with_reducible refine ⟨_, kb_tuple _, ?_⟩)
  | (with_reducible refine ⟨_, rfl, ?_⟩)
  | (with_reducible refine ⟨_, _, rfl, rfl, ?_⟩)
  | (with_reducible refine DE_callN ?_)
  | (with_reducible refine DR_notB ?_)
  | (with_reducible refine DE_emp ?_)
  | (with_reducible refine DE_new (DL_lst ?_))
  | (with_reducible refine DE_new (DL_sl ?_))
  | (with_reducible refine DE_slT ?_)
  | (with_reducible refine DC_list ?_)
  | ((with_reducible refine' DE_callT ?k1 ?_); (case k1 => exact rfl))
  | ((with_reducible refine' DE_var ?k1 ?_); (case k1 => exact rfl))
  | ((with_reducible refine' DE_varO ?k1 ?_); (case k1 => exact rfl))
  | ((with_reducible refine' DE_varN ?k1 ?_); (case k1 => exact rfl)))


def W__law_rule (ds : List PyData) (R : PyData → Prop) : Prop := ∃ words : Int, ds = [.int words] ∧ 4 ≤ words ∧ words ≤ 1024 ∧ ∀ (s f : Int) (w : Nat) (T : List Int), Rl s f w T → s ^ w ≤ words → R (rlD s f w T)
def t__law_rule (K : PySem.W.Frag) : TS :=
  (tSeq (tAsg (tOp (rPlus K) (tC (.int 2)) (tCall (spT K W__law_draw) [] E0 (tCons (tVar 0) (tCons (tC (.int 3)) tNil)))) (gName 2))
    (tSeq (tAsg (tIf (tTest (tOp rLeI (tVar 2) (tVar 1))) (tVar 2) (tC (.int 2))) (gName 2))
    (tSeq (tAsg (tTup (tCons (tOp (rPlus K) (tC (.int 1)) (tCall (spT K W__law_draw) [] E0 (tCons (tVar 0) (tCons (tCall (spP K W__law_widest) [] E0 (tCons (tVar 2) (tCons (tVar 1) tNil))) tNil)))) (tCons (tCall (spT K W__law_draw) [] E0 (tCons (tVar 0) (tCons (tC (.int 5)) tNil))) tNil))) (gTup K 2 (gNames [3, 4])))
    (tSeq (tAsg (tOp (rIx K) (tLst (tCons (tOp rMinus (tCall (spT K W__law_draw) [] E0 (tCons (tVar 0) (tCons (tC (.int 5)) tNil))) (tC (.int 3))) (tCons (tOp rMinus (tCall (spT K W__law_draw) [] E0 (tCons (tVar 0) (tCons (tC (.int 5)) tNil))) (tC (.int 3))) (tCons (tC (.int 0)) (tCons (tUn rNegI (tC (.int 100))) (tCons (tOp rMinus (tC (.int 101)) (tVar 3)) tNil)))))) (tCall (spT K W__law_draw) [] E0 (tCons (tVar 0) (tCons (tC (.int 5)) tNil)))) (gName 5))
    (tSeq (tIfS (tTest (tOp (rEqU K) (tVar 4) (tC (.int 0))))
    (tSeq (tAsg (tTup (tCons (tCall (spT K W__law_draw) [] E0 (tCons (tVar 0) (tCons (tVar 3) tNil))) (tCons (tLc (iRg1 (tCons (tVar 2) tNil)) (gName 8) tYes (tCall (spT K W__law_draw) [] E0 (tCons (tVar 0) (tCons (tVar 2) tNil))) [8]) tNil))) (gTup K 2 (gNames [6, 7])))
    (tAsg (tLc (iRg1 (tCons (tCall (spP K W__law_many) [] E0 (tCons (tVar 2) (tCons (tVar 3) tNil))) tNil)) (gName 10) tYes (tOp (rIx K) (tVar 7) (tOp (rIx K) (tCall (spP K W__law_word) [] E0 (tCons (tVar 2) (tCons (tVar 10) (tCons (tVar 3) tNil)))) (tVar 6))) [10]) (gName 9)))
    (tIfS (tTest (tOp (rEqU K) (tVar 4) (tC (.int 1))))
    (tAsg (tLc (iRg1 (tCons (tCall (spP K W__law_many) [] E0 (tCons (tVar 2) (tCons (tVar 3) tNil))) tNil)) (gName 10) tYes (tIf (tTest (tOp (rEqU K) (tCall (spT K W__law_draw) [] E0 (tCons (tVar 0) (tCons (tC (.int 3)) tNil))) (tC (.int 0)))) (tCall (spT K W__law_draw) [] E0 (tCons (tVar 0) (tCons (tVar 2) tNil))) (tC (.int 0))) [10]) (gName 9))
    (tIfS (tAnd (tTest (tOp (rEqU K) (tVar 4) (tC (.int 2)))) (tTest (tOp (rEqU K) (tCall (spT K W__law_draw) [] E0 (tCons (tVar 0) (tCons (tC (.int 4)) tNil))) (tC (.int 0)))))
    (tAsg (tOp rTimes (tLst (tCons (tCall (spT K W__law_draw) [] E0 (tCons (tVar 0) (tCons (tVar 2) tNil))) tNil)) (tCall (spP K W__law_many) [] E0 (tCons (tVar 2) (tCons (tVar 3) tNil)))) (gName 9))
    (tAsg (tLc (iRg1 (tCons (tCall (spP K W__law_many) [] E0 (tCons (tVar 2) (tCons (tVar 3) tNil))) tNil)) (gName 10) tYes (tCall (spT K W__law_draw) [] E0 (tCons (tVar 0) (tCons (tVar 2) tNil))) [10]) (gName 9)))))
    (tRet (tTup (tCons (tVar 2) (tCons (tVar 5) (tCons (tVar 3) (tCons (tVar 9) tNil)))))))))))
def W__law_copied (ds : List PyData) (R : PyData → Prop) : Prop := ∃ (a b c : PyData) (vs : List PyData), ds = [.tuple [a, b, c, .list vs]] ∧ R (.tuple [a, b, c, .list vs])
def t__law_copied (K : PySem.W.Frag) : TS :=
  (tRet (tTup (tCons (tOp (rIx K) (tVar 0) (tC (.int 0))) (tCons (tOp (rIx K) (tVar 0) (tC (.int 1))) (tCons (tOp (rIx K) (tVar 0) (tC (.int 2))) (tCons (tCB (rListA K) (tCons (tOp (rIx K) (tVar 0) (tC (.int 3))) tNil)) tNil))))))
def W__law_ticked (ds : List PyData) (R : PyData → Prop) : Prop := ∃ (s f : Int) (w : Nat) (T r : List Int), ds = [rlD s f w T, LI r] ∧ Rl s f w T ∧ r ≠ [] ∧ r.length ≤ 5000 ∧ Signs s r ∧ R (LI (tick s f w T r))
def t__law_ticked (K : PySem.W.Frag) : TS :=
  (tSeq (tAsg (tVar 0) (gTup K 4 (gNames [2, 3, 4, 5])))
    (tRet (tLc (iRg1 (tCons (tCB (rLenA K) (tCons (tVar 1) tNil)) tNil)) (gName 6) tYes (tOp (rIx K) (tVar 5) (tCall (spP K W__law_number) [] E0 (tCons (tVar 2) (tCons (tVar 1) (tCons (tOp (rPlus K) (tVar 6) (tVar 3)) (tCons (tVar 4) tNil)))))) [6])))
def W__law_item (ds : List PyData) (R : PyData → Prop) : Prop := ∃ (s f : Int) (w : Nat) (T W : List Int), ds = [rlD s f w T, LI W] ∧ Rl s f w T ∧ W.length = w ∧ Signs s W ∧ R (.int (itm T (num s W)))
def t__law_item (K : PySem.W.Frag) : TS :=
  (tRet (tOp (rIx K) (tOp (rIx K) (tVar 0) (tC (.int 3))) (tCall (spP K W__law_number) [] E0 (tCons (tOp (rIx K) (tVar 0) (tC (.int 0))) (tCons (tVar 1) (tCons (tC (.int 0)) (tCons (tCB (rLenA K) (tCons (tVar 1) tNil)) tNil)))))))
def W__law_composed (ds : List PyData) (R : PyData → Prop) : Prop := ∃ (s f1 : Int) (w1 : Nat) (T1 : List Int) (f2 : Int) (w2 : Nat) (T2 : List Int), ds = [rlD s f1 w1 T1, rlD s f2 w2 T2] ∧ Rl s f1 w1 T1 ∧ Rl s f2 w2 T2 ∧ s ^ (w1 + w2 - 1) ≤ 1024 ∧ R (rlD s (f1 + f2) (w1 + w2 - 1) (compT s w1 T1 w2 T2))
def t__law_composed (K : PySem.W.Frag) : TS :=
  (tSeq (tPar 2 3 (tCons (tOp (rIx K) (tVar 0) (tC (.int 0))) (tCons (tOp rMinus (tOp (rPlus K) (tOp (rIx K) (tVar 0) (tC (.int 2))) (tOp (rIx K) (tVar 1) (tC (.int 2)))) (tC (.int 1))) tNil)))
    (tSeq (tAsg (tLst tNil) (gName 4))
    (tSeq (tFor (iRg1 (tCons (tCall (spP K W__law_many) [] E0 (tCons (tVar 2) (tCons (tVar 3) tNil))) tNil)) (gName 5)
    (tSeq (tAsg (tCall (spP K W__law_word) [] E0 (tCons (tVar 2) (tCons (tVar 5) (tCons (tVar 3) tNil)))) (gName 6))
    (tSeq (tAsg (tLc (iRg1 (tCons (tOp (rIx K) (tVar 1) (tC (.int 2))) tNil)) (gName 8) tYes (tCall (spP K W__law_item) [] E0 (tCons (tVar 0) (tCons (tSl (rSlL K) (tVar 6) (tPart (tVar 8)) (tPart (tOp (rPlus K) (tVar 8) (tOp (rIx K) (tVar 0) (tC (.int 2)))))) tNil))) [8]) (gName 7))
    (tDrop (tBM K "list" rAppend (tVar 4) (tCons (tCall (spP K W__law_item) [] E0 (tCons (tVar 1) (tCons (tVar 7) tNil))) tNil))))))
    (tRet (tTup (tCons (tVar 2) (tCons (tOp (rPlus K) (tOp (rIx K) (tVar 0) (tC (.int 1))) (tOp (rIx K) (tVar 1) (tC (.int 1)))) (tCons (tVar 3) (tCons (tVar 4) tNil)))))))))
def W__law_mirrored (ds : List PyData) (R : PyData → Prop) : Prop := ∃ (s f : Int) (w : Nat) (T : List Int), ds = [rlD s f w T] ∧ Rl s f w T ∧ R (rlD s (1 - f - w) w (mirT s w T))
def t__law_mirrored (K : PySem.W.Frag) : TS :=
  (tSeq (tAsg (tVar 0) (gTup K 4 (gNames [1, 2, 3, 4])))
    (tSeq (tAsg (tLc (iRg1 (tCons (tCB (rLenA K) (tCons (tVar 4) tNil)) tNil)) (gName 6) tYes (tCall (spP K W__law_item) [] E0 (tCons (tVar 0) (tCons (tRevL K (tCall (spP K W__law_word) [] E0 (tCons (tVar 1) (tCons (tVar 6) (tCons (tVar 3) tNil))))) tNil))) [6]) (gName 5))
    (tRet (tTup (tCons (tVar 1) (tCons (tOp rMinus (tOp rMinus (tC (.int 1)) (tVar 2)) (tVar 3)) (tCons (tVar 3) (tCons (tVar 5) tNil))))))))
end Cf
namespace Cf
open PySem PySem.Spec PyProof.Rows L2
open Evl (Ex)
local macro_rules | `(tactic| walk_at "d") => `(tactic| first
  | (with_reducible refine DS_seq ?_)
  | (with_reducible refine DS_if ?_)
  | (with_reducible refine DS_ret ?_)
  | (with_reducible refine DS_next ?_)
  | (with_reducible refine DS_retN ?_)
  | (with_reducible refine DS_set ?_)
  | (with_reducible refine DS_drop ?_)
  | (with_reducible refine DS_unpack ?_)
  | (with_reducible refine DS_par ?_)
  | (with_reducible refine DE_int ?_)
  | (with_reducible refine DE_bl ?_)
  | (with_reducible refine DE_non ?_)
  | (with_reducible refine DE_str ?_)
  | (with_reducible refine DE_isi ?_)
  | (with_reducible refine DE_and ?_)
  | (with_reducible refine DE_or ?_)
  | (with_reducible refine DE_not ?_)
  | (with_reducible refine DE_if ?_)
  | (with_reducible refine DE_chain ?_)
  | (with_reducible refine DE_tyIs ?_)
  | (with_reducible refine DE_tyNot ?_)
  | (with_reducible refine DE_call ?_)
  | (with_reducible refine DE_cb ?_)
  | (with_reducible refine DE_op ?_)
  | (with_reducible refine DE_un ?_)
  | (with_reducible refine DE_tup ?_)
  | (with_reducible refine DT_test ?_)
  | (with_reducible refine DT_B ?_)
  | (with_reducible refine DT_and ?_)
  | (with_reducible refine DT_or ?_)
  | (with_reducible refine DT_not ?_)
  | (with_reducible refine DT_yes ?_)
  | (with_reducible refine DA_nil ?_)
  | (with_reducible refine DA_cons ?_)
  | (with_reducible refine DO_no ?_)
  | (with_reducible refine DO_at ?_)
  | (with_reducible refine DR_minus ?_)
  | (with_reducible refine DR_mod ?_)
  | (with_reducible refine DR_div ?_)
  | (with_reducible refine DR_pow ?_)
  | (with_reducible refine DR_lt ?_)
  | (with_reducible refine DR_le ?_)
  | (with_reducible refine DR_gt ?_)
  | (with_reducible refine DR_ge ?_)
  | (with_reducible refine DR_eq ?_)
  | (with_reducible refine DR_ne ?_)
  | (with_reducible refine DR_isN ?_)
  | (with_reducible refine DR_notN ?_)
  | (with_reducible refine DU_neg ?_)
  | (with_reducible refine DC_len ?_)
  | (with_reducible refine DC_int ?_)
  | (with_reducible refine DC_abs ?_)
  | (with_reducible refine DC_max2 ?_)
  | (with_reducible refine DC_min2 ?_)
  | (with_reducible refine DC_sum ?_)
  | (with_reducible refine DC_all ?_)
  | (with_reducible refine DC_any ?_)
  | (with_reducible refine DC_repr ?_)
  | (with_reducible refine ⟨_, kb_int _, ?_⟩)
  | (with_reducible refine ⟨_, kb_bool _, ?_⟩)
  | (with_reducible refine ⟨_, kb_list _, ?_⟩)
  | (with_reducible refine ⟨_, kb_tuple _, ?_⟩)
  | (with_reducible refine ⟨_, rfl, ?_⟩)
  | (with_reducible refine ⟨_, _, rfl, rfl, ?_⟩)
  | (with_reducible refine DE_emp ?_)
  | (with_reducible refine DE_new (DL_lst ?_))
  | (with_reducible refine DE_new (DL_sl ?_))
  | (with_reducible refine DE_slT ?_)
  | (with_reducible refine DC_list ?_)
  | ((with_reducible refine' DE_callT ?k1 ?_); (case k1 => exact rfl))
  | ((with_reducible refine' DE_var ?k1 ?_); (case k1 => exact rfl)))


end Cf
namespace Cf
open PySem PySem.Spec PyProof.Rows L2
open Evl (Ex)
local macro_rules | `(tactic| walk_at "d") => `(tactic| first
  | (with_reducible refine DS_seq ?_)
  | (with_reducible refine DS_if ?_)
  | (with_reducible refine DS_ret ?_)
  | (with_reducible refine DS_next ?_)
  | (with_reducible refine DS_retN ?_)
  | (with_reducible refine DS_set ?_)
  | (with_reducible refine DS_drop ?_)
  | (with_reducible refine DS_unpack ?_)
  | (with_reducible refine DS_par ?_)
  | (with_reducible refine DE_int ?_)
  | (with_reducible refine DE_bl ?_)
  | (with_reducible refine DE_non ?_)
  | (with_reducible refine DE_str ?_)
  | (with_reducible refine DE_isi ?_)
  | (with_reducible refine DE_and ?_)
  | (with_reducible refine DE_or ?_)
  | (with_reducible refine DE_not ?_)
  | (with_reducible refine DE_if ?_)
  | (with_reducible refine DE_chain ?_)
  | (with_reducible refine DE_tyIs ?_)
  | (with_reducible refine DE_tyNot ?_)
  | (with_reducible refine DE_call ?_)
  | (with_reducible refine DE_cb ?_)
  | (with_reducible refine DE_op ?_)
  | (with_reducible refine DE_un ?_)
  | (with_reducible refine DE_tup ?_)
  | (with_reducible refine DT_test ?_)
  | (with_reducible refine DT_B ?_)
  | (with_reducible refine DT_and ?_)
  | (with_reducible refine DT_or ?_)
  | (with_reducible refine DT_not ?_)
  | (with_reducible refine DT_yes ?_)
  | (with_reducible refine DA_nil ?_)
  | (with_reducible refine DA_cons ?_)
  | (with_reducible refine DO_no ?_)
  | (with_reducible refine DO_at ?_)
  | (with_reducible refine DR_minus ?_)
  | (with_reducible refine DR_mod ?_)
  | (with_reducible refine DR_div ?_)
  | (with_reducible refine DR_pow ?_)
  | (with_reducible refine DR_lt ?_)
  | (with_reducible refine DR_le ?_)
  | (with_reducible refine DR_gt ?_)
  | (with_reducible refine DR_ge ?_)
  | (with_reducible refine DR_eq ?_)
  | (with_reducible refine DR_ne ?_)
  | (with_reducible refine DR_isN ?_)
  | (with_reducible refine DR_notN ?_)
  | (with_reducible refine DU_neg ?_)
  | (with_reducible refine DC_len ?_)
  | (with_reducible refine DC_int ?_)
  | (with_reducible refine DC_abs ?_)
  | (with_reducible refine DC_max2 ?_)
  | (with_reducible refine DC_min2 ?_)
  | (with_reducible refine DC_sum ?_)
  | (with_reducible refine DC_all ?_)
  | (with_reducible refine DC_any ?_)
  | (with_reducible refine DC_repr ?_)
  | (with_reducible refine ⟨_, kb_int _, ?_⟩)
  | (with_reducible refine ⟨_, kb_bool _, ?_⟩)
  | (with_reducible refine ⟨_, kb_list _, ?_⟩)
  | (with_reducible refine ⟨_, kb_tuple _, ?_⟩)
  | (with_reducible refine ⟨_, rfl, ?_⟩)
  | (with_reducible refine ⟨_, _, rfl, rfl, ?_⟩)
  | (with_reducible refine DE_callN ?_)
  | (with_reducible refine DR_notB ?_)
  | (with_reducible refine DE_emp ?_)
  | (with_reducible refine DE_new (DL_lst ?_))
  | (with_reducible refine DE_new (DL_sl ?_))
  | (with_reducible refine DE_slT ?_)
  | (with_reducible refine DC_list ?_)
  | ((with_reducible refine' DE_callT ?k1 ?_); (case k1 => exact rfl))
  | ((with_reducible refine' DE_var ?k1 ?_); (case k1 => exact rfl))
  | ((with_reducible refine' DE_varO ?k1 ?_); (case k1 => exact rfl))
  | ((with_reducible refine' DE_varN ?k1 ?_); (case k1 => exact rfl)))


def W__law_both_right (ds : List PyData) (R : PyData → Prop) : Prop := ∃ (s f1 : Int) (w1 : Nat) (T1 : List Int) (f2 : Int) (w2 : Nat) (T2 : List Int), ds = [rlD s f1 w1 T1, rlD s f2 w2 T2] ∧ Rl s f1 w1 T1 ∧ Rl s f2 w2 T2 ∧ s ^ (w1 + w2 - 1) ≤ 1024 ∧ R (.bool true)
def t__law_both_right (K : PySem.W.Frag) : TS :=
  (tSeq (tPar 3 4 (tCons (tCall (spP K W__law_copied) [] E0 (tCons (tVar 1) tNil)) (tCons (tCall (spP K W__law_copied) [] E0 (tCons (tVar 2) tNil)) tNil)))
    (tSeq (tAsg (tCall (spP K W__law_composed) [] E0 (tCons (tVar 1) (tCons (tVar 2) tNil))) (gName 5))
    (tSeq (tIfS (tOr (tTest (tOp rLtI (tOp (rIx K) (tVar 5) (tC (.int 1))) (tUn rNegI (tC (.int 100))))) (tTest (tOp rGtI (tOp (rPlus K) (tOp (rIx K) (tVar 5) (tC (.int 1))) (tOp (rIx K) (tVar 5) (tC (.int 2)))) (tC (.int 101)))))
    (tRet (tC (.bl true)))
    tNext)
    (tSeq (tAsg (tCall (spN K W_composed) [] E0 (tCons (tVar 3) (tCons (tVar 4) tNil))) (gName 6))
    (tSeq (tIfS (tOr (tTest (tOp (rNeU K) (tCB (rReprD K) (tCons (tVar 6) tNil)) (tCB (rReprD K) (tCons (tVar 5) tNil)))) (tOr (tTest (tOp (rNeU K) (tVar 3) (tVar 1))) (tOr (tTest (tOp (rNeU K) (tVar 4) (tVar 2))) (tTest (tOp rNotB (tCall (spP K W_is_rule) [] E0 (tCons (tVar 6) tNil)) (tC (.bl true)))))))
    (tRet (tC (.bl false)))
    tNext)
    (tSeq (tFor (iList K (tLst (tCons (tC (.int 12)) (tCons (tC (.int 60)) tNil)))) (gName 7)
    (tSeq (tAsg (tCall (spT K W__law_ring) [] E0 (tCons (tVar 0) (tCons (tOp (rIx K) (tVar 1) (tC (.int 0))) (tCons (tVar 7) tNil)))) (gName 8))
    (tIfS (tTest (tOp (rNeU K) (tCall (spP K W__law_ticked) [] E0 (tCons (tVar 6) (tCons (tVar 8) tNil))) (tCall (spP K W__law_ticked) [] E0 (tCons (tVar 2) (tCons (tCall (spP K W__law_ticked) [] E0 (tCons (tVar 1) (tCons (tVar 8) tNil))) tNil)))))
    (tRet (tC (.bl false)))
    tNext)))
    (tSeq (tDrop (tBM K "list" rAppend (tOp (rIx K) (tVar 6) (tC (.int 3))) (tCons (tC (.int 0)) tNil)))
    (tRet (tOp (rEqU K) (tCB (rReprD K) (tCons (tCall (spN K W_composed) [] E0 (tCons (tVar 3) (tCons (tVar 4) tNil))) tNil)) (tCB (rReprD K) (tCons (tVar 5) tNil)))))))))))
def W__law_mirrored_right (ds : List PyData) (R : PyData → Prop) : Prop := ∃ (s f : Int) (w : Nat) (T : List Int), ds = [rlD s f w T] ∧ Rl s f w T ∧ R (.bool true)
def t__law_mirrored_right (K : PySem.W.Frag) : TS :=
  (tSeq (tPar 2 3 (tCons (tCall (spP K W__law_copied) [] E0 (tCons (tVar 1) tNil)) (tCons (tCall (spP K W__law_mirrored) [] E0 (tCons (tVar 1) tNil)) tNil)))
    (tSeq (tAsg (tCall (spN K W_mirrored) [] E0 (tCons (tVar 2) tNil)) (gName 4))
    (tSeq (tIfS (tOr (tTest (tOp (rNeU K) (tCB (rReprD K) (tCons (tVar 4) tNil)) (tCB (rReprD K) (tCons (tVar 3) tNil)))) (tOr (tTest (tOp (rNeU K) (tVar 2) (tVar 1))) (tOr (tTest (tOp rNotB (tCall (spP K W_is_rule) [] E0 (tCons (tVar 4) tNil)) (tC (.bl true)))) (tTest (tOp (rNeU K) (tCall (spN K W_mirrored) [] E0 (tCons (tVar 4) tNil)) (tVar 1))))))
    (tRet (tC (.bl false)))
    tNext)
    (tSeq (tFor (iList K (tLst (tCons (tC (.int 12)) (tCons (tC (.int 60)) tNil)))) (gName 5)
    (tSeq (tAsg (tCall (spT K W__law_ring) [] E0 (tCons (tVar 0) (tCons (tOp (rIx K) (tVar 1) (tC (.int 0))) (tCons (tVar 5) tNil)))) (gName 6))
    (tIfS (tTest (tOp (rNeU K) (tCall (spP K W__law_ticked) [] E0 (tCons (tVar 4) (tCons (tRevL K (tVar 6)) tNil))) (tRevL K (tCall (spP K W__law_ticked) [] E0 (tCons (tVar 1) (tCons (tVar 6) tNil))))))
    (tRet (tC (.bl false)))
    tNext)))
    (tSeq (tDrop (tBM K "list" rAppend (tOp (rIx K) (tVar 4) (tC (.int 3))) (tCons (tC (.int 0)) tNil)))
    (tRet (tOp (rEqU K) (tCB (rReprD K) (tCons (tCall (spN K W_mirrored) [] E0 (tCons (tVar 2) tNil)) tNil)) (tCB (rReprD K) (tCons (tVar 3) tNil)))))))))
end Cf
namespace Cf
open PySem PySem.Spec PyProof.Rows L2
open Evl (Ex)
/-! ### a frozen list times an int -/
def rRepL (K : PySem.W.Frag) : R2 := fun x y H Q => ∃ l k xs, x = .ref l ∧ y = .int k ∧ SqL K H l xs ∧ -(2 ^ 62) ≤ k ∧ k < 2 ^ 62 ∧ xs.length * k.toNat ≤ sizeLine ∧ ∀ p, H p = none → Q (.ref p) (upd H p (.lst (List.replicate k.toNat xs).flatten))
def rTimesL (K : PySem.W.Frag) : R2 := fun x y H Q => rTimes x y H Q ∨ rRepL K x y H Q
/-! ### defs that raise -/
/-- data, or an error of the class at C -/
def spX (K : PySem.W.Frag) (W : List PyData → (PyData → Prop) → Prop) (Wx : List PyData → Prop) (C : Addr) : Sp := fun vs H Q E => spP K W vs H Q E ∨ ∃ F ds, Ex F H ∧ Dqs K F ds vs ∧ Wx ds ∧ ∀ F' H', Gr none F H F' H' → E (.ref C) none H'
section
variable {K : PySem.W.Frag} {t : Option Addr} {ρ : Rho} {tr : TA} {Q : PyData → Prop}
theorem DE_callX {W : List PyData → (PyData → Prop) → Prop} {Wx : List PyData → Prop} {C : Addr} {E : XK} (h : DA K t tr ρ fun ds => W ds Q) : DE K t (tCall (spX K W Wx C) [] E tr) ρ Q := fun F0 H0 F H σ A QK k =>
  h F0 H0 F H σ A _ fun ds vs F1 H1 hq e1 z => .inl ⟨F1, ds, Q, e1.g.fh, by rw [List.append_nil]; exact z, hq, fun d v F' H' q g zd => k d v F' H' q (e1.trans ((A.step e1).stp g)) zd⟩
end
section
variable {P : Program} {w : World} {K : PySem.W.Frag} {mg : Str → Option Value} {base : Heap}
end
section
variable {X : Cx} {k : Nat} {f : Addr} {fd : FuncData} {ps : List Str} {sp : Sp} {E : L2.St → XK} {x : Str} {p pos : Pos} {e : Expr} {es : List Expr} {t : TA}
end
/-- what is told of an own class of errors -/
structure EC (K : PySem.W.Frag) (mg : Str → Option Value) (x : Str) (C : Addr) : Prop where
  g : mg x = some (.ref C)
  k : PySem.W.keepIn K (.ref C) = true
  b : PySem.W.subIn K (.ref C) (.type "BaseException") = some true
  t : PySem.W.typeIn K (.ref C) = some (.type "type")
  e : ExcC K C
/-- raise X('..') -/
def tRaise (C : Addr) (E : XK) : TS := fun _ _ H => E (.ref C) none H
end Cf
namespace Cf
open PySem PySem.Spec PyProof.Rows L2
open Evl (Ex)
local macro_rules | `(tactic| walk_at "d") => `(tactic| first
  | (with_reducible refine DS_seq ?_)
  | (with_reducible refine DS_if ?_)
  | (with_reducible refine DS_ret ?_)
  | (with_reducible refine DS_next ?_)
  | (with_reducible refine DS_retN ?_)
  | (with_reducible refine DS_set ?_)
  | (with_reducible refine DS_drop ?_)
  | (with_reducible refine DS_unpack ?_)
  | (with_reducible refine DS_par ?_)
  | (with_reducible refine DE_int ?_)
  | (with_reducible refine DE_bl ?_)
  | (with_reducible refine DE_non ?_)
  | (with_reducible refine DE_str ?_)
  | (with_reducible refine DE_isi ?_)
  | (with_reducible refine DE_and ?_)
  | (with_reducible refine DE_or ?_)
  | (with_reducible refine DE_not ?_)
  | (with_reducible refine DE_if ?_)
  | (with_reducible refine DE_chain ?_)
  | (with_reducible refine DE_tyIs ?_)
  | (with_reducible refine DE_tyNot ?_)
  | (with_reducible refine DE_call ?_)
  | ((with_reducible refine' DE_lenOw ?k1 ?_); (case k1 => exact rfl))
  | (with_reducible refine DE_cb ?_)
  | (with_reducible refine DE_new (DL_rep (DL_lst ?_)))
  | (with_reducible refine DE_op ?_)
  | (with_reducible refine DE_un ?_)
  | (with_reducible refine DE_tup ?_)
  | (with_reducible refine DT_test ?_)
  | (with_reducible refine DT_B ?_)
  | (with_reducible refine DT_and ?_)
  | (with_reducible refine DT_or ?_)
  | (with_reducible refine DT_not ?_)
  | (with_reducible refine DT_yes ?_)
  | (with_reducible refine DA_nil ?_)
  | (with_reducible refine DA_cons ?_)
  | (with_reducible refine DO_no ?_)
  | (with_reducible refine DO_at ?_)
  | (with_reducible refine DR_minus ?_)
  | (with_reducible refine DR_mod ?_)
  | (with_reducible refine DR_div ?_)
  | (with_reducible refine DR_pow ?_)
  | (with_reducible refine DR_lt ?_)
  | (with_reducible refine DR_le ?_)
  | (with_reducible refine DR_gt ?_)
  | (with_reducible refine DR_ge ?_)
  | (with_reducible refine DR_eq ?_)
  | (with_reducible refine DR_ne ?_)
  | (with_reducible refine DR_isN ?_)
  | (with_reducible refine DR_notN ?_)
  | (with_reducible refine DU_neg ?_)
  | (with_reducible refine DC_len ?_)
  | (with_reducible refine DC_int ?_)
  | (with_reducible refine DC_abs ?_)
  | (with_reducible refine DC_max2 ?_)
  | (with_reducible refine DC_min2 ?_)
  | (with_reducible refine DC_sum ?_)
  | (with_reducible refine DC_all ?_)
  | (with_reducible refine DC_any ?_)
  | (with_reducible refine DC_repr ?_)
  | (with_reducible refine ⟨_, kb_int _, ?_⟩)
  | (with_reducible refine ⟨_, kb_bool _, ?_⟩)
  | (with_reducible refine ⟨_, kb_list _, ?_⟩)
  | (with_reducible refine ⟨_, kb_tuple _, ?_⟩)
  | (with_reducible refine ⟨_, rfl, ?_⟩)
  | (with_reducible refine ⟨_, _, rfl, rfl, ?_⟩)
  | (with_reducible refine DE_callN ?_)
  | (with_reducible refine DE_callX ?_)
  | (with_reducible refine DR_notB ?_)
  | (with_reducible refine DE_emp ?_)
  | (with_reducible refine DE_new (DL_lst ?_))
  | (with_reducible refine DE_new (DL_sl ?_))
  | (with_reducible refine DE_slT ?_)
  | (with_reducible refine DC_list ?_)
  | ((with_reducible refine' DE_callT ?k1 ?_); (case k1 => exact rfl))
  | ((with_reducible refine' DE_var ?k1 ?_); (case k1 => exact rfl))
  | ((with_reducible refine' DE_varO ?k1 ?_); (case k1 => exact rfl))
  | ((with_reducible refine' DE_varN ?k1 ?_); (case k1 => exact rfl)))


def W__law_are_signs (ds : List PyData) (R : PyData → Prop) : Prop := ∃ (s : Int) (x : PyData), ds = [.int s, x] ∧ shortD x = true ∧ R (.bool (isWord s x))
def t__law_are_signs (K : PySem.W.Frag) : TS :=
  (tSeq (tIfS (tNot (tB (tCB (rIsi K) (tCons (tVar 1) (tCons (tC (.ty "list")) tNil)))))
    (tRet (tC (.bl false)))
    tNext)
    (tRet (tOp (rEqU K) (tLc (iList K (tVar 1)) (gName 2) (tOr (tNot (tB (tCall (spP K W__law_is_whole) [] E0 (tCons (tVar 2) tNil)))) (tNot (tTest (tChain rLeI rLtI (tC (.int 0)) (tVar 2) (tVar 0))))) (tVar 2) [2]) (tLst tNil))))
def W__law_is_rule (ds : List PyData) (R : PyData → Prop) : Prop := ∃ x, ds = [x] ∧ shortR x = true ∧ R (.bool (isRule x))
def t__law_is_rule (K : PySem.W.Frag) : TS :=
  (tSeq (tIfS (tOr (tNot (tB (tCB (rIsi K) (tCons (tVar 0) (tCons (tC (.ty "tuple")) tNil))))) (tOr (tTest (tOp (rNeU K) (tCB (rLenA K) (tCons (tVar 0) tNil)) (tC (.int 4)))) (tTest (tOp (rNeU K) (tLc (iTup K (tSl (rSlT K) (tVar 0) tNoPart (tPart (tC (.int 3))))) (gName 1) (tNot (tB (tCall (spP K W__law_is_whole) [] E0 (tCons (tVar 1) tNil)))) (tVar 1) [1]) (tLst tNil)))))
    (tRet (tC (.bl false)))
    tNext)
    (tSeq (tAsg (tVar 0) (gTup K 4 (gNames [2, 3, 4, 5])))
    (tSeq (tIfS (tOr (tNot (tTest (tChain rLeI rLeI (tC (.int 2)) (tVar 2) (tC (.int 4))))) (tOr (tTest (tOp rLtI (tVar 3) (tUn rNegI (tC (.int 100))))) (tOr (tNot (tTest (tChain rLeI rLeI (tC (.int 1)) (tVar 4) (tC (.int 10))))) (tTest (tOp rGtI (tOp (rPlus K) (tVar 3) (tVar 4)) (tC (.int 101)))))))
    (tRet (tC (.bl false)))
    tNext)
    (tRet (tAndV (tOp rLeI (tCall (spP K W__law_many) [] E0 (tCons (tVar 2) (tCons (tVar 4) tNil))) (tC (.int 1024))) (tAndV (tCall (spP K W__law_are_signs) [] E0 (tCons (tVar 2) (tCons (tVar 5) tNil))) (tOp (rEqU K) (tCB (rLenA K) (tCons (tVar 5) tNil)) (tCall (spP K W__law_many) [] E0 (tCons (tVar 2) (tCons (tVar 4) tNil))))))))))
end Cf
namespace Cf
open PySem PySem.Spec PyProof.Rows L2
open Evl (Ex)
local macro_rules | `(tactic| walk_at "d") => `(tactic| first
  | (with_reducible refine DS_seq ?_)
  | (with_reducible refine DS_if ?_)
  | (with_reducible refine DS_ret ?_)
  | (with_reducible refine DS_next ?_)
  | (with_reducible refine DS_retN ?_)
  | (with_reducible refine DS_set ?_)
  | (with_reducible refine DS_drop ?_)
  | (with_reducible refine DS_unpack ?_)
  | (with_reducible refine DS_par ?_)
  | (with_reducible refine DE_int ?_)
  | (with_reducible refine DE_bl ?_)
  | (with_reducible refine DE_non ?_)
  | (with_reducible refine DE_str ?_)
  | (with_reducible refine DE_isi ?_)
  | (with_reducible refine DE_and ?_)
  | (with_reducible refine DE_or ?_)
  | (with_reducible refine DE_not ?_)
  | (with_reducible refine DE_if ?_)
  | (with_reducible refine DE_chain ?_)
  | (with_reducible refine DE_tyIs ?_)
  | (with_reducible refine DE_tyNot ?_)
  | (with_reducible refine DE_call ?_)
  | ((with_reducible refine' DE_lenOw ?k1 ?_); (case k1 => exact rfl))
  | (with_reducible refine DE_cb ?_)
  | (with_reducible refine DE_new (DL_rep (DL_lst ?_)))
  | (with_reducible refine DE_op ?_)
  | (with_reducible refine DE_un ?_)
  | (with_reducible refine DE_tup ?_)
  | (with_reducible refine DT_test ?_)
  | (with_reducible refine DT_B ?_)
  | (with_reducible refine DT_and ?_)
  | (with_reducible refine DT_or ?_)
  | (with_reducible refine DT_not ?_)
  | (with_reducible refine DT_yes ?_)
  | (with_reducible refine DA_nil ?_)
  | (with_reducible refine DA_cons ?_)
  | (with_reducible refine DO_no ?_)
  | (with_reducible refine DO_at ?_)
  | (with_reducible refine DR_minus ?_)
  | (with_reducible refine DR_mod ?_)
  | (with_reducible refine DR_div ?_)
  | (with_reducible refine DR_pow ?_)
  | (with_reducible refine DR_lt ?_)
  | (with_reducible refine DR_le ?_)
  | (with_reducible refine DR_gt ?_)
  | (with_reducible refine DR_ge ?_)
  | (with_reducible refine DR_eq ?_)
  | (with_reducible refine DR_ne ?_)
  | (with_reducible refine DR_isN ?_)
  | (with_reducible refine DR_notN ?_)
  | (with_reducible refine DU_neg ?_)
  | (with_reducible refine DC_len ?_)
  | (with_reducible refine DC_int ?_)
  | (with_reducible refine DC_abs ?_)
  | (with_reducible refine DC_max2 ?_)
  | (with_reducible refine DC_min2 ?_)
  | (with_reducible refine DC_sum ?_)
  | (with_reducible refine DC_all ?_)
  | (with_reducible refine DC_any ?_)
  | (with_reducible refine DC_repr ?_)
  | (with_reducible refine ⟨_, kb_int _, ?_⟩)
  | (with_reducible refine ⟨_, kb_bool _, ?_⟩)
  | (with_reducible refine ⟨_, kb_list _, ?_⟩)
  | (with_reducible refine ⟨_, kb_tuple _, ?_⟩)
  | (with_reducible refine ⟨_, rfl, ?_⟩)
  | (with_reducible refine ⟨_, _, rfl, rfl, ?_⟩)
  | (with_reducible refine DE_callN ?_)
  | (with_reducible refine DE_callX ?_)
  | (with_reducible refine DR_notB ?_)
  | (with_reducible refine DE_emp ?_)
  | (with_reducible refine DE_new (DL_lst ?_))
  | (with_reducible refine DE_new (DL_sl ?_))
  | (with_reducible refine DE_slT ?_)
  | (with_reducible refine DC_list ?_)
  | ((with_reducible refine' DE_callT ?k1 ?_); (case k1 => exact rfl))
  | ((with_reducible refine' DE_var ?k1 ?_); (case k1 => exact rfl))
  | ((with_reducible refine' DE_varO ?k1 ?_); (case k1 => exact rfl))
  | ((with_reducible refine' DE_varN ?k1 ?_); (case k1 => exact rfl)))


abbrev Itk (d : PyData) : Prop := Shw 47 1 d
def NiceR (x : PyData) : Prop := shortR x = true ∧ Shw 260000 4 x
def W__law_near_rules (ds : List PyData) (R : PyData → Prop) : Prop := ∃ (s f : Int) (w : Nat) (T : List Int), ds = [rlD s f w T] ∧ Rl s f w T ∧ ∀ xs : List PyData, xs.length ≤ 45 → (∀ x ∈ xs, NiceR x) → R (.list xs)
def t__law_near_rules (K : PySem.W.Frag) : TS :=
  (tSeq (tAsg (tVar 1) (gTup K 4 (gNames [2, 3, 4, 5])))
    (tSeq (tAsg (tCall (spT K W__law_draw) [] E0 (tCons (tVar 0) (tCons (tCB (rLenA K) (tCons (tVar 5) tNil)) tNil))) (gName 6))
    (tSeq (tAsg (tLst (tCons (tVar 1) (tCons (tCB (rListA K) (tCons (tVar 1) tNil)) (tCons (tSl (rSlT K) (tVar 1) tNoPart (tPart (tC (.int 3)))) (tCons (tOp (rPlus K) (tVar 1) (tTup (tCons (tC (.int 0)) tNil))) (tCons (tTup (tCons (tVar 2) (tCons (tVar 3) (tCons (tVar 4) (tCons (tThen (tVar 5) (kTup K)) tNil))))) (tCons (tTup (tCons (tVar 2) (tCons (tVar 3) (tCons (tVar 4) (tCons (tC .non) tNil))))) tNil))))))) (gName 7))
    (tSeq (tFor (iList K (tLst (tCons (tC (.int 1)) (tCons (tC (.int 5)) (tCons (tC (.int 0)) (tCons (tC (.bl true)) (tCons (tC .non) (tCons (tC (.str "2")) (tCons (tC (.int 3)) (tCons (tC (.int 4)) (tCons (tC (.int 2)) tNil))))))))))) (gName 8)
    (tDrop (tBM K "list" rAppend (tVar 7) (tCons (tTup (tCons (tVar 8) (tCons (tVar 3) (tCons (tVar 4) (tCons (tVar 5) tNil))))) tNil))))
    (tSeq (tFor (iList K (tLst (tCons (tUn rNegI (tC (.int 100))) (tCons (tUn rNegI (tC (.int 101))) (tCons (tOp rMinus (tC (.int 101)) (tVar 4)) (tCons (tOp rMinus (tC (.int 102)) (tVar 4)) (tCons (tC (.bl true)) (tCons (tC .non) (tCons (tC (.str "0")) (tCons (tOp rPowI (tC (.int 10)) (tC (.int 39))) (tCons (tUn rNegI (tOp rPowI (tC (.int 10)) (tC (.int 39)))) (tCons (tLst (tCons (tC (.int 0)) tNil)) tNil)))))))))))) (gName 8)
    (tDrop (tBM K "list" rAppend (tVar 7) (tCons (tTup (tCons (tVar 2) (tCons (tVar 8) (tCons (tVar 4) (tCons (tVar 5) tNil))))) tNil))))
    (tSeq (tFor (iList K (tLst (tCons (tC (.int 0)) (tCons (tUn rNegI (tC (.int 1))) (tCons (tOp (rPlus K) (tVar 4) (tC (.int 1))) (tCons (tOp rMinus (tVar 4) (tC (.int 1))) (tCons (tC (.int 11)) (tCons (tC (.bl true)) (tCons (tC .non) (tCons (tOp rPowI (tC (.int 10)) (tC (.int 39))) tNil)))))))))) (gName 8)
    (tDrop (tBM K "list" rAppend (tVar 7) (tCons (tTup (tCons (tVar 2) (tCons (tVar 3) (tCons (tVar 8) (tCons (tVar 5) tNil))))) tNil))))
    (tSeq (tFor (iList K (tLst (tCons (tVar 2) (tCons (tUn rNegI (tC (.int 1))) (tCons (tC (.bl true)) (tCons (tC (.bl false)) (tCons (tC .non) (tCons (tC (.str "0")) (tCons (tLst (tCons (tC (.int 0)) tNil)) (tCons (tOp rPowI (tC (.int 10)) (tC (.int 39))) (tCons (tOp rMinus (tVar 2) (tC (.int 1))) tNil))))))))))) (gName 8)
    (tDrop (tBM K "list" rAppend (tVar 7) (tCons (tTup (tCons (tVar 2) (tCons (tVar 3) (tCons (tVar 4) (tCons (tOp (rPlus K) (tOp (rPlus K) (tSl (rSlL K) (tVar 5) tNoPart (tPart (tVar 6))) (tLst (tCons (tVar 8) tNil))) (tSl (rSlL K) (tVar 5) (tPart (tOp (rPlus K) (tVar 6) (tC (.int 1)))) tNoPart)) tNil))))) tNil))))
    (tSeq (tAsg (tOp (rPlus K) (tVar 7) (tLst (tCons (tTup (tCons (tVar 2) (tCons (tVar 3) (tCons (tVar 4) (tCons (tSl (rSlL K) (tVar 5) (tPart (tC (.int 1))) tNoPart) tNil))))) (tCons (tTup (tCons (tVar 2) (tCons (tVar 3) (tCons (tVar 4) (tCons (tOp (rPlus K) (tVar 5) (tLst (tCons (tC (.int 0)) tNil))) tNil))))) tNil)))) (gName 7))
    (tRet (tOp (rPlus K) (tVar 7) (tLst (tCons (tTup (tCons (tVar 2) (tCons (tVar 3) (tCons (tVar 4) (tCons (tOp (rTimesL K) (tVar 5) (tVar 2)) tNil))))) tNil))))))))))))
def NiceG (x : PyData) : Prop := shortD x = true ∧ Shw 260000 4 x
def W__law_near_rings (ds : List PyData) (R : PyData → Prop) : Prop := ∃ (s : Int) (r : List Int), ds = [.int s, LI r] ∧ 2 ≤ s ∧ s ≤ 4 ∧ r ≠ [] ∧ r.length ≤ 512 ∧ Signs s r ∧ ∀ xs : List PyData, xs.length ≤ 23 → (∀ x ∈ xs, NiceG x) → R (.list xs)
def t__law_near_rings (K : PySem.W.Frag) : TS :=
  (tSeq (tAsg (tCall (spT K W__law_draw) [] E0 (tCons (tVar 0) (tCons (tCB (rLenA K) (tCons (tVar 2) tNil)) tNil))) (gName 3))
    (tSeq (tAsg (tLst (tCons (tVar 2) (tCons (tThen (tVar 2) (kTup K)) (tCons (tLst tNil) (tCons (tLst (tCons (tVar 2) tNil)) (tCons (tOp (rPlus K) (tVar 2) (tLst (tCons (tVar 1) tNil))) (tCons (tOp rTimes (tLst (tCons (tC (.int 0)) tNil)) (tC (.int 512))) (tCons (tOp rTimes (tLst (tCons (tC (.int 0)) tNil)) (tC (.int 513))) (tCons (tC .non) (tCons (tC (.int 0)) (tCons (tC (.str "01")) (tCons tDNewK (tCons (tLst (tCons (tLst (tCons (tC (.int 0)) tNil)) tNil)) (tCons (tLst (tCons (tC .non) tNil)) tNil)))))))))))))) (gName 4))
    (tSeq (tFor (iList K (tLst (tCons (tVar 1) (tCons (tUn rNegI (tC (.int 1))) (tCons (tC (.bl true)) (tCons (tC (.bl false)) (tCons (tC .non) (tCons (tC (.str "0")) (tCons (tTup (tCons (tC (.int 0)) tNil)) (tCons (tOp rPowI (tC (.int 10)) (tC (.int 39))) (tCons (tOp rMinus (tVar 1) (tC (.int 1))) (tCons (tC (.int 0)) tNil)))))))))))) (gName 5)
    (tDrop (tBM K "list" rAppend (tVar 4) (tCons (tOp (rPlus K) (tOp (rPlus K) (tSl (rSlL K) (tVar 2) tNoPart (tPart (tVar 3))) (tLst (tCons (tVar 5) tNil))) (tSl (rSlL K) (tVar 2) (tPart (tOp (rPlus K) (tVar 3) (tC (.int 1)))) tNoPart)) tNil))))
    (tRet (tVar 4)))))
end Cf
namespace Cf
open PySem PySem.Spec PyProof.Rows L2
open Evl (Ex)
local macro_rules | `(tactic| walk_at "d") => `(tactic| first
  | (with_reducible refine DS_seq ?_)
  | (with_reducible refine DS_if ?_)
  | (with_reducible refine DS_ret ?_)
  | (with_reducible refine DS_next ?_)
  | (with_reducible refine DS_retN ?_)
  | (with_reducible refine DS_set ?_)
  | (with_reducible refine DS_drop ?_)
  | (with_reducible refine DS_unpack ?_)
  | (with_reducible refine DS_par ?_)
  | (with_reducible refine DE_int ?_)
  | (with_reducible refine DE_bl ?_)
  | (with_reducible refine DE_non ?_)
  | (with_reducible refine DE_str ?_)
  | (with_reducible refine DE_isi ?_)
  | (with_reducible refine DE_and ?_)
  | (with_reducible refine DE_or ?_)
  | (with_reducible refine DE_not ?_)
  | (with_reducible refine DE_if ?_)
  | (with_reducible refine DE_chain ?_)
  | (with_reducible refine DE_tyIs ?_)
  | (with_reducible refine DE_tyNot ?_)
  | (with_reducible refine DE_call ?_)
  | ((with_reducible refine' DE_lenOw ?k1 ?_); (case k1 => exact rfl))
  | (with_reducible refine DE_cb ?_)
  | (with_reducible refine DE_new (DL_rep (DL_lst ?_)))
  | (with_reducible refine DE_op ?_)
  | (with_reducible refine DE_un ?_)
  | (with_reducible refine DE_tup ?_)
  | (with_reducible refine DT_test ?_)
  | (with_reducible refine DT_B ?_)
  | (with_reducible refine DT_and ?_)
  | (with_reducible refine DT_or ?_)
  | (with_reducible refine DT_not ?_)
  | (with_reducible refine DT_yes ?_)
  | (with_reducible refine DA_nil ?_)
  | (with_reducible refine DA_cons ?_)
  | (with_reducible refine DO_no ?_)
  | (with_reducible refine DO_at ?_)
  | (with_reducible refine DR_minus ?_)
  | (with_reducible refine DR_mod ?_)
  | (with_reducible refine DR_div ?_)
  | (with_reducible refine DR_pow ?_)
  | (with_reducible refine DR_lt ?_)
  | (with_reducible refine DR_le ?_)
  | (with_reducible refine DR_gt ?_)
  | (with_reducible refine DR_ge ?_)
  | (with_reducible refine DR_eq ?_)
  | (with_reducible refine DR_ne ?_)
  | (with_reducible refine DR_isN ?_)
  | (with_reducible refine DR_notN ?_)
  | (with_reducible refine DU_neg ?_)
  | (with_reducible refine DC_len ?_)
  | (with_reducible refine DC_int ?_)
  | (with_reducible refine DC_abs ?_)
  | (with_reducible refine DC_max2 ?_)
  | (with_reducible refine DC_min2 ?_)
  | (with_reducible refine DC_sum ?_)
  | (with_reducible refine DC_all ?_)
  | (with_reducible refine DC_any ?_)
  | (with_reducible refine DC_repr ?_)
  | (with_reducible refine ⟨_, kb_int _, ?_⟩)
  | (with_reducible refine ⟨_, kb_bool _, ?_⟩)
  | (with_reducible refine ⟨_, kb_list _, ?_⟩)
  | (with_reducible refine ⟨_, kb_tuple _, ?_⟩)
  | (with_reducible refine ⟨_, rfl, ?_⟩)
  | (with_reducible refine ⟨_, _, rfl, rfl, ?_⟩)
  | (with_reducible refine DE_callN ?_)
  | (with_reducible refine DE_callX ?_)
  | (with_reducible refine DR_notB ?_)
  | (with_reducible refine DE_emp ?_)
  | (with_reducible refine DE_new (DL_lst ?_))
  | (with_reducible refine DE_new (DL_sl ?_))
  | (with_reducible refine DE_slT ?_)
  | (with_reducible refine DC_list ?_)
  | ((with_reducible refine' DE_callT ?k1 ?_); (case k1 => exact rfl))
  | ((with_reducible refine' DE_var ?k1 ?_); (case k1 => exact rfl))
  | ((with_reducible refine' DE_varO ?k1 ?_); (case k1 => exact rfl))
  | ((with_reducible refine' DE_varN ?k1 ?_); (case k1 => exact rfl)))


theorem kit_blt {K : PySem.W.Frag} {C : Addr} {T : String} {b : Bool} (m : PySem.W.kitMeta T = true) (h : PySem.W.subIn K (.ref C) (.type T) = some b) : PySem.W.kitOne K (.ref C) (.type T) = some b := by
  unfold PySem.W.kitOne
  rw [if_neg (show ¬ ((Value.ref C == Value.type T) = true) by simp)]
  show (if PySem.W.kitMeta T = true then PySem.W.subIn K (.ref C) (.type T) else none) = some b
  rw [if_pos m]
  exact h
def Wx_check_signs (ds : List PyData) : Prop := ∃ x, ds = [x] ∧ isSign x = false
def Wx_is_ring (ds : List PyData) : Prop := ∃ s x, ds = [s, x] ∧ isSign s = false
def tx_check_signs (C : Addr) (E : XK) (K : PySem.W.Frag) : TS :=
  (tIfS (tNot (tB (tCall (spP K W_is_sign_count) [] E0 (tCons (tVar 0) tNil))))
    (tRaise C E)
    tNext)
def tx_is_ring (C : Addr) (E : XK) (K : PySem.W.Frag) : TS :=
  (tSeq (tDrop (tCall (spX K W_check_signs Wx_check_signs C) [] E (tCons (tVar 0) tNil)))
    (tRet (tAndV (tCall (spP K W_is_word) [] E0 (tCons (tVar 0) (tCons (tVar 1) tNil))) (tChain rLeI rLeI (tC (.int 1)) (tCB (rLenA K) (tCons (tVar 1) tNil)) (tC (.int 512))))))
/-! ### an error caught and kept -/
def W__law_word_of_error (ds : List PyData) (R : PyData → Prop) : Prop := ∃ s x, ds = [s, x] ∧ isSign s = false ∧ R (.bool true)
/-- the try: CF is the class of the clause, C that of the error -/
def tTryE (K : PySem.W.Frag) (C CF : Addr) : TS := fun D σ H =>
  (tDrop (tCallS (spX K W_is_ring Wx_is_ring C) (WE (wKeep K (.ref CF) 3 (fun _ _ _ => tAsg (tVar 3) (gName 2)) (fun _ _ _ _ => False) D)) (tCons (tVar 0) (tCons (tVar 1) tNil)))) D σ H
def rIsiX (K : PySem.W.Frag) : List V → Hp → VK → Prop := fun xs H Q => rIsi K xs H Q ∨ rIsX K xs H Q
def t__law_word_of_error (C CF : Addr) (K : PySem.W.Frag) : TS :=
  (tSeq (tAsg (tC .non) (gName 2))
    (tSeq (tTryE K C CF)
    (tRet (tAndV (tOp rNotNone (tVar 2) (tC .non)) (tAndV (tCB (rIsiX K) (tCons (tVar 2) (tCons (tC (.ref C)) tNil))) (tCB (rIsiX K) (tCons (tVar 2) (tCons (tC (.ty "ValueError")) tNil))))))))
end Cf
/-! what the written part says of the classes of errors -/
namespace Cf
open PySem PySem.Spec PyProof.Rows L2
open Evl (Ex)
def ecNs : List Str := ["InvalidRule", "InvalidWeight", "InvalidRing", "InvalidRuns", "InvalidSigns", "InvalidPairs", "InvalidMean", "InvalidCells", "InvalidTicks", "InvalidTotal", "InvalidIndex", "InvalidMark", "InvalidCell", "InvalidSign", "InvalidCommand", "UnlikeSigns", "NotKept", "NotFitting", "NothingToUndo", "TooLarge", "InvalidText", "FlowError"]
def ecN (i : Nat) : Str := ecNs.getD i ""
def veL : List Value := [.type "ValueError", .type "Exception", .type "BaseException", .type "object"]
def ecB (FE : Addr) (i : Nat) : List Value := if i = 21 then veL else .ref FE :: veL
structure Ec1 (K : PySem.W.Frag) (mg : Str → Option Value) (nm : Str) (c : Addr) (bm : List Value) : Prop where
  g : mg nm = some (.ref c)
  l : ∃ dd cd sl, K.lookup c = some ⟨.type "type", dd, .cls cd, sl⟩ ∧ cd.mro = .ref c :: bm ∧ cd.hasDict = true
  ga : PySem.W.findIn K (.ref c) "__getattribute__" = some (some (.builtin "BaseException.__getattribute__"))
  gg : PySem.W.findIn K (.ref c) "__getattr__" = some none
  gc : PySem.W.findIn K (.ref c) "__class__" = some (some (.builtin "object.__class__"))
section
variable {K : PySem.W.Frag} {mg : Str → Option Value} {nm : Str} {c FE : Addr} {bm : List Value} {i : Nat}
theorem Ec1.cls (h : Ec1 K mg nm c bm) : ∃ cd, PySem.W.clsIn K c = some cd ∧ cd.mro = .ref c :: bm ∧ cd.hasDict = true := by
  obtain ⟨dd, cd, sl, e, e1, e2⟩ := h.l
  refine ⟨cd, ?_, e1, e2⟩
  unfold PySem.W.clsIn
  rw [e]
theorem Ec1.sub (h : Ec1 K mg nm c bm) (b : Value) : PySem.W.subIn K (.ref c) b = some ((Value.ref c :: bm).contains b) := by
  obtain ⟨cd, e, e1, _⟩ := h.cls
  show PySem.W.mroIn K c b = _
  unfold PySem.W.mroIn
  rw [e, Option.bind_some, e1]
  rfl
theorem Ec1.typ (h : Ec1 K mg nm c bm) : PySem.W.typeIn K (.ref c) = some (.type "type") := by
  obtain ⟨dd, cd, sl, e, _⟩ := h.l
  show (K.lookup c).map (·.cls) = _
  rw [e]
  rfl
theorem Ec1.keep (h : Ec1 K mg nm c bm) : PySem.W.keepIn K (.ref c) = true := by
  obtain ⟨dd, cd, sl, e, _⟩ := h.l
  unfold PySem.W.keepIn
  simp only [e]
  unfold PySem.W.specialIn
  rw [h.typ, Option.bind_some]
  show (fastLookup "type" "__call__" == _) = true
  decide +kernel
theorem ec_tail (FE : Addr) (i : Nat) (b : Value) : (ecB FE i).contains b = ((decide (i ≠ 21) && (b == Value.ref FE)) || veL.contains b) := by
  unfold ecB
  by_cases h : i = 21
  · rw [if_pos h]
    simp [h]
  · rw [if_neg h]
    simp only [List.contains_cons]
    simp [h]
theorem ve_ref (a : Addr) : veL.contains (.ref a) = false := by
  simp [veL]
theorem Ec1.exc (h : Ec1 K mg nm c (ecB FE i)) (hn : PySem.W.specialIn K (.builtin "object.__class__") "__get__" = some (some (.builtin "getset_descriptor.__get__"))) (ht : PySem.W.takesIn K (.builtin "object.__class__") = some true) : ExcC K c where
  hg := h.ga
  hk := h.gg
  hs := by
    rw [h.sub, List.contains_cons, ec_tail]
    simp [veL]
  hd := by
    obtain ⟨cd, e, _, e2⟩ := h.cls
    unfold PySem.W.hasDictIn
    rw [e]
    simpa using e2
  ha := h.gc
  hn := hn
  ht := ht
  hm := by
    have := h.sub (.type "object")
    show PySem.W.mroIn K c (.type "object") = _
    rw [show PySem.W.mroIn K c (.type "object") = PySem.W.subIn K (.ref c) (.type "object") from rfl, this, List.contains_cons, ec_tail]
    simp [veL]
theorem Ec1.xf (h : Ec1 K mg nm c (ecB FE i)) (x : ExcC K c) : XfC K c := ⟨h.ga, h.gg, x.hs, x.hd⟩
theorem Ec1.kitV (h : Ec1 K mg nm c (ecB FE i)) : PySem.W.kitOne K (.ref c) (.type "ValueError") = some true := kit_blt (by decide +kernel) (by
  rw [h.sub, List.contains_cons, ec_tail]
  simp [veL])
theorem ec_kit {j : Nat} {nm' : Str} {c' : Addr} (h : Ec1 K mg nm c (ecB FE i)) (h' : Ec1 K mg nm' c' (ecB FE j)) (e : c = c' ↔ i = j) (e2 : c' = FE ↔ j = 21) : PySem.W.kitOne K (.ref c) (.ref c') = some (i == j || j == 21) := by
  unfold PySem.W.kitOne
  by_cases hc : c = c'
  · subst hc
    have hij := e.mp rfl
    subst hij
    rw [if_pos (beq_self_eq_true _)]
    simp
  · have nij : i ≠ j := fun z => hc (e.mpr z)
    rw [if_neg (by simpa using hc)]
    obtain ⟨cd, ec, _⟩ := h'.cls
    show (if ((PySem.W.clsIn K c').isSome && PySem.W.typeIn K (.ref c') == some (.type "type")) = true then PySem.W.subIn K (.ref c) (.ref c') else none) = _
    rw [if_pos (by rw [ec, h'.typ]; rfl), h.sub, List.contains_cons, ec_tail, ve_ref, Bool.or_false]
    by_cases hj : j = 21
    · have hi : i ≠ 21 := fun z => nij (z.trans hj.symm)
      have := e2.mpr hj
      simp [hj, hi, this]
    · have := fun z => hj (e2.mp z)
      have b1 : (Value.ref c' == Value.ref c) = false := beq_false_of_ne fun z => hc (Value.ref.inj z).symm
      have b2 : (Value.ref c' == Value.ref FE) = false := beq_false_of_ne fun z => this (Value.ref.inj z)
      have b3 : (i == j) = false := beq_false_of_ne nij
      have b4 : (j == 21) = false := beq_false_of_ne hj
      rw [b1, b2, b3, b4, Bool.and_false]
end
/-- all of them; C i is where the class number i stands -/
structure EcF (P : Program) (K : PySem.W.Frag) (mg : Str → Option Value) (C : Nat → Addr) : Prop where
  g : ∀ i, i < 22 → mg (ecN i) = some (.ref (C i))
  ex : ∀ i, i < 22 → ExcC K (C i)
  xf : ∀ i, i < 22 → XfC K (C i)
  ki : ∀ i j, i < 22 → j < 22 → PySem.W.kitOne K (.ref (C i)) (.ref (C j)) = some (i == j || j == 21)
  kv : ∀ i, i < 22 → PySem.W.kitOne K (.ref (C i)) (.type "ValueError") = some true
  kp : ∀ i, i < 22 → PySem.W.keepIn K (.ref (C i)) = true
  x1 : ∀ i, i < 22 → i ≠ 19 → i ≠ 20 → PySem.W.excIn K (C i) veL "ValueError.__new__" = true
  tl : ∃ (fI cc cda : Addr) (qual : Str), OiT P K mg (C 19) fI cc cda "TooLarge" "more than " "limit" qual
  te : ∃ (fI cc cda : Addr) (qual : Str), OiT P K mg (C 20) fI cc cda "InvalidText" "wrong at the word " "place" qual
theorem ecF_mk {P : Program} {K : PySem.W.Frag} {mg : Str → Option Value} {C : Nat → Addr} (h : ∀ i, i < 22 → Ec1 K mg (ecN i) (C i) (ecB (C 21) i)) (nd : ∀ i j, i < 22 → j < 22 → C i = C j → i = j)
    (hn : PySem.W.specialIn K (.builtin "object.__class__") "__get__" = some (some (.builtin "getset_descriptor.__get__"))) (ht : PySem.W.takesIn K (.builtin "object.__class__") = some true)
    (x1 : ∀ i, i < 22 → i ≠ 19 → i ≠ 20 → PySem.W.excIn K (C i) veL "ValueError.__new__" = true)
    (tl : ∃ (fI cc cda : Addr) (qual : Str), OiT P K mg (C 19) fI cc cda "TooLarge" "more than " "limit" qual) (te : ∃ (fI cc cda : Addr) (qual : Str), OiT P K mg (C 20) fI cc cda "InvalidText" "wrong at the word " "place" qual) : EcF P K mg C where
  g := fun i hi => (h i hi).g
  ex := fun i hi => (h i hi).exc hn ht
  xf := fun i hi => (h i hi).xf ((h i hi).exc hn ht)
  ki := fun i j hi hj => ec_kit (h i hi) (h j hj) ⟨fun e => nd i j hi hj e, fun e => by rw [e]⟩ ⟨fun e => nd j 21 hj (by decide) e, fun e => by rw [e]⟩
  kv := fun i hi => (h i hi).kitV
  kp := fun i hi => (h i hi).keep
  x1 := x1
  tl := tl
  te := te
/-- X(text) -/
theorem pe_er1 {X : Cx} {C : Nat → Addr} {P : Program} (E : EcF P X.K X.mg C) (i : Nat) {e : Expr} {te : TE} {x : Str} {p pos : Pos} (hx : x = ecN i := by rfl) (hi : i < 22 := by decide) (h1 : i ≠ 19 := by decide) (h2 : i ≠ 20 := by decide) (hg : Gl X x) (he : PE X e te)
    (hs : starEach [e] X.env = (false, eval e X.env) :: starEach [] X.env := by rfl) (hdb : (x == ("__debug__" : Str)) = false := by decide) : PE X (.Call (.Name x p) [e] [] pos) (tEr1 (C i) te) :=
  pe_exc1 F.excBase_ValueError (E.x1 i hi h1 h2) (by rw [hx]; exact E.g i hi) (E.kp i hi) hg he hs hdb
/-- X(e), X with an own __init__ -/
theorem pe_oi {X : Cx} {C fI cc cda : Addr} {nm m x qual : Str} (T : OiT X.prog X.K X.mg C fI cc cda nm m x qual) (hx : OiX x) {e : Expr} {te : TE} {p pos : Pos} (hr : Room 2 X.A) (hg : Gl X nm) (he : PE X e te)
    (hs : starEach [e] X.env = (false, eval e X.env) :: starEach [] X.env := by rfl) (hdb : (nm == ("__debug__" : Str)) = false := by decide) : PE X (.Call (.Name nm p) [e] [] pos) (tErI C (spOi m x C) (tCons te tNil)) := by
  obtain ⟨fd, F1, hb⟩ := oi_ok (CX := CX0) (w := X.w) (base := X.base) hx T
  exact pe_erI T.ox T.iC T.tI F1 hr hb hg T.gC (pa_cons he pa_nil hs) hdb hs
theorem pe_erL {X : Cx} {C : Nat → Addr} (E : EcF X.prog X.K X.mg C) {e : Expr} {te : TE} {p pos : Pos} (hr : Room 2 X.A) (hg : Gl X "TooLarge") (he : PE X e te) (hs : starEach [e] X.env = (false, eval e X.env) :: starEach [] X.env := by rfl) :
    PE X (.Call (.Name "TooLarge" p) [e] [] pos) (tErI (C 19) (spOi "more than " "limit" (C 19)) (tCons te tNil)) := by
  obtain ⟨fI, cc, cda, qual, T⟩ := E.tl
  exact pe_oi T oiX_limit hr hg he hs
theorem pe_erT {X : Cx} {C : Nat → Addr} (E : EcF X.prog X.K X.mg C) {e : Expr} {te : TE} {p pos : Pos} (hr : Room 2 X.A) (hg : Gl X "InvalidText") (he : PE X e te) (hs : starEach [e] X.env = (false, eval e X.env) :: starEach [] X.env := by rfl) :
    PE X (.Call (.Name "InvalidText" p) [e] [] pos) (tErI (C 20) (spOi "wrong at the word " "place" (C 20)) (tCons te tNil)) := by
  obtain ⟨fI, cc, cda, qual, T⟩ := E.te
  exact pe_oi T oiX_place hr hg he hs
/-- a class as a value -/
theorem pe_ec {X : Cx} {C : Nat → Addr} {P : Program} (E : EcF P X.K X.mg C) (i : Nat) {x : Str} {pos : Pos} (hg : Gl X x) (hx : x = ecN i := by rfl) (hi : i < 22 := by decide) (hdb : (x == ("__debug__" : Str)) = false := by decide) : PE X (.Name x pos) (tC (.ref (C i))) :=
  pe_glob hg (by rw [hx]; exact E.g i hi) rfl hdb
theorem ec_nd {cs : List Addr} (h : cs.Nodup) {i j : Nat} (hi : i < 22) (hj : j < 22) (e : cs.getD i 0 = cs.getD j 0) (hl : cs.length = 22 := by rfl) : i = j := by
  rw [List.getD_eq_getElem?_getD, List.getD_eq_getElem?_getD, List.getElem?_eq_getElem (show i < cs.length by omega), List.getElem?_eq_getElem (show j < cs.length by omega)] at e
  have hp := List.pairwise_iff_getElem.mp h
  rcases Nat.lt_trichotomy i j with q | q | q
  · exact absurd e (hp i j (by omega) (by omega) q)
  · exact q
  · exact absurd e.symm (hp j i (by omega) (by omega) q)
theorem ec_su {K : PySem.W.Frag} {mg : Str → Option Value} {nm nm' : Str} {c FE : Addr} {v : Value} (h : Ec1 K mg nm c (.ref FE :: veL)) (h' : Ec1 K mg nm' FE veL) (f : PySem.W.findIn K (.ref FE) "__init__" = some (some v)) : PySem.W.ks_superIn K c c "__init__" = some (some v) := by
  obtain ⟨cd, e, e1, _⟩ := h.cls
  obtain ⟨dd, cd', sl, e2, e3, _⟩ := h'.l
  unfold PySem.W.ks_superIn
  rw [e, Option.bind_some, e1]
  have d : ((Value.ref c :: Value.ref FE :: veL).dropWhile (· != .ref c)).drop 1 = .ref FE :: veL := by
    rw [List.dropWhile_cons, if_neg (by simp)]
    rfl
  rw [d]
  unfold PySem.W.findIn at f
  simp only [e2] at f
  rw [← e3]
  exact f
end Cf
/-! texts: what str, join, split, startswith, slices, int and walks over texts do to data -/
namespace Cf
open PySem PySem.Spec PyProof.Rows L2
open Evl (Ex)
/-- the decimal text of an integer -/
def tx (i : Int) : Str := Str.ofString (toString i)
def rStrI : List V → Hp → VK → Prop := fun xs H Q => ∃ i, xs = [.int i] ∧ i.natAbs.log2 < 1920 ∧ Q (.str (Str.ofString (toString i))) H
def rIntS : List V → Hp → VK → Prop := fun xs H Q => ∃ a n, xs = [V.str a] ∧ intText? a = some n ∧ a.length ≤ 640 ∧ Q (V.int n) H
def rJoin (K : PySem.W.Frag) : V → List V → Hp → VK → Prop := fun x xs H Q => ∃ a p, ∃ ys : List Str, x = .str a ∧ xs = [.ref p] ∧ (SqL K H p (ys.map V.str) ∨ SqT K H p (ys.map V.str)) ∧ (ys.map (·.length)).sum + ys.length * a.length ≤ 16777216 ∧ Q (.str (Txt.join a ys)) H
def rSplit : V → List V → Hp → VK → Prop := fun x xs H Q => ∃ a b, x = V.str a ∧ xs = [V.str b] ∧ (b.length == 0) = false ∧ a.length + 2 ≤ sizeLine ∧ rNewStrs (Txt.split a b) H Q
def rStarts : V → List V → Hp → VK → Prop := fun x xs H Q => ∃ a b, x = V.str a ∧ xs = [V.str b] ∧ Q (V.bl (Txt.startswith a b)) H
def rInS : R2 := fun x y H Q => ∃ i j, x = V.str i ∧ y = V.str j ∧ Q (V.bl !(Builtin.Str.occurrences j i 0 j.length 1).isEmpty) H
def rSlS : V → Option Int → Option Int → Hp → VK → Prop := fun x lo hi H Q => ∃ z, x = .str z ∧ z.length ≤ sizeLine ∧ Q (.str (Txt.slice z lo hi)) H
section
variable {K : PySem.W.Frag} {t : Option Addr} {ρ : Rho} {i : Nat} {te tl to : TE} {tr : TA}
theorem Dqs.strs {F : Hp} : ∀ {ns : List Str} {vs : List V}, Dqs K F (ns.map .str) vs → vs = ns.map V.str
  | [], _, .nil => rfl
  | _ :: ns, _, .cons h1 h2 => by
    cases h1
    rw [Dqs.strs (ns := ns) h2]
    rfl
theorem DE_join {Q : PyData → Prop} (h : DE K t to ρ fun x => ∃ a, x = .str a ∧ DE K t te ρ fun y => ∃ ys : List Str, y = .list (ys.map .str) ∧ (ys.map (·.length)).sum + ys.length * a.length ≤ 16777216 ∧ Q (.str (Txt.join a ys))) : DE K t (tM1 (rJoin K) to te) ρ Q := fun F0 H0 F H σ A QK k =>
  h F0 H0 F H σ A _ fun x v F1 H1 hq e1 z => by
    have A1 := A.step e1
    obtain ⟨a, rfl, hq⟩ := hq
    cases z
    refine ⟨⟨a, rfl⟩, hq F0 H0 F1 H1 σ A1 _ fun y w F2 H2 hy e2 zy => ?_⟩
    have A2 := A1.step e2
    obtain ⟨ys, rfl, hs, q⟩ := hy
    cases zy with
    | @lst p xs _ s1 s2 =>
      have es := s2.strs
      subst es
      exact ⟨a, p, ys, rfl, rfl, .inl (Evl.ex_l A2.fh s1), hs, k _ _ F2 H2 q (e1.trans e2) (.str _)⟩
end
end Cf
namespace Cf
open PySem PySem.Spec PyProof.Rows L2
open Evl (Ex)
local macro_rules | `(tactic| walk_at "d") => `(tactic| first
  | (with_reducible refine DS_seq ?_)
  | (with_reducible refine DS_if ?_)
  | (with_reducible refine DS_ret ?_)
  | (with_reducible refine DS_next ?_)
  | (with_reducible refine DS_retN ?_)
  | (with_reducible refine DS_set ?_)
  | (with_reducible refine DS_drop ?_)
  | (with_reducible refine DS_unpack ?_)
  | (with_reducible refine DS_par ?_)
  | (with_reducible refine DE_int ?_)
  | (with_reducible refine DE_bl ?_)
  | (with_reducible refine DE_non ?_)
  | (with_reducible refine DE_str ?_)
  | (with_reducible refine DE_isi ?_)
  | (with_reducible refine DE_and ?_)
  | (with_reducible refine DE_or ?_)
  | (with_reducible refine DE_not ?_)
  | (with_reducible refine DE_if ?_)
  | (with_reducible refine DE_chain ?_)
  | (with_reducible refine DE_tyIs ?_)
  | (with_reducible refine DE_tyNot ?_)
  | (with_reducible refine DE_call ?_)
  | ((with_reducible refine' DE_lenOw ?k1 ?_); (case k1 => exact rfl))
  | ((with_reducible refine' DE_reprOw ?k1 ?_); (case k1 => exact rfl))
  | ((with_reducible refine' DE_ixOw ?k1 ?_); (case k1 => exact rfl))
  | ((with_reducible refine' DE_lenOw ?k1 ?_); (case k1 => exact rfl))
  | (with_reducible refine DE_cb ?_)
  | (with_reducible refine DE_new (DL_rep (DL_lst ?_)))
  | (with_reducible refine DE_op ?_)
  | (with_reducible refine DE_un ?_)
  | (with_reducible refine DE_tup ?_)
  | (with_reducible refine DT_test ?_)
  | (with_reducible refine DT_B ?_)
  | (with_reducible refine DT_and ?_)
  | (with_reducible refine DT_or ?_)
  | (with_reducible refine DT_not ?_)
  | (with_reducible refine DT_yes ?_)
  | (with_reducible refine DA_nil ?_)
  | (with_reducible refine DA_cons ?_)
  | (with_reducible refine DO_no ?_)
  | (with_reducible refine DO_at ?_)
  | (with_reducible refine DR_minus ?_)
  | (with_reducible refine DR_mod ?_)
  | (with_reducible refine DR_div ?_)
  | (with_reducible refine DR_pow ?_)
  | (with_reducible refine DR_lt ?_)
  | (with_reducible refine DR_le ?_)
  | (with_reducible refine DR_gt ?_)
  | (with_reducible refine DR_ge ?_)
  | (with_reducible refine DR_eq ?_)
  | (with_reducible refine DR_ne ?_)
  | (with_reducible refine DR_isN ?_)
  | (with_reducible refine DR_notN ?_)
  | (with_reducible refine DU_neg ?_)
  | (with_reducible refine DC_len ?_)
  | (with_reducible refine DC_int ?_)
  | (with_reducible refine DC_abs ?_)
  | (with_reducible refine DC_max2 ?_)
  | (with_reducible refine DC_min2 ?_)
  | (with_reducible refine DC_sum ?_)
  | (with_reducible refine DC_all ?_)
  | (with_reducible refine DC_any ?_)
  | (with_reducible refine DC_repr ?_)
  | (with_reducible refine ⟨_, kb_int _, ?_⟩)
  | (with_reducible refine ⟨_, kb_bool _, ?_⟩)
  | (with_reducible refine ⟨_, kb_list _, ?_⟩)
  | (with_reducible refine ⟨_, kb_tuple _, ?_⟩)
  | (with_reducible refine ⟨_, rfl, ?_⟩)
  | (with_reducible refine ⟨_, _, rfl, rfl, ?_⟩)
  | (with_reducible refine DE_callN ?_)
  | (with_reducible refine DE_callX ?_)
  | (with_reducible refine DR_notB ?_)
  | (with_reducible refine DE_emp ?_)
  | (with_reducible refine DE_new (DL_lst ?_))
  | (with_reducible refine DE_new (DL_callF ?_))
  | (with_reducible refine DE_new (DL_sl ?_))
  | (with_reducible refine DE_slT ?_)
  | (with_reducible refine DC_list ?_)
  | ((with_reducible refine' DE_callT ?k1 ?_); (case k1 => exact rfl))
  | ((with_reducible refine' DE_var ?k1 ?_); (case k1 => exact rfl))
  | ((with_reducible refine' DE_varO ?k1 ?_); (case k1 => exact rfl))
  | ((with_reducible refine' DE_varN ?k1 ?_); (case k1 => exact rfl)))


/-! k19 -/
theorem lay_bls : ∀ bs : List Bool, PyData.canLayAll0 (bs.map .bool) = true
  | [] => by simp only [List.map_nil, PyData.canLayAll0]
  | n :: ns => by simp only [List.map_cons, PyData.canLayAll0, PyData.canLay0, lay_bls ns, Bool.and_self]
theorem dep_bls : ∀ bs : List Bool, PyData.depthAll (bs.map .bool) = 0
  | [] => by simp only [List.map_nil, PyData.depthAll]
  | n :: ns => by simp only [List.map_cons, PyData.depthAll, PyData.depth, dep_bls ns, Nat.max_self]
theorem shp_LB (bs : List Bool) : SeqAt.shaped (.list (bs.map .bool)) = true := by
  unfold SeqAt.shaped
  simp only [PyData.canLay0, PyData.depth, lay_bls, dep_bls]
  decide
abbrev LB (bs : List Bool) : PyData := .list (bs.map .bool)
/-- which class: one of 21, or none -/
def whB (i : Nat) : List Bool := (List.range 21).map fun j => i == j
theorem DE_is {K : PySem.W.Frag} {mg : Str → Option Value} {P : Program} {C : Nat → Addr} {t : Option Addr} {ρ : Rho} {i j k : Nat} {fd : Option (Str × PyData)} {Q : PyData → Prop} (E : EcF P K mg C) (h : ρ[k]? = some (.pr (VEr K (C i) fd))) (hi : i < 22) (hj : j < 22) (q : Q (.bool (i == j || j == 21))) :
    DE K t (tCB (rIsEr K) (tCons (tVar k) (tCons (tC (.ref (C j))) tNil))) ρ Q := DE_isEr (DV_var h ⟨_, _, .ref (C j), _, rfl, E.ex i hi, fun u r => r, E.ki i j hi hj, q⟩)
theorem DE_isV {K : PySem.W.Frag} {mg : Str → Option Value} {P : Program} {C : Nat → Addr} {t : Option Addr} {ρ : Rho} {i k : Nat} {fd : Option (Str × PyData)} {Q : PyData → Prop} (E : EcF P K mg C) (h : ρ[k]? = some (.pr (VEr K (C i) fd))) (hi : i < 22) (q : Q (.bool true)) :
    DE K t (tCB (rIsEr K) (tCons (tVar k) (tCons (tC (.ty "ValueError")) tNil))) ρ Q := DE_isEr (DV_var h ⟨_, _, .type "ValueError", _, rfl, E.ex i hi, fun u r => r, E.kv i hi, q⟩)
def W__law_which (K : PySem.W.Frag) (C : Nat → Addr) (Φ : Vp) (R : PyData → Prop) : Prop := ∃ i fd, i < 22 ∧ Φ = VEr K (C i) fd ∧ R (LB (whB i))
def t__law_which (C : Nat → Addr) (K : PySem.W.Frag) : TS :=
  (tSeq (tAsg (tLst (tCons (tCB (rIsEr K) (tCons (tVar 0) (tCons (tC (.ref (C 0))) tNil))) (tCons (tCB (rIsEr K) (tCons (tVar 0) (tCons (tC (.ref (C 1))) tNil))) (tCons (tCB (rIsEr K) (tCons (tVar 0) (tCons (tC (.ref (C 2))) tNil))) tNil)))) (gName 1))
    (tSeq (tAsg (tOp (rPlus K) (tVar 1) (tLst (tCons (tCB (rIsEr K) (tCons (tVar 0) (tCons (tC (.ref (C 3))) tNil))) (tCons (tCB (rIsEr K) (tCons (tVar 0) (tCons (tC (.ref (C 4))) tNil))) (tCons (tCB (rIsEr K) (tCons (tVar 0) (tCons (tC (.ref (C 5))) tNil))) tNil))))) (gName 1))
    (tSeq (tAsg (tOp (rPlus K) (tVar 1) (tLst (tCons (tCB (rIsEr K) (tCons (tVar 0) (tCons (tC (.ref (C 6))) tNil))) (tCons (tCB (rIsEr K) (tCons (tVar 0) (tCons (tC (.ref (C 7))) tNil))) (tCons (tCB (rIsEr K) (tCons (tVar 0) (tCons (tC (.ref (C 8))) tNil))) tNil))))) (gName 1))
    (tSeq (tAsg (tOp (rPlus K) (tVar 1) (tLst (tCons (tCB (rIsEr K) (tCons (tVar 0) (tCons (tC (.ref (C 9))) tNil))) (tCons (tCB (rIsEr K) (tCons (tVar 0) (tCons (tC (.ref (C 10))) tNil))) (tCons (tCB (rIsEr K) (tCons (tVar 0) (tCons (tC (.ref (C 11))) tNil))) tNil))))) (gName 1))
    (tSeq (tAsg (tOp (rPlus K) (tVar 1) (tLst (tCons (tCB (rIsEr K) (tCons (tVar 0) (tCons (tC (.ref (C 12))) tNil))) (tCons (tCB (rIsEr K) (tCons (tVar 0) (tCons (tC (.ref (C 13))) tNil))) (tCons (tCB (rIsEr K) (tCons (tVar 0) (tCons (tC (.ref (C 14))) tNil))) tNil))))) (gName 1))
    (tSeq (tAsg (tOp (rPlus K) (tVar 1) (tLst (tCons (tCB (rIsEr K) (tCons (tVar 0) (tCons (tC (.ref (C 15))) tNil))) (tCons (tCB (rIsEr K) (tCons (tVar 0) (tCons (tC (.ref (C 16))) tNil))) (tCons (tCB (rIsEr K) (tCons (tVar 0) (tCons (tC (.ref (C 17))) tNil))) tNil))))) (gName 1))
    (tSeq (tDrop (tBM K "list" rAppend (tVar 1) (tCons (tCB (rIsEr K) (tCons (tVar 0) (tCons (tC (.ref (C 18))) tNil))) tNil)))
    (tRet (tOp (rPlus K) (tVar 1) (tLst (tCons (tCB (rIsEr K) (tCons (tVar 0) (tCons (tC (.ref (C 19))) tNil))) (tCons (tCB (rIsEr K) (tCons (tVar 0) (tCons (tC (.ref (C 20))) tNil))) tNil))))))))))))
theorem ds__law_which {K : PySem.W.Frag} {mg : Str → Option Value} {P : Program} {C : Nat → Addr} (E : EcF P K mg C) : ∀ Φ R, W__law_which K C Φ R → DS K none (t__law_which C K) [.pr Φ, .no] (fun _ => R .none) R NoR NoR := by
  rintro Φ R ⟨i, fd, hi, rfl, q⟩
  unfold t__law_which
  have one : ∀ (j : Nat) (ρ : Rho) (Q : PyData → Prop), ρ[0]? = some (.pr (VEr K (C i) fd)) → j < 21 → Q (.bool (i == j)) → DE K none (tCB (rIsEr K) (tCons (tVar 0) (tCons (tC (.ref (C j))) tNil))) ρ Q := fun j ρ Q h hj q => DE_is E h hi (by omega) (by
    rw [show (j == 21) = false from beq_false_of_ne (by omega), Bool.or_false]
    exact q)
  refine DS_seq (DS_set (DE_new (DL_lst ?_)))
  repeat (refine DA_cons (one _ _ _ rfl (by decide) ?_))
  refine DA_nil ⟨by simp, ?_⟩
  iterate 4 (
    refine DS_seq (DS_set (DE_op (DE_var rfl (DE_new (DL_lst ?_)))))
    repeat (refine DA_cons (one _ _ _ rfl (by decide) ?_))
    refine DA_nil ⟨by simp, DR_catL ⟨_, _, rfl, rfl, by simp, ?_⟩⟩)
  refine DS_seq (DS_setOw (DL_op (DE_var rfl (DE_new (DL_lst ?_)))))
  repeat (refine DA_cons (one _ _ _ rfl (by decide) ?_))
  refine DA_nil ⟨by simp, DRL_cat ⟨_, _, rfl, rfl, by simp, ?_⟩⟩
  refine DS_seq (DS_append rfl (by simp) (one _ _ _ rfl (by decide) ?_))
  refine DS_freeze (i := 1) rfl ?_
  refine DS_ret (DE_op (DE_var rfl (DE_new (DL_lst ?_))))
  repeat (refine DA_cons (one _ _ _ rfl (by decide) ?_))
  refine DA_nil ⟨by simp, DR_catL ⟨_, _, rfl, rfl, by simp, ?_⟩⟩
  exact q
def FldI (n : Int) : Prop := 0 ≤ n ∧ n < 10 ^ 40
theorem fld_big {n : Int} (h : n < 10 ^ 40) : n < 10 ^ 300 := Int.lt_trans h (by decide +kernel)
def FldP (d : PyData) : Prop := (∃ n : Int, d = .int n ∧ FldI n) ∨ d = .none
def erL (K : PySem.W.Frag) (C : Nat → Addr) (l : Int) (d : PyData) : List Vp := (List.range 19).map (fun i => VEr K (C i) none) ++ [VEr K (C 19) (some ("limit", .int l)), VEr K (C 20) (some ("place", d))]
def W__law_made_plain (K : PySem.W.Frag) (C : Nat → Addr) (ds : List PyData) (R : Vp → Prop) : Prop := ∃ s : Str, ds = [.str s] ∧ R (VLs ((List.range 19).map fun i => VEr K (C i) none))
def t__law_made_plain (C : Nat → Addr) (K : PySem.W.Frag) : TS :=
  (tSeq (tAsg (tLst (tCons (tEr1 (C 0) (tVar 0)) (tCons (tEr1 (C 1) (tVar 0)) (tCons (tEr1 (C 2) (tVar 0)) (tCons (tEr1 (C 3) (tVar 0)) (tCons (tEr1 (C 4) (tVar 0)) tNil)))))) (gName 1))
    (tSeq (tAsg (tOp (rPlus K) (tVar 1) (tLst (tCons (tEr1 (C 5) (tVar 0)) (tCons (tEr1 (C 6) (tVar 0)) (tCons (tEr1 (C 7) (tVar 0)) (tCons (tEr1 (C 8) (tVar 0)) (tCons (tEr1 (C 9) (tVar 0)) tNil))))))) (gName 1))
    (tSeq (tAsg (tOp (rPlus K) (tVar 1) (tLst (tCons (tEr1 (C 10) (tVar 0)) (tCons (tEr1 (C 11) (tVar 0)) (tCons (tEr1 (C 12) (tVar 0)) (tCons (tEr1 (C 13) (tVar 0)) (tCons (tEr1 (C 14) (tVar 0)) tNil))))))) (gName 1))
    (tRet (tOp (rPlus K) (tVar 1) (tLst (tCons (tEr1 (C 15) (tVar 0)) (tCons (tEr1 (C 16) (tVar 0)) (tCons (tEr1 (C 17) (tVar 0)) (tCons (tEr1 (C 18) (tVar 0)) tNil))))))))))
theorem ds__law_made_plain {K : PySem.W.Frag} {mg : Str → Option Value} {P : Program} {C : Nat → Addr} (E : EcF P K mg C) : ∀ ds R, W__law_made_plain K C ds R → ds.length ≤ 2 ∧ DSV K (t__law_made_plain C K) (ds.map Sl.sh ++ List.replicate (2 - ds.length) Sl.no) R := by
  rintro ds R ⟨s, rfl, q⟩
  refine ⟨by simp, ?_⟩
  show DSV K (t__law_made_plain C K) [.sh (.str s), .no] R
  unfold t__law_made_plain
  have one : ∀ (i : Nat) (ρ : Rho) (Q : Vp → Prop), ρ[0]? = some (.sh (.str s)) → Q (VEr K (C i) none) → DV K none (tEr1 (C i) (tVar 0)) ρ Q := fun i ρ Q h q => DV_er1 (DE_var h q)
  refine DSV_seq (DS_setV (DV_lst ?_))
  repeat (refine DVA_cons (one _ _ _ rfl ?_))
  refine DVA_nil ⟨by simp, ?_⟩
  iterate 2 (
    refine DSV_seq (DS_setV (DV_cat (DV_var rfl ⟨_, rfl, DV_lst ?_⟩)))
    repeat (refine DVA_cons (one _ _ _ rfl ?_))
    refine DVA_nil ⟨by simp, ⟨_, rfl, by simp, ?_⟩⟩)
  refine DSV_ret (DV_cat (DV_var rfl ⟨_, rfl, DV_lst ?_⟩))
  repeat (refine DVA_cons (one _ _ _ rfl ?_))
  refine DVA_nil ⟨by simp, ⟨_, rfl, by simp, ?_⟩⟩
  exact q
theorem erL_len (K : PySem.W.Frag) (C : Nat → Addr) (l : Int) (d : PyData) : (erL K C l d).length = 21 := rfl
theorem erL_at {K : PySem.W.Frag} {C : Nat → Addr} {l : Int} {d : PyData} {k : Nat} {Φ : Vp} (h : (erL K C l d)[k]? = some Φ) : k < 21 ∧ ∃ fd, Φ = VEr K (C k) fd := by
  have hk : k < 21 := by
    have := (List.getElem?_eq_some_iff.mp h).1
    rwa [erL_len] at this
  refine ⟨hk, ?_⟩
  unfold erL at h
  by_cases h1 : k < 19
  · rw [List.getElem?_append_left (by simpa using h1), List.getElem?_map, List.getElem?_range h1] at h
    exact ⟨none, (Option.some.inj h).symm⟩
  · rcases (show k = 19 ∨ k = 20 by omega) with rfl | rfl
    · exact ⟨_, (Option.some.inj h).symm⟩
    · exact ⟨_, (Option.some.inj h).symm⟩
theorem DR_ninB {K : PySem.W.Frag} {x y : PyData} {Q : PyData → Prop} (h : ∃ (b : Bool) (bs : List Bool), x = .bool b ∧ y = LB bs ∧ Q (.bool (!bs.contains b))) : DR K (rIn K true) x y Q := fun v w F H e q1 q2 QK k => by
  obtain ⟨b, bs, rfl, rfl, q⟩ := h
  cases q1
  cases q2 with
  | @lst p xs _ s1 s2 =>
    have es := s2.bls
    subst es
    refine ⟨p, _, rfl, .inl (Evl.ex_l e s1), rfl, by simp [flatV], ?_⟩
    have : (if true = true then !inV (V.bl b) (bs.map V.bl) else inV (V.bl b) (bs.map V.bl)) = !bs.contains b := by
      rw [if_pos rfl]
      congr 1
      unfold inV
      rw [List.any_map]
      rw [Bool.eq_iff_iff, List.any_eq_true, List.contains_iff_mem]
      constructor
      · rintro ⟨c, hc, he⟩
        have : c = b := by
          cases c <;> cases b <;> first | rfl | (exact absurd he (by decide))
        exact this ▸ hc
      · intro hb
        exact ⟨b, hb, by cases b <;> simp [eqV]⟩
    rw [this]
    exact k _ _ F H q (Gr.refl e) (.bl _)
/-- one sign of a text -/
theorem DR_ixS {K : PySem.W.Frag} {x y : PyData} {Q : PyData → Prop} (h : ∃ (z : Str) (i : Int) (c : _), x = .str z ∧ y = .int i ∧ z.length ≤ 100000 ∧ atI z.cps.toList i = some c ∧ Q (.str ⟨#[c]⟩)) : DR K (rIx K) x y Q := fun v w F H e q1 q2 QK k => by
  obtain ⟨z, i, c, rfl, rfl, hz, hc, q⟩ := h
  cases q1
  cases q2
  exact .inr (.inr ⟨z, i, c, rfl, rfl, Nat.le_trans hz (by decide), hc, k _ _ F H q (Gr.refl e) (.str _)⟩)
theorem DL_strR1 {K : PySem.W.Frag} {t : Option Addr} {ρ : Rho} {i : Nat} {te : TE} {tr : TA} {Q : List PyData → Prop} {P : Str → Prop} (h : DA K t tr ρ fun xs => ∃ n : Nat, xs = [.int n] ∧ n < 100000 ∧ (∀ k, k < n → DE K t te (ρ.set i (.sh (.int (k : Int)))) fun y => ∃ m, y = .str m ∧ P m) ∧ ∀ ys : List Str, ys.length = n → (∀ m ∈ ys, P m) → Q (ys.map .str)) :
    DL K t (tLc (iRg1 tr) (gName i) tYes te [i]) ρ Q := by
  refine DL_lcR1 fun F0 H0 F H σ A QK k => h F0 H0 F H σ A QK fun xs vs F' H' hx e z => k xs vs F' H' ?_ e z
  obtain ⟨n, rfl, hn, hs, q⟩ := hx
  refine ⟨n, rfl, fun k acc => ∃ ys : List Str, acc = ys.map .str ∧ ys.length = k ∧ ∀ m ∈ ys, P m, ⟨[], rfl, rfl, fun _ h => nomatch h⟩, fun k acc hk e => ?_, fun acc e => ?_⟩
  · obtain ⟨ys, rfl, hl, hp⟩ := e
    have hk : k < n := by simpa using hk
    refine ⟨by rw [List.length_map]; omega, DT_yes (iteT ?_)⟩
    rw [Int.zero_add]
    refine (hs k hk).mono fun y e => ?_
    obtain ⟨m, rfl, pm⟩ := e
    refine ⟨ys ++ [m], by rw [List.map_append]; rfl, by rw [List.length_append, hl]; rfl, fun x hx => ?_⟩
    rcases List.mem_append.mp hx with hx | hx
    · exact hp x hx
    · rw [List.mem_singleton.mp hx]
      exact pm
  · obtain ⟨ys, rfl, hl, hp⟩ := e
    exact q ys (by simpa using hl) hp
def W__law_right (ds : List PyData) (R : PyData → Prop) : Prop := ds = [] ∧ R (.bool true)
def t__law_right (C : Nat → Addr) (K : PySem.W.Frag) : TS :=
  (tSeq (tAsg (tC (.str " abcz(0-")) (gName 1))
    (tSeq (tAsg (tM1 (rJoin K) (tC (.str "")) (tLc (iRg1 (tCons (tCall (spT K W__law_draw) [] E0 (tCons (tVar 0) (tCons (tC (.int 12)) tNil))) tNil)) (gName 3) tYes (tOp (rIx K) (tVar 1) (tCall (spT K W__law_draw) [] E0 (tCons (tVar 0) (tCons (tC (.int 8)) tNil)))) [3])) (gName 2))
    (tSeq (tAsg (tOp (rIx K) (tLst (tCons (tC (.int 16)) (tCons (tC (.int 1024)) (tCons (tCall (spT K W__law_draw) [] E0 (tCons (tVar 0) (tCons (tOp rPowI (tC (.int 10)) (tC (.int 30))) tNil))) tNil)))) (tCall (spT K W__law_draw) [] E0 (tCons (tVar 0) (tCons (tC (.int 3)) tNil)))) (gName 4))
    (tSeq (tAsg (tOp (rIx K) (tLst (tCons (tC .non) (tCons (tC (.int 0)) (tCons (tCall (spT K W__law_draw) [] E0 (tCons (tVar 0) (tCons (tC (.int 4001)) tNil))) tNil)))) (tCall (spT K W__law_draw) [] E0 (tCons (tVar 0) (tCons (tC (.int 3)) tNil)))) (gName 5))
    (tSeq (tAsg (tOp (rPlus K) (tCall (spV K (W__law_made_plain K C)) [] E0 (tCons (tVar 2) tNil)) (tLst (tCons (tErI (C 19) (spOi "more than " "limit" (C 19)) (tCons (tVar 4) tNil)) (tCons (tErI (C 20) (spOi "wrong at the word " "place" (C 20)) (tCons (tVar 5) tNil)) tNil)))) (gName 6))
    (tSeq (tFor (iRg1 (tCons (tCB (rLenA K) (tCons (tVar 6) tNil)) tNil)) (gName 7)
    (tSeq (tAsg (tOp (rIx K) (tVar 6) (tVar 7)) (gName 8))
    (tSeq (tIfS (tOr (tNot (tB (tCB (rIsEr K) (tCons (tVar 8) (tCons (tC (.ref (C 21))) tNil))))) (tNot (tB (tCB (rIsEr K) (tCons (tVar 8) (tCons (tC (.ty "ValueError")) tNil))))))
    (tRet (tC (.bl false)))
    tNext)
    (tIfS (tTest (tOp (rNeU K) (tCall (spQ K (W__law_which K C)) [] E0 (tCons (tVar 8) tNil)) (tLc (iRg1 (tCons (tC (.int 21)) tNil)) (gName 9) tYes (tOp (rEqU K) (tVar 9) (tVar 7)) [9])))
    (tRet (tC (.bl false)))
    tNext))))
    (tSeq (tIfS (tTest (tOp (rNeU K) (tCB (rReprD K) (tCons (tLst (tCons (tErF K "limit" (tOp (rIx K) (tVar 6) (tC (.int 19)))) (tCons (tErF K "place" (tOp (rIx K) (tVar 6) (tC (.int 20)))) tNil))) tNil)) (tCB (rReprD K) (tCons (tLst (tCons (tVar 4) (tCons (tVar 5) tNil))) tNil))))
    (tRet (tC (.bl false)))
    tNext)
    (tSeq (tAsg (tEr1 (C 21) (tVar 2)) (gName 10))
    (tRet (tAndV (tCB (rIsEr K) (tCons (tVar 10) (tCons (tC (.ty "ValueError")) tNil))) (tOp (rIn K true) (tC (.bl true)) (tCall (spQ K (W__law_which K C)) [] E0 (tCons (tVar 10) tNil)))))))))))))
theorem ds__law_right {K : PySem.W.Frag} {mg : Str → Option Value} {P : Program} {C : Nat → Addr} (E : EcF P K mg C) : ∀ a ds R, W__law_right ds R → ds.length + 1 ≤ 11 ∧ DS K (some a) (t__law_right C K) (Sl.tp :: ds.map Sl.sh ++ List.replicate (11 - (ds.length + 1)) Sl.no) (fun _ => R .none) R NoR NoR := by
  rintro a ds R ⟨rfl, q⟩
  refine ⟨by simp, ?_⟩
  show DS K (some a) (t__law_right C K) [.tp, .no, .no, .no, .no, .no, .no, .no, .no, .no, .no] _ _ _ _
  unfold t__law_right
  refine DS_seq (DS_set (DE_str ?_))
  refine DS_seq (DS_set (DE_join (DE_str ⟨_, rfl, DE_new (DL_strR1 (P := fun y => y.length = 1) ?_)⟩)))
  repeat walk_at "d"
  refine ⟨12, rfl, by decide, big_lt (by decide), fun n n0 n1 => DA_nil ⟨n.toNat, by rw [Int.toNat_of_nonneg n0], by omega, fun k hk => ?_, fun ys hl hy => ⟨ys, rfl, ?_, ?_⟩⟩⟩
  · repeat walk_at "d"
    refine ⟨8, rfl, by decide, big_lt (by decide), fun x x0 x1 => ?_⟩
    have hx : ∃ c, atI (" abcz(0-" : Str).cps.toList x = some c := by
      rcases (show x = 0 ∨ x = 1 ∨ x = 2 ∨ x = 3 ∨ x = 4 ∨ x = 5 ∨ x = 6 ∨ x = 7 by omega) with e | e | e | e | e | e | e | e <;> (rw [e]; exact ⟨_, rfl⟩)
    obtain ⟨c, hc⟩ := hx
    exact DR_ixS ⟨_, _, c, rfl, rfl, by decide, hc, _, rfl, rfl⟩
  · have e1 : ∀ l : List Str, (∀ m ∈ l, m.length = 1) → (l.map (·.length)).sum = l.length := fun l => by
      induction l with
      | nil => intro _; rfl
      | cons y l ih =>
        intro h
        rw [List.map_cons, List.sum_cons, h y List.mem_cons_self, ih fun m hm => h m (List.mem_cons_of_mem _ hm), List.length_cons, Nat.add_comm]
    rw [e1 ys hy]
    show ys.length + ys.length * 0 ≤ _
    omega
  generalize Txt.join _ ys = s
  have three : ∀ (d0 d1 d2 : PyData) (Z : PyData → Prop) (i : Int), 0 ≤ i → i < 3 → Z d0 → Z d1 → Z d2 → ∃ d, atI [d0, d1, d2] i = some d ∧ Z d := fun d0 d1 d2 Z i h0 h1 z0 z1 z2 => by
    rcases (show i = 0 ∨ i = 1 ∨ i = 2 by omega) with e | e | e <;> (rw [e]; exact ⟨_, rfl, by assumption⟩)
  refine DS_seq (DS_set (DE.mono (Q := fun d => ∃ l, d = .int l ∧ FldI l) ?_ ?_))
  · repeat walk_at "d"
    refine ⟨⟨by decide, by decide, by decide⟩, DA_nil ⟨_, rfl, by decide, big_lt (by decide), fun x x0 x1 => DA_nil ⟨by simp, ?_⟩⟩⟩
    repeat walk_at "d"
    refine ⟨3, rfl, by decide, big_lt (by decide), fun y y0 y1 => ?_⟩
    obtain ⟨d, e, z⟩ := three (.int 16) (.int 1024) (.int x) (fun d => ∃ l, d = .int l ∧ FldI l) y y0 y1 ⟨16, rfl, by decide, by decide⟩ ⟨1024, rfl, by decide, by decide⟩ ⟨x, rfl, x0, Int.lt_trans x1 (by decide)⟩
    exact DR_ix (.inl ⟨_, _, _, rfl, rfl, e, z⟩)
  rintro d ⟨l, rfl, hl⟩
  refine DS_seq (DS_set (DE.mono (Q := fun d => FldP d) ?_ ?_))
  · repeat walk_at "d"
    refine ⟨4001, rfl, by decide, big_lt (by decide), fun x x0 x1 => DA_nil ⟨by simp, ?_⟩⟩
    repeat walk_at "d"
    refine ⟨3, rfl, by decide, big_lt (by decide), fun y y0 y1 => ?_⟩
    obtain ⟨d, e, z⟩ := three .none (.int 0) (.int x) FldP y y0 y1 (.inr rfl) (.inl ⟨0, rfl, by decide, by decide⟩) (.inl ⟨x, rfl, x0, Int.lt_trans x1 (by decide)⟩)
    exact DR_ix (.inl ⟨_, _, _, rfl, rfl, e, z⟩)
  intro d hd
  refine DS_seq (DS_setV (DV_cat (DV_call (DA_cons (DE_var (d := .str s) rfl (DA_nil ⟨s, rfl, _, rfl, DV_lst ?_⟩))))))
  refine DVA_cons (DV_erI (DE_var (d := .int l) rfl ⟨⟨by decide, .inl ⟨l, rfl, hl.1, fld_big hl.2⟩⟩, ?_⟩))
  refine DVA_cons (DV_erI (DE_var (d := d) rfl ⟨⟨by decide, ?_⟩, ?_⟩))
  · rcases hd with ⟨n, e, h⟩ | e
    · exact .inl ⟨n, e, h.1, fld_big h.2⟩
    · exact .inr e
  refine DVA_nil ⟨by simp, ⟨_, rfl, by simp, ?_⟩⟩
  show DS K (some a) _ [.tp, .sh (.str " abcz(0-"), .sh (.str s), .no, .sh (.int l), .sh d, .pr (VLs (erL K C l d)), .no, .no, .no, .no] _ _ _ _
  refine DS_seq (DS_forR1 (DA_cons (DE_lenV rfl (DA_nil ⟨21, rfl, fun _ ρ => ∃ z7 z8 z9, ρ = [.tp, .sh (.str " abcz(0-"), .sh (.str s), .no, .sh (.int l), .sh d, .pr (VLs (erL K C l d)), z7, z8, z9, .no], ⟨.no, .no, .no, rfl⟩, ?_, ?_⟩))))
  · rintro k ρ hk ⟨z7, z8, z9, rfl⟩
    have h21 : k < 21 := by simpa using hk
    obtain ⟨Φ, hΦ⟩ : ∃ Φ, (erL K C l d)[k]? = some Φ := ⟨_, List.getElem?_eq_getElem (by rw [erL_len]; exact h21)⟩
    obtain ⟨_, fd, rfl⟩ := erL_at hΦ
    rw [Int.zero_add]
    show DS K (some a) _ [.tp, .sh (.str " abcz(0-"), .sh (.str s), .no, .sh (.int l), .sh d, .pr (VLs (erL K C l d)), .sh (.int k), z8, z9, .no] _ _ _ _
    refine DS_seq (DS_setV (DV_ix (Φs := erL K C l d) rfl (DE_var (d := .int k) rfl ⟨k, rfl, k, _, .inl rfl, hΦ, ?_⟩)))
    refine DS_seq (DS_if (DT_or (DT_not (DT_B (DE_is E rfl (by omega) (by decide) ⟨_, rfl, ?_⟩)))))
    rw [show (k == 21 || 21 == 21) = true by simp]
    refine iteF (DT_not (DT_B (DE_isV E rfl (by omega) ⟨_, rfl, iteF (DS_next ?_)⟩)))
    refine DS_if (DT_test (DE_op (DE_callQ (DV_var rfl ⟨k, fd, by omega, rfl, ?_⟩))))
    refine DE_new (DL_mapR1 (f := fun j => .bool ((j : Int) == (k : Int))) (DA_cons (DE_int (DA_nil ⟨21, rfl, by decide, fun j hj => ?_, ?_⟩))))
    · refine DE_op (DE_var (d := .int j) rfl (DE_var (d := .int k) rfl (DR_eq ⟨rfl, rfl, ?_⟩)))
      rfl
    · have e : (List.range 21).map (fun j : Nat => PyData.bool ((j : Int) == (k : Int))) = (whB k).map .bool := by
        unfold whB
        rw [List.map_map]
        refine List.map_congr_left fun j _ => ?_
        show PyData.bool _ = PyData.bool _
        congr 1
        rw [Bool.eq_iff_iff]
        simp only [beq_iff_eq]
        omega
      rw [e]
      have sh : SeqAt.shaped (LB (whB k)) = true := shp_LB _
      refine DR_ne ⟨sh, sh, ?_⟩
      rw [SeqAt.eqv_refl _ (SeqAt.canLay_of_shaped sh)]
      exact ⟨_, rfl, iteF (DS_next ⟨_, _, _, rfl⟩)⟩
  · rintro ρ ⟨z7, z8, z9, rfl⟩
    obtain ⟨_, _, _, _, TL⟩ := E.tl
    obtain ⟨_, _, _, _, TT⟩ := E.te
    have sl : Shw 200 1 (.list [.int l, d]) := (shw_list (n := 64) (k := 0) (fun x hx => by
      have big : ∀ n : Int, FldI n → n.natAbs < 10 ^ 45 := fun n h => by
        have h1 := h.1
        have h2 := h.2
        omega
      rcases List.mem_cons.mp hx with rfl | hx
      · exact shw_int (big l hl)
      · rcases List.mem_singleton.mp hx with rfl
        rcases hd with ⟨n, rfl, h⟩ | rfl
        · exact shw_int (big n h)
        · exact shw_non)).up (by simp) (by decide)
    have fit : (PyData.list [.int l, d]).showable = true ∧ (PyData.list [.int l, d]).shown.length ≤ sizeLine ∧ (PyData.list [.int l, d]).depth ≤ 60 := ⟨sl.sb, by rw [sizeLine_eq]; exact Nat.le_trans sl.ln (by decide), Nat.le_trans sl.dp (by decide)⟩
    refine DS_seq (DS_if (DT_test (DE_op (DE_cb (DA_cons (DE_new (DL_lst ?_)))))))
    refine DA_cons (DE_erF (DV_ix (Φs := erL K C l d) rfl (DE_int ⟨19, rfl, 19, VEr K (C 19) (some ("limit", .int l)), .inl rfl, rfl, C 19, .int l, rfl, E.xf 19 (by decide), TL.noX, ?_⟩)))
    refine DA_cons (DE_erF (DV_ix (Φs := erL K C l d) rfl (DE_int ⟨20, rfl, 20, VEr K (C 20) (some ("place", d)), .inl rfl, rfl, C 20, d, rfl, E.xf 20 (by decide), TT.noX, ?_⟩)))
    refine DA_nil ⟨by simp, DA_nil (DC_repr ⟨_, rfl, fit.1, fit.2.1, fit.2.2, ?_⟩)⟩
    refine DE_cb (DA_cons (DE_new (DL_lst (DA_cons (DE_var rfl (DA_cons (DE_var rfl (DA_nil ⟨by simp, DA_nil (DC_repr ⟨_, rfl, fit.1, fit.2.1, fit.2.2, DR_neS ⟨_, _, rfl, rfl, ⟨_, rfl, ?_⟩⟩⟩)⟩))))))))
    rw [decide_eq_true rfl]
    refine iteF (DS_next ?_)
    refine DS_seq (DS_setV (DV_er1 (DE_var (d := .str s) rfl ?_)))
    refine DS_ret (DE_and (DE_isV (i := 21) E rfl (by decide) ⟨_, rfl, iteT (DE_op (DE_bl (DE_callQ (DV_var rfl ⟨21, none, by decide, rfl, DR_ninB ⟨_, _, rfl, rfl, ?_⟩⟩))))⟩))
    rw [show (!(whB 21).contains true) = true by decide +kernel]
    exact q
def W_law (ds : List PyData) (R : PyData → Prop) : Prop := ∃ ns : List Int, ds = [LI ns] ∧ ns.length ≤ 63 ∧ R (.bool true)
def t_law (C : Nat → Addr) (K : PySem.W.Frag) : TS :=
  (tSeq (tAsg (tCall (spP K W__law_cells) [] E0 (tCons (tVar 0) (tCons (tC (.int 3)) tNil))) (gName 1))
    (tRet (tOp (rEqU K) (tLc (iRg1 (tCons (tCB (rLenA K) (tCons (tVar 1) tNil)) tNil)) (gName 2) (tNot (tB (tCall (spT K W__law_right) [] E0 (tCons (tCall (spF K W__law_tap) [] E0 (tCons (tOp (rIx K) (tVar 1) (tVar 2)) (tCons (tVar 2) tNil))) tNil)))) (tVar 2) [2]) (tLst tNil))))
theorem ds_law {K : PySem.W.Frag} {mg : Str → Option Value} {P : Program} {C : Nat → Addr} (E : EcF P K mg C) : ∀ ds R, W_law ds R → ds.length ≤ 3 ∧ DS K none (t_law C K) (ds.map Sl.sh ++ List.replicate (3 - ds.length) Sl.no) (fun _ => R .none) R NoR NoR := by
  rintro ds R ⟨ns, rfl, hn, q⟩
  refine ⟨by simp, ?_⟩
  show DS K _ (t_law C K) [.sh (LI ns), .no, .no] _ _ _ _
  unfold t_law
  repeat walk_at "d"
  refine ⟨ns, 3, rfl, hn, fun cs lc => ?_⟩
  refine DS_ret (DE_op (DE_new (DL_lcR1 ?_)))
  repeat walk_at "d"
  rw [List.length_map]
  refine ⟨fun _ acc => acc = [], rfl, fun k acc hk e => ⟨by rw [e]; decide, DT_not (DT_B (DE_callNew (DL_callF ?_) ⟨rfl, _, rfl, iteF e⟩))⟩, fun acc e => ?_⟩
  · have hk : k < cs.length := by simpa using hk
    repeat walk_at "d"
    refine DR_ix (.inl ⟨_, _, _, rfl, rfl, atI_ok (by omega) (by omega), ?_⟩)
    repeat walk_at "d"
    exact ⟨_, 0 + (k : Int), rfl, by omega, by omega, fun x y z ht => ⟨x, y, z, rfl, ht⟩⟩
  rw [e]
  refine DE_lst0 (DR_eqNil ⟨_, rfl, rfl, ?_⟩)
  rw [decide_eq_true rfl]
  exact q

end Cf
namespace Cf
open PySem PySem.Spec PyProof.Rows L2
open Evl (Ex)
theorem sp_of_law {K : PySem.W.Frag} {vs : List V} {H : Hp} {Q : VK} {E : XK} (h : spLaw K vs H Q E) : spP K W_law vs H Q E := by
  obtain ⟨a, ns, rfl, hS, hl, hO, q⟩ := h
  exact ⟨H, [LI ns], fun d => d = .bool true, Ex.refl H, .cons (.lst hS Dqs.ofInts) .nil, ⟨ns, rfl, hl, rfl⟩, fun d v F' H' e g z => by
    subst e
    cases z
    exact q H'⟩
end Cf
/-! ### the text of the law, its defs one by one -/
namespace Cf
open PySem PySem.Spec PyProof.Rows L2
def topS (i : Nat) : Stmt := PySem.Challenge.pw_cellflows_k19_errors_made.main.body.getD i (.Pass ⟨0, 0, 0, 0⟩)
abbrev s__law_tap : Stmt := topS 24
theorem sc__law_tap : FnScope ["cell", "turn", "whole"] ["cell", "turn"] (defScope s__law_tap) := ⟨rfl, rfl, rfl, by decide +kernel, rfl, by decide +kernel, by decide +kernel⟩
abbrev s__law_draw : Stmt := topS 25
theorem sc__law_draw : FnScope ["tap", "bound", "found"] ["tap", "bound"] (defScope s__law_draw) := ⟨rfl, rfl, rfl, by decide +kernel, rfl, by decide +kernel, by decide +kernel⟩
abbrev s__law_cells : Stmt := topS 26
theorem sc__law_cells : FnScope ["script", "many"] ["script", "many"] (defScope s__law_cells) := ⟨rfl, rfl, rfl, by decide +kernel, rfl, by decide +kernel, by decide +kernel⟩
abbrev s__law_which : Stmt := topS 28
theorem sc__law_which : FnScope ["error", "found"] ["error"] (defScope s__law_which) := ⟨rfl, rfl, rfl, by decide +kernel, rfl, by decide +kernel, by decide +kernel⟩
abbrev s__law_made_plain : Stmt := topS 27
theorem sc__law_made_plain : FnScope ["text", "found"] ["text"] (defScope s__law_made_plain) := ⟨rfl, rfl, rfl, by decide +kernel, rfl, by decide +kernel, by decide +kernel⟩
abbrev s__law_right : Stmt := topS 29
theorem sc__law_right : FnScope ["tap", "letters", "text", "turn", "limit", "place", "errors_here", "k", "error", "other", "first"] ["tap"] (defScope s__law_right) := ⟨rfl, rfl, rfl, by decide +kernel, rfl, by decide +kernel, by decide +kernel⟩
abbrev s_law : Stmt := topS 30
theorem sc_law : FnScope ["script", "cells", "k"] ["script"] (defScope s_law) := ⟨rfl, rfl, rfl, by decide +kernel, rfl, by decide +kernel, by decide +kernel⟩
structure Dn (K : PySem.W.Frag) (mg : Str → Option Value) (n : Str) (st : Stmt) (ps : List Str) (f : Addr) (fd : FuncData) : Prop where
  F : Fun K n n st f fd
  g : mg n = some (.ref f)
  b : Binds K fd ps []
structure Ms (mg : Str → Option Value) : Prop where
  ValueError : mg "ValueError" = none
  abs : mg "abs" = none
  int : mg "int" = none
  isinstance : mg "isinstance" = none
  len : mg "len" = none
  max : mg "max" = none
  min : mg "min" = none
  range : mg "range" = none
  repr : mg "repr" = none
structure CsL (mg : Str → Option Value)  : Prop where
  triv : True
section
variable {P : Program} {w : World} {K : PySem.W.Frag} {mg : Str → Option Value} {base : Heap}  {C : Nat → Addr}
theorem len__law_tap : ∀ (ds : List PyData) (R : List PyData → Prop), W__law_tap ds R → ds.length = 2 := by
  intro ds R h
  unfold W__law_tap at h
  (repeat (first | (obtain ⟨rfl, _⟩ := h) | (obtain ⟨_, h⟩ := h)))
  rfl
theorem ok__law_tap {f : Addr} {fd : FuncData} (D : Dn K mg "_law_tap" s__law_tap ["cell", "turn"] f fd) (M : Ms mg) (Cc : CsL mg ) : FnG P w K mg base CX0 1 f fd ["cell", "turn"] (spF K W__law_tap) := by
  refine fun_okG (k := 0) D.F sc__law_tap (fun vs H Q E h => ?_) (fun cdv A outer s H vs Q E hgu hr h => ⟨t__law_tap K, ?_, ?_⟩)
  · obtain ⟨F, ds, R, e, z, hW, k⟩ := h
    rw [z.len, len__law_tap ds R hW]
    rfl
  · unfold t__law_tap
    exact (pss_cons (ps_set (i := 2) sc__law_tap.nd rfl (by first | exact Or.inl rfl | exact Or.inr rfl) (pe_op op_plus (pe_op op_times pe_int (pe_callB call_absA (by rfl) M.abs (by decide +kernel) (pa_cons (pv 0) pa_nil))) (pe_callTy call_intA (by rfl) M.int (by decide +kernel) (pa_cons (pe_cmpR op_ltI (pv 0) pe_int (nomark _)) pa_nil))))
    (pss_one (ps_ret (pe_lst (pa_cons (pv 2) (pa_cons (pe_op op_plus (pe_op op_plus (pe_op op_modI (pe_callTy call_intA (by rfl) M.int (by decide +kernel) (pa_cons (pv 2) pa_nil)) pe_int) (pe_op op_times pe_int (pv 1))) pe_int) (pa_cons (pe_op op_plus (pe_op op_plus (pe_op op_modI (pe_callTy call_intA (by rfl) M.int (by decide +kernel) (pa_cons (pv 2) pa_nil)) pe_int) (pe_op op_times pe_int (pv 1))) pe_int) pa_nil)))))))
  · exact run_F h (ds__law_tap K)
theorem len__law_draw : ∀ (ds : List PyData) (R : PyData → Prop), W__law_draw ds R → ds.length = 1 := by
  intro ds R h
  unfold W__law_draw at h
  (repeat (first | (obtain ⟨rfl, _⟩ := h) | (obtain ⟨_, h⟩ := h)))
  rfl
theorem ok__law_draw {f : Addr} {fd : FuncData} (D : Dn K mg "_law_draw" s__law_draw ["tap", "bound"] f fd) (M : Ms mg) (Cc : CsL mg ) : FnG P w K mg base CX0 1 f fd ["tap", "bound"] (spT K W__law_draw) := by
  refine fun_okG (k := 0) D.F sc__law_draw (fun vs H Q E h => ?_) (fun cdv A outer s H vs Q E hgu hr h => ⟨t__law_draw K, ?_, ?_⟩)
  · obtain ⟨a, ws, F, ds, R, rfl, e, tp, z, hW, k⟩ := h
    rw [List.length_cons, z.len, len__law_draw ds R hW]
    rfl
  · unfold t__law_draw
    exact (pss_cons (ps_if (pt_cmpR op_geI (pe_ix ix_seq (pv 0) pe_int (fun _ _ => rfl)) (pe_op op_powI pe_int pe_int) (nomark _))
    (pss_cons (ps_set (i := 2) sc__law_draw.nd rfl (by first | exact Or.inl rfl | exact Or.inr rfl) (pe_op op_modI (pe_callTy call_intA (by rfl) M.int (by decide +kernel) (pa_cons (pe_ix ix_seq (pv 0) pe_int (fun _ _ => rfl)) pa_nil)) (pv 1)))
    (pss_cons (ps_asg (pe_op op_divI (pe_ix ix_seq (pv 0) pe_int (fun _ _ => rfl)) (pv 1)) (pg_sub (pv 0) pe_int set_list))
    (pss_one (ps_ret (pv 2)))))
    pss_nil)
    (pss_cons (ps_asg (pe_op op_modI (pe_callTy call_intA (by rfl) M.int (by decide +kernel) (pa_cons (pe_op op_plus (pe_op op_times (pe_ix ix_seq (pv 0) pe_int (fun _ _ => rfl)) pe_int) pe_int) pa_nil)) pe_int) (pg_sub (pv 0) pe_int set_list))
    (pss_cons (ps_asg (pe_op op_modI (pe_callTy call_intA (by rfl) M.int (by decide +kernel) (pa_cons (pe_op op_plus (pe_op op_times (pe_ix ix_seq (pv 0) pe_int (fun _ _ => rfl)) (pe_ix ix_seq (pv 0) pe_int (fun _ _ => rfl))) (pe_ix ix_seq (pv 0) pe_int (fun _ _ => rfl))) pa_nil)) pe_int) (pg_sub (pv 0) pe_int set_list))
    (pss_one (ps_ret (pe_op op_modI (pe_callTy call_intA (by rfl) M.int (by decide +kernel) (pa_cons (pe_op op_plus (pe_op op_divI (pe_ix ix_seq (pv 0) pe_int (fun _ _ => rfl)) pe_int) (pe_op op_divI (pe_ix ix_seq (pv 0) pe_int (fun _ _ => rfl)) pe_int)) pa_nil)) (pv 1)))))))
  · exact run_draw h
theorem len__law_cells : ∀ (ds : List PyData) (R : PyData → Prop), W__law_cells ds R → ds.length = 2 := by
  intro ds R h
  unfold W__law_cells at h
  (repeat (first | (obtain ⟨rfl, _⟩ := h) | (obtain ⟨_, h⟩ := h)))
  rfl
theorem ok__law_cells {f : Addr} {fd : FuncData} (D : Dn K mg "_law_cells" s__law_cells ["script", "many"] f fd) (M : Ms mg) (Cc : CsL mg ) : FnG P w K mg base CX0 1 f fd ["script", "many"] (spP K W__law_cells) := by
  refine fun_okG (k := 0) D.F sc__law_cells (fun vs H Q E h => ?_) (fun cdv A outer s H vs Q E hgu hr h => ⟨t__law_cells K, ?_, ?_⟩)
  · obtain ⟨F, ds, R, e, z, hW, k⟩ := h
    rw [z.len, len__law_cells ds R hW]
    rfl
  · unfold t__law_cells
    exact (pss_one (ps_ret (pe_slice sl_list (pe_op op_plus (pv 0) (pe_lst (pa_cons pe_int pa_nil))) po_none (po_some (pe_callB (call_max2A rfl) (by rfl) M.max (by decide +kernel) (pa_cons pe_int (pa_cons (pe_callB (call_min2A rfl) (by rfl) M.min (by decide +kernel) (pa_cons (pv 1) (pa_cons (pe_callB call_lenA (by rfl) M.len (by decide +kernel) (pa_cons (pv 0) pa_nil)) pa_nil))) pa_nil)))))))
  · exact run_P h (ds__law_cells K)
theorem ok__law_which {f : Addr} {fd : FuncData} (D : Dn K mg "_law_which" s__law_which ["error"] f fd) (M : Ms mg) (Cc : CsL mg ) (EE : EcF P K mg C) : FnG P w K mg base CX0 1 f fd ["error"] (spQ K (W__law_which K C)) := by
  refine fun_okG (k := 0) D.F sc__law_which (fun vs H Q E h => ?_) (fun cdv A outer s H vs Q E hgu hr h => ⟨t__law_which C K, ?_, ?_⟩)
  · obtain ⟨F, v, Φ, R, rfl, _⟩ := h
    rfl
  · unfold t__law_which
    exact (pss_cons (ps_set (i := 1) sc__law_which.nd rfl (by first | exact Or.inl rfl | exact Or.inr rfl) (pe_lst (pa_cons (pe_callB call_isEr (by rfl) M.isinstance (by decide +kernel) (pa_cons (pv 0) (pa_cons (pe_ec EE 0 (by rfl)) pa_nil))) (pa_cons (pe_callB call_isEr (by rfl) M.isinstance (by decide +kernel) (pa_cons (pv 0) (pa_cons (pe_ec EE 1 (by rfl)) pa_nil))) (pa_cons (pe_callB call_isEr (by rfl) M.isinstance (by decide +kernel) (pa_cons (pv 0) (pa_cons (pe_ec EE 2 (by rfl)) pa_nil))) pa_nil)))))
    (pss_cons (ps_set (i := 1) sc__law_which.nd rfl (by first | exact Or.inl rfl | exact Or.inr rfl) (pe_op op_plus (pv 1) (pe_lst (pa_cons (pe_callB call_isEr (by rfl) M.isinstance (by decide +kernel) (pa_cons (pv 0) (pa_cons (pe_ec EE 3 (by rfl)) pa_nil))) (pa_cons (pe_callB call_isEr (by rfl) M.isinstance (by decide +kernel) (pa_cons (pv 0) (pa_cons (pe_ec EE 4 (by rfl)) pa_nil))) (pa_cons (pe_callB call_isEr (by rfl) M.isinstance (by decide +kernel) (pa_cons (pv 0) (pa_cons (pe_ec EE 5 (by rfl)) pa_nil))) pa_nil))))))
    (pss_cons (ps_set (i := 1) sc__law_which.nd rfl (by first | exact Or.inl rfl | exact Or.inr rfl) (pe_op op_plus (pv 1) (pe_lst (pa_cons (pe_callB call_isEr (by rfl) M.isinstance (by decide +kernel) (pa_cons (pv 0) (pa_cons (pe_ec EE 6 (by rfl)) pa_nil))) (pa_cons (pe_callB call_isEr (by rfl) M.isinstance (by decide +kernel) (pa_cons (pv 0) (pa_cons (pe_ec EE 7 (by rfl)) pa_nil))) (pa_cons (pe_callB call_isEr (by rfl) M.isinstance (by decide +kernel) (pa_cons (pv 0) (pa_cons (pe_ec EE 8 (by rfl)) pa_nil))) pa_nil))))))
    (pss_cons (ps_set (i := 1) sc__law_which.nd rfl (by first | exact Or.inl rfl | exact Or.inr rfl) (pe_op op_plus (pv 1) (pe_lst (pa_cons (pe_callB call_isEr (by rfl) M.isinstance (by decide +kernel) (pa_cons (pv 0) (pa_cons (pe_ec EE 9 (by rfl)) pa_nil))) (pa_cons (pe_callB call_isEr (by rfl) M.isinstance (by decide +kernel) (pa_cons (pv 0) (pa_cons (pe_ec EE 10 (by rfl)) pa_nil))) (pa_cons (pe_callB call_isEr (by rfl) M.isinstance (by decide +kernel) (pa_cons (pv 0) (pa_cons (pe_ec EE 11 (by rfl)) pa_nil))) pa_nil))))))
    (pss_cons (ps_set (i := 1) sc__law_which.nd rfl (by first | exact Or.inl rfl | exact Or.inr rfl) (pe_op op_plus (pv 1) (pe_lst (pa_cons (pe_callB call_isEr (by rfl) M.isinstance (by decide +kernel) (pa_cons (pv 0) (pa_cons (pe_ec EE 12 (by rfl)) pa_nil))) (pa_cons (pe_callB call_isEr (by rfl) M.isinstance (by decide +kernel) (pa_cons (pv 0) (pa_cons (pe_ec EE 13 (by rfl)) pa_nil))) (pa_cons (pe_callB call_isEr (by rfl) M.isinstance (by decide +kernel) (pa_cons (pv 0) (pa_cons (pe_ec EE 14 (by rfl)) pa_nil))) pa_nil))))))
    (pss_cons (ps_set (i := 1) sc__law_which.nd rfl (by first | exact Or.inl rfl | exact Or.inr rfl) (pe_op op_plus (pv 1) (pe_lst (pa_cons (pe_callB call_isEr (by rfl) M.isinstance (by decide +kernel) (pa_cons (pv 0) (pa_cons (pe_ec EE 15 (by rfl)) pa_nil))) (pa_cons (pe_callB call_isEr (by rfl) M.isinstance (by decide +kernel) (pa_cons (pv 0) (pa_cons (pe_ec EE 16 (by rfl)) pa_nil))) (pa_cons (pe_callB call_isEr (by rfl) M.isinstance (by decide +kernel) (pa_cons (pv 0) (pa_cons (pe_ec EE 17 (by rfl)) pa_nil))) pa_nil))))))
    (pss_cons (ps_expr (pe_bm PySem.F.plainAttrs_list PySem.F.slot_list_append PySem.F.type_list_append mt_append (pv 1) (pa_cons (pe_callB call_isEr (by rfl) M.isinstance (by decide +kernel) (pa_cons (pv 0) (pa_cons (pe_ec EE 18 (by rfl)) pa_nil))) pa_nil)))
    (pss_one (ps_ret (pe_op op_plus (pv 1) (pe_lst (pa_cons (pe_callB call_isEr (by rfl) M.isinstance (by decide +kernel) (pa_cons (pv 0) (pa_cons (pe_ec EE 19 (by rfl)) pa_nil))) (pa_cons (pe_callB call_isEr (by rfl) M.isinstance (by decide +kernel) (pa_cons (pv 0) (pa_cons (pe_ec EE 20 (by rfl)) pa_nil))) pa_nil)))))))))))))
  · exact run_Q (by decide) h (ds__law_which EE)
theorem len__law_made_plain : ∀ (ds : List PyData) (R : Vp → Prop), W__law_made_plain K C ds R → ds.length = 1 := by
  intro ds R h
  unfold W__law_made_plain at h
  (repeat (first | (obtain ⟨rfl, _⟩ := h) | (obtain ⟨_, h⟩ := h)))
  rfl
theorem ok__law_made_plain {f : Addr} {fd : FuncData} (D : Dn K mg "_law_made_plain" s__law_made_plain ["text"] f fd) (M : Ms mg) (Cc : CsL mg ) (EE : EcF P K mg C) : FnG P w K mg base CX0 3 f fd ["text"] (spV K (W__law_made_plain K C)) := by
  refine fun_okG (k := 2) D.F sc__law_made_plain (fun vs H Q E h => ?_) (fun cdv A outer s H vs Q E hgu hr h => ⟨t__law_made_plain C K, ?_, ?_⟩)
  · obtain ⟨F, ds, R, e, z, hW, k⟩ := h
    rw [z.len, len__law_made_plain ds R hW]
    rfl
  · unfold t__law_made_plain
    exact (pss_cons (ps_set (i := 1) sc__law_made_plain.nd rfl (by first | exact Or.inl rfl | exact Or.inr rfl) (pe_lst (pa_cons (pe_er1 EE 0 (hg := by rfl) (he := (pv 0))) (pa_cons (pe_er1 EE 1 (hg := by rfl) (he := (pv 0))) (pa_cons (pe_er1 EE 2 (hg := by rfl) (he := (pv 0))) (pa_cons (pe_er1 EE 3 (hg := by rfl) (he := (pv 0))) (pa_cons (pe_er1 EE 4 (hg := by rfl) (he := (pv 0))) pa_nil)))))))
    (pss_cons (ps_set (i := 1) sc__law_made_plain.nd rfl (by first | exact Or.inl rfl | exact Or.inr rfl) (pe_op op_plus (pv 1) (pe_lst (pa_cons (pe_er1 EE 5 (hg := by rfl) (he := (pv 0))) (pa_cons (pe_er1 EE 6 (hg := by rfl) (he := (pv 0))) (pa_cons (pe_er1 EE 7 (hg := by rfl) (he := (pv 0))) (pa_cons (pe_er1 EE 8 (hg := by rfl) (he := (pv 0))) (pa_cons (pe_er1 EE 9 (hg := by rfl) (he := (pv 0))) pa_nil))))))))
    (pss_cons (ps_set (i := 1) sc__law_made_plain.nd rfl (by first | exact Or.inl rfl | exact Or.inr rfl) (pe_op op_plus (pv 1) (pe_lst (pa_cons (pe_er1 EE 10 (hg := by rfl) (he := (pv 0))) (pa_cons (pe_er1 EE 11 (hg := by rfl) (he := (pv 0))) (pa_cons (pe_er1 EE 12 (hg := by rfl) (he := (pv 0))) (pa_cons (pe_er1 EE 13 (hg := by rfl) (he := (pv 0))) (pa_cons (pe_er1 EE 14 (hg := by rfl) (he := (pv 0))) pa_nil))))))))
    (pss_one (ps_ret (pe_op op_plus (pv 1) (pe_lst (pa_cons (pe_er1 EE 15 (hg := by rfl) (he := (pv 0))) (pa_cons (pe_er1 EE 16 (hg := by rfl) (he := (pv 0))) (pa_cons (pe_er1 EE 17 (hg := by rfl) (he := (pv 0))) (pa_cons (pe_er1 EE 18 (hg := by rfl) (he := (pv 0))) pa_nil)))))))))))
  · exact run_V h (ds__law_made_plain EE)
theorem len__law_right : ∀ (ds : List PyData) (R : PyData → Prop), W__law_right ds R → ds.length = 0 := by
  intro ds R h
  unfold W__law_right at h
  (repeat (first | (obtain ⟨rfl, _⟩ := h) | (obtain ⟨_, h⟩ := h)))
  rfl
theorem ok__law_right {f : Addr} {fd : FuncData} (D : Dn K mg "_law_right" s__law_right ["tap"] f fd) {f__law_draw : Addr} {fd__law_draw : FuncData} (D__law_draw : Dn K mg "_law_draw" s__law_draw ["tap", "bound"] f__law_draw fd__law_draw) (G__law_draw : FnG P w K mg base CX0 1 f__law_draw fd__law_draw ["tap", "bound"] (spT K W__law_draw)) {f__law_which : Addr} {fd__law_which : FuncData} (D__law_which : Dn K mg "_law_which" s__law_which ["error"] f__law_which fd__law_which) (G__law_which : FnG P w K mg base CX0 1 f__law_which fd__law_which ["error"] (spQ K (W__law_which K C))) {f__law_made_plain : Addr} {fd__law_made_plain : FuncData} (D__law_made_plain : Dn K mg "_law_made_plain" s__law_made_plain ["text"] f__law_made_plain fd__law_made_plain) (G__law_made_plain : FnG P w K mg base CX0 3 f__law_made_plain fd__law_made_plain ["text"] (spV K (W__law_made_plain K C))) (M : Ms mg) (Cc : CsL mg ) (EE : EcF P K mg C) : FnG P w K mg base CX0 4 f fd ["tap"] (spT K W__law_right) := by
  refine fun_okG (k := 3) D.F sc__law_right (fun vs H Q E h => ?_) (fun cdv A outer s H vs Q E hgu hr h => ⟨t__law_right C K, ?_, ?_⟩)
  · obtain ⟨a, ws, F, ds, R, rfl, e, tp, z, hW, k⟩ := h
    rw [List.length_cons, z.len, len__law_right ds R hW]
    rfl
  · unfold t__law_right
    exact (pss_cons (ps_set (i := 1) sc__law_right.nd rfl (by first | exact Or.inl rfl | exact Or.inr rfl) pe_str)
    (pss_cons (ps_set (i := 2) sc__law_right.nd rfl (by first | exact Or.inl rfl | exact Or.inr rfl) (pe_join pe_str (pe_lc (own := [("turn", 3)]) (g := (gName 3)) (tt := tYes) rfl sc__law_right.nd (pi_rg1 (by rfl) M.range (pa_cons (pe_callG G__law_draw hgu (hr.mono (by decide)) (by rfl) D__law_draw.g D__law_draw.F.kp D__law_draw.b pass0 (pa_cons (pv 0) (pa_cons pe_int pa_nil))) pa_nil)) (blkOk_by (N := ["tap", "letters", "text", "turn", "limit", "place", "errors_here", "k", "error", "other", "first"]) (sc := defScope s__law_right) (by decide +kernel)) (fun _ _ _ _ _ => (pg_name (i := 3) sc__law_right.nd rfl (by first | exact Or.inl rfl | exact Or.inr rfl))) (fun _ _ _ _ _ => pts_nil) (fun _ _ _ _ _ => (pe_ix ix_seq (pv 1) (pe_callG G__law_draw hgu (hr.mono (by decide)) (by rfl) D__law_draw.g D__law_draw.F.kp D__law_draw.b pass0 (pa_cons (pv 0) (pa_cons pe_int pa_nil))) (fun _ _ => rfl))))))
    (pss_cons (ps_set (i := 4) sc__law_right.nd rfl (by first | exact Or.inl rfl | exact Or.inr rfl) (pe_ix ix_seq (pe_lst (pa_cons pe_int (pa_cons pe_int (pa_cons (pe_callG G__law_draw hgu (hr.mono (by decide)) (by rfl) D__law_draw.g D__law_draw.F.kp D__law_draw.b pass0 (pa_cons (pv 0) (pa_cons (pe_op op_powI pe_int pe_int) pa_nil))) pa_nil)))) (pe_callG G__law_draw hgu (hr.mono (by decide)) (by rfl) D__law_draw.g D__law_draw.F.kp D__law_draw.b pass0 (pa_cons (pv 0) (pa_cons pe_int pa_nil))) (fun _ _ => rfl)))
    (pss_cons (ps_set (i := 5) sc__law_right.nd rfl (by first | exact Or.inl rfl | exact Or.inr rfl) (pe_ix ix_seq (pe_lst (pa_cons pe_non (pa_cons pe_int (pa_cons (pe_callG G__law_draw hgu (hr.mono (by decide)) (by rfl) D__law_draw.g D__law_draw.F.kp D__law_draw.b pass0 (pa_cons (pv 0) (pa_cons pe_int pa_nil))) pa_nil)))) (pe_callG G__law_draw hgu (hr.mono (by decide)) (by rfl) D__law_draw.g D__law_draw.F.kp D__law_draw.b pass0 (pa_cons (pv 0) (pa_cons pe_int pa_nil))) (fun _ _ => rfl)))
    (pss_cons (ps_set (i := 6) sc__law_right.nd rfl (by first | exact Or.inl rfl | exact Or.inr rfl) (pe_op op_plus (pe_callG G__law_made_plain hgu (hr.mono (by decide)) (by rfl) D__law_made_plain.g D__law_made_plain.F.kp D__law_made_plain.b pass0 (pa_cons (pv 2) pa_nil)) (pe_lst (pa_cons (pe_erL EE (hr.mono (by decide)) (by rfl) (pv 4)) (pa_cons (pe_erT EE (hr.mono (by decide)) (by rfl) (pv 5)) pa_nil)))))
    (pss_cons (ps_for PassesOwn.never rfl (pi_rg1 (by rfl) M.range (pa_cons (pe_callB call_lenA (by rfl) M.len (by decide +kernel) (pa_cons (pv 6) pa_nil)) pa_nil)) (pg_name (i := 7) sc__law_right.nd rfl (by first | exact Or.inl rfl | exact Or.inr rfl))
    (pss_cons (ps_set (i := 8) sc__law_right.nd rfl (by first | exact Or.inl rfl | exact Or.inr rfl) (pe_ix ix_seq (pv 6) (pv 7) (fun _ _ => rfl)))
    (pss_cons (ps_if (PW.pt (pw_or (pt_not (pt_val (pe_callB call_isEr (by rfl) M.isinstance (by decide +kernel) (pa_cons (pv 8) (pa_cons (pe_ec EE 21 (by rfl)) pa_nil))))) (pw_or1 (pt_not (pt_val (pe_callB call_isEr (by rfl) M.isinstance (by decide +kernel) (pa_cons (pv 8) (pa_cons (pe_bltn (by rfl) M.ValueError (by decide +kernel) rfl) pa_nil))))))))
    (pss_one (ps_ret pe_bl))
    pss_nil)
    (pss_one (ps_if (pt_cmpR (op_neU hr.units) (pe_callG G__law_which hgu (hr.mono (by decide)) (by rfl) D__law_which.g D__law_which.F.kp D__law_which.b pass0 (pa_cons (pv 8) pa_nil)) (pe_lc (own := [("other", 9)]) (g := (gName 9)) (tt := tYes) rfl sc__law_right.nd (pi_rg1 (by rfl) M.range (pa_cons pe_int pa_nil)) (blkOk_by (N := ["tap", "letters", "text", "turn", "limit", "place", "errors_here", "k", "error", "other", "first"]) (sc := defScope s__law_right) (by decide +kernel)) (fun _ _ _ _ _ => (pg_name (i := 9) sc__law_right.nd rfl (by first | exact Or.inl rfl | exact Or.inr rfl))) (fun _ _ _ _ _ => pts_nil) (fun _ _ _ _ _ => (pe_cmpR (op_eqU hr.units) (pv 9) (pv 7) (nomark _)))) (nomark _))
    (pss_one (ps_ret pe_bl))
    pss_nil)))))
    (pss_cons (ps_if (pt_cmpR (op_neU hr.units) (pe_callB (call_reprD hgu hr.units) (by rfl) M.repr (by decide +kernel) (pa_cons (pe_lst (pa_cons (pe_erF (pe_ix ix_seq (pv 6) pe_int (fun _ _ => rfl))) (pa_cons (pe_erF (pe_ix ix_seq (pv 6) pe_int (fun _ _ => rfl))) pa_nil))) pa_nil)) (pe_callB (call_reprD hgu hr.units) (by rfl) M.repr (by decide +kernel) (pa_cons (pe_lst (pa_cons (pv 4) (pa_cons (pv 5) pa_nil))) pa_nil)) (nomark _))
    (pss_one (ps_ret pe_bl))
    pss_nil)
    (pss_cons (ps_set (i := 10) sc__law_right.nd rfl (by first | exact Or.inl rfl | exact Or.inr rfl) (pe_er1 EE 21 (hg := by rfl) (he := (pv 2))))
    (pss_one (ps_ret (pe_and (pe_callB call_isEr (by rfl) M.isinstance (by decide +kernel) (pa_cons (pv 10) (pa_cons (pe_bltn (by rfl) M.ValueError (by decide +kernel) rfl) pa_nil))) (pe_one (pe_cmpR op_notIn_seq pe_bl (pe_callG G__law_which hgu (hr.mono (by decide)) (by rfl) D__law_which.g D__law_which.F.kp D__law_which.b pass0 (pa_cons (pv 10) pa_nil)) (by rfl))))))))))))))
  · exact run_T h (ds__law_right EE)
theorem ok_law {f : Addr} {fd : FuncData} (D : Dn K mg "law" s_law ["script"] f fd) {f__law_tap : Addr} {fd__law_tap : FuncData} (D__law_tap : Dn K mg "_law_tap" s__law_tap ["cell", "turn"] f__law_tap fd__law_tap) (G__law_tap : FnG P w K mg base CX0 1 f__law_tap fd__law_tap ["cell", "turn"] (spF K W__law_tap)) {f__law_cells : Addr} {fd__law_cells : FuncData} (D__law_cells : Dn K mg "_law_cells" s__law_cells ["script", "many"] f__law_cells fd__law_cells) (G__law_cells : FnG P w K mg base CX0 1 f__law_cells fd__law_cells ["script", "many"] (spP K W__law_cells)) {f__law_right : Addr} {fd__law_right : FuncData} (D__law_right : Dn K mg "_law_right" s__law_right ["tap"] f__law_right fd__law_right) (G__law_right : FnG P w K mg base CX0 4 f__law_right fd__law_right ["tap"] (spT K W__law_right)) (M : Ms mg) (Cc : CsL mg ) (EE : EcF P K mg C) : FnG P w K mg base CX0 5 f fd ["script"] (spLaw K) := by
  refine fun_okG (k := 4) D.F sc_law (fun vs H Q E h => ?_) (fun cdv A outer s H vs Q E hgu hr h => ⟨t_law C K, ?_, ?_⟩)
  · obtain ⟨a, ns, rfl, _⟩ := h
    rfl
  · unfold t_law
    exact (pss_cons (ps_set (i := 1) sc_law.nd rfl (by first | exact Or.inl rfl | exact Or.inr rfl) (pe_callG G__law_cells hgu (hr.mono (by decide)) (by rfl) D__law_cells.g D__law_cells.F.kp D__law_cells.b pass0 (pa_cons (pv 0) (pa_cons pe_int pa_nil))))
    (pss_one (ps_ret (pe_cmpR (op_eqU hr.units) (pe_lc (own := [("k", 2)]) (g := (gName 2)) (tt := (tNot (tB (tCall (spT K W__law_right) [] E0 (tCons (tCall (spF K W__law_tap) [] E0 (tCons (tOp (rIx K) (tVar 1) (tVar 2)) (tCons (tVar 2) tNil))) tNil))))) rfl sc_law.nd (pi_rg1 (by rfl) M.range (pa_cons (pe_callB call_lenA (by rfl) M.len (by decide +kernel) (pa_cons (pv 1) pa_nil)) pa_nil)) (blkOk_by (N := ["script", "cells", "k"]) (sc := defScope s_law) (by decide +kernel)) (fun _ _ _ _ _ => (pg_name (i := 2) sc_law.nd rfl (by first | exact Or.inl rfl | exact Or.inr rfl))) (fun _ _ _ _ _ => (pts_one (pt_not (pt_val (pe_callG G__law_right hgu (hr.mono (by decide)) (by rfl) D__law_right.g D__law_right.F.kp D__law_right.b pass0 (pa_cons (pe_callG G__law_tap hgu (hr.mono (by decide)) (by rfl) D__law_tap.g D__law_tap.F.kp D__law_tap.b pass0 (pa_cons (pe_ix ix_seq (pv 1) (pv 2) (fun _ _ => rfl)) (pa_cons (pv 2) pa_nil))) pa_nil)))))) (fun _ _ _ _ _ => (pv 2))) (pe_lst pa_nil) (nomark _)))))
  · exact run_P (sp_of_law h) (ds_law EE)
end
theorem all_mk {l : PySem.W.OpenLaw} {w : World} {K : PySem.W.Frag} {h : Heap} {mg : Str → Option Value} {fa : Addr} (X : K.In h) (G : h.Ns mainGlobals mg) (hfa : mg "law" = some (.ref fa))
    {f1 f2 f3 f4 f5 f6 f7 : Addr}
    {od1 an1 od2 an2 od3 an3 od4 an4 od5 an5 od6 an6 od7 an7 : Option Addr}
    {sl1 sl2 sl3 sl4 sl5 sl6 sl7 : Array (Option Value)}
    {oc1 kV1 dc1 pm1 cd1 ct1 oc2 kV2 dc2 pm2 cd2 ct2 oc3 kV3 dc3 pm3 cd3 ct3 oc4 kV4 dc4 pm4 cd4 ct4 oc5 kV5 dc5 pm5 cd5 ct5 oc6 kV6 dc6 pm6 cd6 ct6 oc7 kV7 dc7 pm7 cd7 ct7 : Value}
    {eC0 eC1 eC2 eC3 eC4 eC5 eC6 eC7 eC8 eC9 eC10 eC11 eC12 eC13 eC14 eC15 eC16 eC17 eC18 eC19 eC20 eC21 fL ccL cdL fT ccT cdT : Addr} {eD0 eD1 eD2 eD3 eD4 eD5 eD6 eD7 eD8 eD9 eD10 eD11 eD12 eD13 eD14 eD15 eD16 eD17 eD18 eD19 eD20 eD21 xoL xoT xeL xeT xqL xqT xnL xnT : Option Addr} {sl_0 sl_1 sl_2 sl_3 sl_4 sl_5 sl_6 sl_7 sl_8 sl_9 sl_10 sl_11 sl_12 sl_13 sl_14 sl_15 sl_16 sl_17 sl_18 sl_21 xsL xsT xtL xtT xuL xuT : Array (Option Value)} {eN0 eQ0 eN1 eQ1 eN2 eQ2 eN3 eQ3 eN4 eQ4 eN5 eQ5 eN6 eQ6 eN7 eQ7 eN8 eQ8 eN9 eQ9 eN10 eQ10 eN11 eQ11 eN12 eQ12 eN13 eQ13 eN14 eQ14 eN15 eQ15 eN16 eQ16 eN17 eQ17 eN18 eQ18 eN19 eQ19 eN20 eQ20 eN21 eQ21 flL flT qlL qlT : Str} {eS0 eS1 eS2 eS3 eS4 eS5 eS6 eS7 eS8 eS9 eS10 eS11 eS12 eS13 eS14 eS15 eS16 eS17 eS18 eS19 eS20 eS21 : Addr} {eB0 eU0 eB1 eU1 eB2 eU2 eB3 eU3 eB4 eU4 eB5 eU5 eB6 eU6 eB7 eU7 eB8 eU8 eB9 eU9 eB10 eU10 eB11 eU11 eB12 eU12 eB13 eU13 eB14 eU14 eB15 eU15 eB16 eU16 eB17 eU17 eB18 eU18 eB19 eU19 eB20 eU20 eB21 eU21 : List Value} {eV0 eV1 eV2 eV3 eV4 eV5 eV6 eV7 eV8 eV9 eV10 eV11 eV12 eV13 eV14 eV15 eV16 eV17 eV18 eV19 eV20 eV21 : List Str} {eA0 eH0 eA1 eH1 eA2 eH2 eA3 eH3 eA4 eH4 eA5 eH5 eA6 eH6 eA7 eH7 eA8 eH8 eA9 eH9 eA10 eH10 eA11 eH11 eA12 eH12 eA13 eH13 eA14 eH14 eA15 eH15 eA16 eH16 eA17 eH17 eA18 eH18 eA19 eA20 eA21 eH21 : Bool} {eO0 eO1 eO2 eO3 eO4 eO5 eO6 eO7 eO8 eO9 eO10 eO11 eO12 eO13 eO14 eO15 eO16 eO17 eO18 eO19 eO20 eO21 : Option Bool} {dL pL tL oL dT pT tT oT yL zL yT zT : Value} {vL vT : Array Value} {fkL fkT : Tok} {p1L p2L q1L q2L q3L q4L q5L q6L q7L q8L q9L r1L r2L r3L r4L p1T p2T q1T q2T q3T q4T q5T q6T q7T q8T q9T r1T r2T r3T r4T : Pos} {k0L k1L k2L k3L k5L k0T k1T k2T k3T k5T : Option Value}
    (a1 : PySem.W.nsIn K mainGlobals "_law_tap" = some (some (.ref f1))) (l1 : K.lookup f1 = some ⟨oc1, od1, .func (PySem.W.fnOf "_law_tap" "_law_tap" (defArgs s__law_tap) (defBody s__law_tap) (defScope s__law_tap) .none kV1 dc1 pm1 an1 cd1 ct1), sl1⟩) (c1 : PySem.W.codeIn K cd1 "_law_tap" = true) (k1 : PySem.W.keepIn K (.ref f1) = true)
    (a2 : PySem.W.nsIn K mainGlobals "_law_draw" = some (some (.ref f2))) (l2 : K.lookup f2 = some ⟨oc2, od2, .func (PySem.W.fnOf "_law_draw" "_law_draw" (defArgs s__law_draw) (defBody s__law_draw) (defScope s__law_draw) .none kV2 dc2 pm2 an2 cd2 ct2), sl2⟩) (c2 : PySem.W.codeIn K cd2 "_law_draw" = true) (k2 : PySem.W.keepIn K (.ref f2) = true)
    (a3 : PySem.W.nsIn K mainGlobals "_law_cells" = some (some (.ref f3))) (l3 : K.lookup f3 = some ⟨oc3, od3, .func (PySem.W.fnOf "_law_cells" "_law_cells" (defArgs s__law_cells) (defBody s__law_cells) (defScope s__law_cells) .none kV3 dc3 pm3 an3 cd3 ct3), sl3⟩) (c3 : PySem.W.codeIn K cd3 "_law_cells" = true) (k3 : PySem.W.keepIn K (.ref f3) = true)
    (a4 : PySem.W.nsIn K mainGlobals "_law_which" = some (some (.ref f4))) (l4 : K.lookup f4 = some ⟨oc4, od4, .func (PySem.W.fnOf "_law_which" "_law_which" (defArgs s__law_which) (defBody s__law_which) (defScope s__law_which) .none kV4 dc4 pm4 an4 cd4 ct4), sl4⟩) (c4 : PySem.W.codeIn K cd4 "_law_which" = true) (k4 : PySem.W.keepIn K (.ref f4) = true)
    (a5 : PySem.W.nsIn K mainGlobals "_law_made_plain" = some (some (.ref f5))) (l5 : K.lookup f5 = some ⟨oc5, od5, .func (PySem.W.fnOf "_law_made_plain" "_law_made_plain" (defArgs s__law_made_plain) (defBody s__law_made_plain) (defScope s__law_made_plain) .none kV5 dc5 pm5 an5 cd5 ct5), sl5⟩) (c5 : PySem.W.codeIn K cd5 "_law_made_plain" = true) (k5 : PySem.W.keepIn K (.ref f5) = true)
    (a6 : PySem.W.nsIn K mainGlobals "_law_right" = some (some (.ref f6))) (l6 : K.lookup f6 = some ⟨oc6, od6, .func (PySem.W.fnOf "_law_right" "_law_right" (defArgs s__law_right) (defBody s__law_right) (defScope s__law_right) .none kV6 dc6 pm6 an6 cd6 ct6), sl6⟩) (c6 : PySem.W.codeIn K cd6 "_law_right" = true) (k6 : PySem.W.keepIn K (.ref f6) = true)
    (a7 : PySem.W.nsIn K mainGlobals "law" = some (some (.ref f7))) (l7 : K.lookup f7 = some ⟨oc7, od7, .func (PySem.W.fnOf "law" "law" (defArgs s_law) (defBody s_law) (defScope s_law) .none kV7 dc7 pm7 an7 cd7 ct7), sl7⟩) (c7 : PySem.W.codeIn K cd7 "law" = true) (k7 : PySem.W.keepIn K (.ref f7) = true)
    (z_ValueError : PySem.W.nsIn K mainGlobals "ValueError" = some none)
    (z_abs : PySem.W.nsIn K mainGlobals "abs" = some none)
    (z_int : PySem.W.nsIn K mainGlobals "int" = some none)
    (z_isinstance : PySem.W.nsIn K mainGlobals "isinstance" = some none)
    (z_len : PySem.W.nsIn K mainGlobals "len" = some none)
    (z_max : PySem.W.nsIn K mainGlobals "max" = some none)
    (z_min : PySem.W.nsIn K mainGlobals "min" = some none)
    (z_range : PySem.W.nsIn K mainGlobals "range" = some none)
    (z_repr : PySem.W.nsIn K mainGlobals "repr" = some none)
    (g_0 : PySem.W.nsIn K mainGlobals "InvalidRule" = some (some (.ref eC0)))
    (h_0 : K.lookup eC0 = some ⟨.type "type", eD0, .cls { name := eN0, bases := eB0, mro := [.ref eC0, .ref eC21, .type "ValueError", .type "Exception", .type "BaseException", .type "object"], ns := eS0, qualname := eQ0, hasDict := true, slotNames := eV0, subclasses := eU0, abstract := eA0, collection := eO0, hasDel := eH0 }, sl_0⟩)
    (i_0 : PySem.W.findIn K (.ref eC0) "__getattribute__" = some (some (.builtin "BaseException.__getattribute__")))
    (j_0 : PySem.W.findIn K (.ref eC0) "__getattr__" = some none)
    (m_0 : PySem.W.findIn K (.ref eC0) "__class__" = some (some (.builtin "object.__class__")))
    (x_0 : PySem.W.excIn K eC0 [.type "ValueError", .type "Exception", .type "BaseException", .type "object"] "ValueError.__new__" = true)
    (g_1 : PySem.W.nsIn K mainGlobals "InvalidWeight" = some (some (.ref eC1)))
    (h_1 : K.lookup eC1 = some ⟨.type "type", eD1, .cls { name := eN1, bases := eB1, mro := [.ref eC1, .ref eC21, .type "ValueError", .type "Exception", .type "BaseException", .type "object"], ns := eS1, qualname := eQ1, hasDict := true, slotNames := eV1, subclasses := eU1, abstract := eA1, collection := eO1, hasDel := eH1 }, sl_1⟩)
    (i_1 : PySem.W.findIn K (.ref eC1) "__getattribute__" = some (some (.builtin "BaseException.__getattribute__")))
    (j_1 : PySem.W.findIn K (.ref eC1) "__getattr__" = some none)
    (m_1 : PySem.W.findIn K (.ref eC1) "__class__" = some (some (.builtin "object.__class__")))
    (x_1 : PySem.W.excIn K eC1 [.type "ValueError", .type "Exception", .type "BaseException", .type "object"] "ValueError.__new__" = true)
    (g_2 : PySem.W.nsIn K mainGlobals "InvalidRing" = some (some (.ref eC2)))
    (h_2 : K.lookup eC2 = some ⟨.type "type", eD2, .cls { name := eN2, bases := eB2, mro := [.ref eC2, .ref eC21, .type "ValueError", .type "Exception", .type "BaseException", .type "object"], ns := eS2, qualname := eQ2, hasDict := true, slotNames := eV2, subclasses := eU2, abstract := eA2, collection := eO2, hasDel := eH2 }, sl_2⟩)
    (i_2 : PySem.W.findIn K (.ref eC2) "__getattribute__" = some (some (.builtin "BaseException.__getattribute__")))
    (j_2 : PySem.W.findIn K (.ref eC2) "__getattr__" = some none)
    (m_2 : PySem.W.findIn K (.ref eC2) "__class__" = some (some (.builtin "object.__class__")))
    (x_2 : PySem.W.excIn K eC2 [.type "ValueError", .type "Exception", .type "BaseException", .type "object"] "ValueError.__new__" = true)
    (g_3 : PySem.W.nsIn K mainGlobals "InvalidRuns" = some (some (.ref eC3)))
    (h_3 : K.lookup eC3 = some ⟨.type "type", eD3, .cls { name := eN3, bases := eB3, mro := [.ref eC3, .ref eC21, .type "ValueError", .type "Exception", .type "BaseException", .type "object"], ns := eS3, qualname := eQ3, hasDict := true, slotNames := eV3, subclasses := eU3, abstract := eA3, collection := eO3, hasDel := eH3 }, sl_3⟩)
    (i_3 : PySem.W.findIn K (.ref eC3) "__getattribute__" = some (some (.builtin "BaseException.__getattribute__")))
    (j_3 : PySem.W.findIn K (.ref eC3) "__getattr__" = some none)
    (m_3 : PySem.W.findIn K (.ref eC3) "__class__" = some (some (.builtin "object.__class__")))
    (x_3 : PySem.W.excIn K eC3 [.type "ValueError", .type "Exception", .type "BaseException", .type "object"] "ValueError.__new__" = true)
    (g_4 : PySem.W.nsIn K mainGlobals "InvalidSigns" = some (some (.ref eC4)))
    (h_4 : K.lookup eC4 = some ⟨.type "type", eD4, .cls { name := eN4, bases := eB4, mro := [.ref eC4, .ref eC21, .type "ValueError", .type "Exception", .type "BaseException", .type "object"], ns := eS4, qualname := eQ4, hasDict := true, slotNames := eV4, subclasses := eU4, abstract := eA4, collection := eO4, hasDel := eH4 }, sl_4⟩)
    (i_4 : PySem.W.findIn K (.ref eC4) "__getattribute__" = some (some (.builtin "BaseException.__getattribute__")))
    (j_4 : PySem.W.findIn K (.ref eC4) "__getattr__" = some none)
    (m_4 : PySem.W.findIn K (.ref eC4) "__class__" = some (some (.builtin "object.__class__")))
    (x_4 : PySem.W.excIn K eC4 [.type "ValueError", .type "Exception", .type "BaseException", .type "object"] "ValueError.__new__" = true)
    (g_5 : PySem.W.nsIn K mainGlobals "InvalidPairs" = some (some (.ref eC5)))
    (h_5 : K.lookup eC5 = some ⟨.type "type", eD5, .cls { name := eN5, bases := eB5, mro := [.ref eC5, .ref eC21, .type "ValueError", .type "Exception", .type "BaseException", .type "object"], ns := eS5, qualname := eQ5, hasDict := true, slotNames := eV5, subclasses := eU5, abstract := eA5, collection := eO5, hasDel := eH5 }, sl_5⟩)
    (i_5 : PySem.W.findIn K (.ref eC5) "__getattribute__" = some (some (.builtin "BaseException.__getattribute__")))
    (j_5 : PySem.W.findIn K (.ref eC5) "__getattr__" = some none)
    (m_5 : PySem.W.findIn K (.ref eC5) "__class__" = some (some (.builtin "object.__class__")))
    (x_5 : PySem.W.excIn K eC5 [.type "ValueError", .type "Exception", .type "BaseException", .type "object"] "ValueError.__new__" = true)
    (g_6 : PySem.W.nsIn K mainGlobals "InvalidMean" = some (some (.ref eC6)))
    (h_6 : K.lookup eC6 = some ⟨.type "type", eD6, .cls { name := eN6, bases := eB6, mro := [.ref eC6, .ref eC21, .type "ValueError", .type "Exception", .type "BaseException", .type "object"], ns := eS6, qualname := eQ6, hasDict := true, slotNames := eV6, subclasses := eU6, abstract := eA6, collection := eO6, hasDel := eH6 }, sl_6⟩)
    (i_6 : PySem.W.findIn K (.ref eC6) "__getattribute__" = some (some (.builtin "BaseException.__getattribute__")))
    (j_6 : PySem.W.findIn K (.ref eC6) "__getattr__" = some none)
    (m_6 : PySem.W.findIn K (.ref eC6) "__class__" = some (some (.builtin "object.__class__")))
    (x_6 : PySem.W.excIn K eC6 [.type "ValueError", .type "Exception", .type "BaseException", .type "object"] "ValueError.__new__" = true)
    (g_7 : PySem.W.nsIn K mainGlobals "InvalidCells" = some (some (.ref eC7)))
    (h_7 : K.lookup eC7 = some ⟨.type "type", eD7, .cls { name := eN7, bases := eB7, mro := [.ref eC7, .ref eC21, .type "ValueError", .type "Exception", .type "BaseException", .type "object"], ns := eS7, qualname := eQ7, hasDict := true, slotNames := eV7, subclasses := eU7, abstract := eA7, collection := eO7, hasDel := eH7 }, sl_7⟩)
    (i_7 : PySem.W.findIn K (.ref eC7) "__getattribute__" = some (some (.builtin "BaseException.__getattribute__")))
    (j_7 : PySem.W.findIn K (.ref eC7) "__getattr__" = some none)
    (m_7 : PySem.W.findIn K (.ref eC7) "__class__" = some (some (.builtin "object.__class__")))
    (x_7 : PySem.W.excIn K eC7 [.type "ValueError", .type "Exception", .type "BaseException", .type "object"] "ValueError.__new__" = true)
    (g_8 : PySem.W.nsIn K mainGlobals "InvalidTicks" = some (some (.ref eC8)))
    (h_8 : K.lookup eC8 = some ⟨.type "type", eD8, .cls { name := eN8, bases := eB8, mro := [.ref eC8, .ref eC21, .type "ValueError", .type "Exception", .type "BaseException", .type "object"], ns := eS8, qualname := eQ8, hasDict := true, slotNames := eV8, subclasses := eU8, abstract := eA8, collection := eO8, hasDel := eH8 }, sl_8⟩)
    (i_8 : PySem.W.findIn K (.ref eC8) "__getattribute__" = some (some (.builtin "BaseException.__getattribute__")))
    (j_8 : PySem.W.findIn K (.ref eC8) "__getattr__" = some none)
    (m_8 : PySem.W.findIn K (.ref eC8) "__class__" = some (some (.builtin "object.__class__")))
    (x_8 : PySem.W.excIn K eC8 [.type "ValueError", .type "Exception", .type "BaseException", .type "object"] "ValueError.__new__" = true)
    (g_9 : PySem.W.nsIn K mainGlobals "InvalidTotal" = some (some (.ref eC9)))
    (h_9 : K.lookup eC9 = some ⟨.type "type", eD9, .cls { name := eN9, bases := eB9, mro := [.ref eC9, .ref eC21, .type "ValueError", .type "Exception", .type "BaseException", .type "object"], ns := eS9, qualname := eQ9, hasDict := true, slotNames := eV9, subclasses := eU9, abstract := eA9, collection := eO9, hasDel := eH9 }, sl_9⟩)
    (i_9 : PySem.W.findIn K (.ref eC9) "__getattribute__" = some (some (.builtin "BaseException.__getattribute__")))
    (j_9 : PySem.W.findIn K (.ref eC9) "__getattr__" = some none)
    (m_9 : PySem.W.findIn K (.ref eC9) "__class__" = some (some (.builtin "object.__class__")))
    (x_9 : PySem.W.excIn K eC9 [.type "ValueError", .type "Exception", .type "BaseException", .type "object"] "ValueError.__new__" = true)
    (g_10 : PySem.W.nsIn K mainGlobals "InvalidIndex" = some (some (.ref eC10)))
    (h_10 : K.lookup eC10 = some ⟨.type "type", eD10, .cls { name := eN10, bases := eB10, mro := [.ref eC10, .ref eC21, .type "ValueError", .type "Exception", .type "BaseException", .type "object"], ns := eS10, qualname := eQ10, hasDict := true, slotNames := eV10, subclasses := eU10, abstract := eA10, collection := eO10, hasDel := eH10 }, sl_10⟩)
    (i_10 : PySem.W.findIn K (.ref eC10) "__getattribute__" = some (some (.builtin "BaseException.__getattribute__")))
    (j_10 : PySem.W.findIn K (.ref eC10) "__getattr__" = some none)
    (m_10 : PySem.W.findIn K (.ref eC10) "__class__" = some (some (.builtin "object.__class__")))
    (x_10 : PySem.W.excIn K eC10 [.type "ValueError", .type "Exception", .type "BaseException", .type "object"] "ValueError.__new__" = true)
    (g_11 : PySem.W.nsIn K mainGlobals "InvalidMark" = some (some (.ref eC11)))
    (h_11 : K.lookup eC11 = some ⟨.type "type", eD11, .cls { name := eN11, bases := eB11, mro := [.ref eC11, .ref eC21, .type "ValueError", .type "Exception", .type "BaseException", .type "object"], ns := eS11, qualname := eQ11, hasDict := true, slotNames := eV11, subclasses := eU11, abstract := eA11, collection := eO11, hasDel := eH11 }, sl_11⟩)
    (i_11 : PySem.W.findIn K (.ref eC11) "__getattribute__" = some (some (.builtin "BaseException.__getattribute__")))
    (j_11 : PySem.W.findIn K (.ref eC11) "__getattr__" = some none)
    (m_11 : PySem.W.findIn K (.ref eC11) "__class__" = some (some (.builtin "object.__class__")))
    (x_11 : PySem.W.excIn K eC11 [.type "ValueError", .type "Exception", .type "BaseException", .type "object"] "ValueError.__new__" = true)
    (g_12 : PySem.W.nsIn K mainGlobals "InvalidCell" = some (some (.ref eC12)))
    (h_12 : K.lookup eC12 = some ⟨.type "type", eD12, .cls { name := eN12, bases := eB12, mro := [.ref eC12, .ref eC21, .type "ValueError", .type "Exception", .type "BaseException", .type "object"], ns := eS12, qualname := eQ12, hasDict := true, slotNames := eV12, subclasses := eU12, abstract := eA12, collection := eO12, hasDel := eH12 }, sl_12⟩)
    (i_12 : PySem.W.findIn K (.ref eC12) "__getattribute__" = some (some (.builtin "BaseException.__getattribute__")))
    (j_12 : PySem.W.findIn K (.ref eC12) "__getattr__" = some none)
    (m_12 : PySem.W.findIn K (.ref eC12) "__class__" = some (some (.builtin "object.__class__")))
    (x_12 : PySem.W.excIn K eC12 [.type "ValueError", .type "Exception", .type "BaseException", .type "object"] "ValueError.__new__" = true)
    (g_13 : PySem.W.nsIn K mainGlobals "InvalidSign" = some (some (.ref eC13)))
    (h_13 : K.lookup eC13 = some ⟨.type "type", eD13, .cls { name := eN13, bases := eB13, mro := [.ref eC13, .ref eC21, .type "ValueError", .type "Exception", .type "BaseException", .type "object"], ns := eS13, qualname := eQ13, hasDict := true, slotNames := eV13, subclasses := eU13, abstract := eA13, collection := eO13, hasDel := eH13 }, sl_13⟩)
    (i_13 : PySem.W.findIn K (.ref eC13) "__getattribute__" = some (some (.builtin "BaseException.__getattribute__")))
    (j_13 : PySem.W.findIn K (.ref eC13) "__getattr__" = some none)
    (m_13 : PySem.W.findIn K (.ref eC13) "__class__" = some (some (.builtin "object.__class__")))
    (x_13 : PySem.W.excIn K eC13 [.type "ValueError", .type "Exception", .type "BaseException", .type "object"] "ValueError.__new__" = true)
    (g_14 : PySem.W.nsIn K mainGlobals "InvalidCommand" = some (some (.ref eC14)))
    (h_14 : K.lookup eC14 = some ⟨.type "type", eD14, .cls { name := eN14, bases := eB14, mro := [.ref eC14, .ref eC21, .type "ValueError", .type "Exception", .type "BaseException", .type "object"], ns := eS14, qualname := eQ14, hasDict := true, slotNames := eV14, subclasses := eU14, abstract := eA14, collection := eO14, hasDel := eH14 }, sl_14⟩)
    (i_14 : PySem.W.findIn K (.ref eC14) "__getattribute__" = some (some (.builtin "BaseException.__getattribute__")))
    (j_14 : PySem.W.findIn K (.ref eC14) "__getattr__" = some none)
    (m_14 : PySem.W.findIn K (.ref eC14) "__class__" = some (some (.builtin "object.__class__")))
    (x_14 : PySem.W.excIn K eC14 [.type "ValueError", .type "Exception", .type "BaseException", .type "object"] "ValueError.__new__" = true)
    (g_15 : PySem.W.nsIn K mainGlobals "UnlikeSigns" = some (some (.ref eC15)))
    (h_15 : K.lookup eC15 = some ⟨.type "type", eD15, .cls { name := eN15, bases := eB15, mro := [.ref eC15, .ref eC21, .type "ValueError", .type "Exception", .type "BaseException", .type "object"], ns := eS15, qualname := eQ15, hasDict := true, slotNames := eV15, subclasses := eU15, abstract := eA15, collection := eO15, hasDel := eH15 }, sl_15⟩)
    (i_15 : PySem.W.findIn K (.ref eC15) "__getattribute__" = some (some (.builtin "BaseException.__getattribute__")))
    (j_15 : PySem.W.findIn K (.ref eC15) "__getattr__" = some none)
    (m_15 : PySem.W.findIn K (.ref eC15) "__class__" = some (some (.builtin "object.__class__")))
    (x_15 : PySem.W.excIn K eC15 [.type "ValueError", .type "Exception", .type "BaseException", .type "object"] "ValueError.__new__" = true)
    (g_16 : PySem.W.nsIn K mainGlobals "NotKept" = some (some (.ref eC16)))
    (h_16 : K.lookup eC16 = some ⟨.type "type", eD16, .cls { name := eN16, bases := eB16, mro := [.ref eC16, .ref eC21, .type "ValueError", .type "Exception", .type "BaseException", .type "object"], ns := eS16, qualname := eQ16, hasDict := true, slotNames := eV16, subclasses := eU16, abstract := eA16, collection := eO16, hasDel := eH16 }, sl_16⟩)
    (i_16 : PySem.W.findIn K (.ref eC16) "__getattribute__" = some (some (.builtin "BaseException.__getattribute__")))
    (j_16 : PySem.W.findIn K (.ref eC16) "__getattr__" = some none)
    (m_16 : PySem.W.findIn K (.ref eC16) "__class__" = some (some (.builtin "object.__class__")))
    (x_16 : PySem.W.excIn K eC16 [.type "ValueError", .type "Exception", .type "BaseException", .type "object"] "ValueError.__new__" = true)
    (g_17 : PySem.W.nsIn K mainGlobals "NotFitting" = some (some (.ref eC17)))
    (h_17 : K.lookup eC17 = some ⟨.type "type", eD17, .cls { name := eN17, bases := eB17, mro := [.ref eC17, .ref eC21, .type "ValueError", .type "Exception", .type "BaseException", .type "object"], ns := eS17, qualname := eQ17, hasDict := true, slotNames := eV17, subclasses := eU17, abstract := eA17, collection := eO17, hasDel := eH17 }, sl_17⟩)
    (i_17 : PySem.W.findIn K (.ref eC17) "__getattribute__" = some (some (.builtin "BaseException.__getattribute__")))
    (j_17 : PySem.W.findIn K (.ref eC17) "__getattr__" = some none)
    (m_17 : PySem.W.findIn K (.ref eC17) "__class__" = some (some (.builtin "object.__class__")))
    (x_17 : PySem.W.excIn K eC17 [.type "ValueError", .type "Exception", .type "BaseException", .type "object"] "ValueError.__new__" = true)
    (g_18 : PySem.W.nsIn K mainGlobals "NothingToUndo" = some (some (.ref eC18)))
    (h_18 : K.lookup eC18 = some ⟨.type "type", eD18, .cls { name := eN18, bases := eB18, mro := [.ref eC18, .ref eC21, .type "ValueError", .type "Exception", .type "BaseException", .type "object"], ns := eS18, qualname := eQ18, hasDict := true, slotNames := eV18, subclasses := eU18, abstract := eA18, collection := eO18, hasDel := eH18 }, sl_18⟩)
    (i_18 : PySem.W.findIn K (.ref eC18) "__getattribute__" = some (some (.builtin "BaseException.__getattribute__")))
    (j_18 : PySem.W.findIn K (.ref eC18) "__getattr__" = some none)
    (m_18 : PySem.W.findIn K (.ref eC18) "__class__" = some (some (.builtin "object.__class__")))
    (x_18 : PySem.W.excIn K eC18 [.type "ValueError", .type "Exception", .type "BaseException", .type "object"] "ValueError.__new__" = true)
    (g_19 : PySem.W.nsIn K mainGlobals "TooLarge" = some (some (.ref eC19)))
    (h_19 : K.lookup eC19 = some (excClassObj eN19 eQ19 eC19 eS19 eB19 [.ref eC21, .type "ValueError", .type "Exception", .type "BaseException", .type "object"] true eV19 eU19 eA19 eO19 eD19 k0L k1L k2L k3L k5L "ValueError.__new__"))
    (i_19 : PySem.W.findIn K (.ref eC19) "__getattribute__" = some (some (.builtin "BaseException.__getattribute__")))
    (j_19 : PySem.W.findIn K (.ref eC19) "__getattr__" = some none)
    (m_19 : PySem.W.findIn K (.ref eC19) "__class__" = some (some (.builtin "object.__class__")))
    (g_20 : PySem.W.nsIn K mainGlobals "InvalidText" = some (some (.ref eC20)))
    (h_20 : K.lookup eC20 = some (excClassObj eN20 eQ20 eC20 eS20 eB20 [.ref eC21, .type "ValueError", .type "Exception", .type "BaseException", .type "object"] true eV20 eU20 eA20 eO20 eD20 k0T k1T k2T k3T k5T "ValueError.__new__"))
    (i_20 : PySem.W.findIn K (.ref eC20) "__getattribute__" = some (some (.builtin "BaseException.__getattribute__")))
    (j_20 : PySem.W.findIn K (.ref eC20) "__getattr__" = some none)
    (m_20 : PySem.W.findIn K (.ref eC20) "__class__" = some (some (.builtin "object.__class__")))
    (g_21 : PySem.W.nsIn K mainGlobals "FlowError" = some (some (.ref eC21)))
    (h_21 : K.lookup eC21 = some ⟨.type "type", eD21, .cls { name := eN21, bases := eB21, mro := [.ref eC21, .type "ValueError", .type "Exception", .type "BaseException", .type "object"], ns := eS21, qualname := eQ21, hasDict := true, slotNames := eV21, subclasses := eU21, abstract := eA21, collection := eO21, hasDel := eH21 }, sl_21⟩)
    (i_21 : PySem.W.findIn K (.ref eC21) "__getattribute__" = some (some (.builtin "BaseException.__getattribute__")))
    (j_21 : PySem.W.findIn K (.ref eC21) "__getattr__" = some none)
    (m_21 : PySem.W.findIn K (.ref eC21) "__class__" = some (some (.builtin "object.__class__")))
    (x_21 : PySem.W.excIn K eC21 [.type "ValueError", .type "Exception", .type "BaseException", .type "object"] "ValueError.__new__" = true)
    (s_get : PySem.W.specialIn K (.builtin "object.__class__") "__get__" = some (some (.builtin "getset_descriptor.__get__")))
    (s_set : PySem.W.takesIn K (.builtin "object.__class__") = some true)
    (s_opq : PySem.W.nsIn K PySem.cStatics "thirdparty.any" = some none)
    (s_sup : PySem.W.nsIn K mainGlobals "super" = some none)
    (a_L1 : PySem.W.findIn K (.ref eC19) "__setattr__" = some (some (.builtin "object.__setattr__")))
    (a_L2 : PySem.W.findIn K (.ref eC19) "__init__" = some (some (.ref fL)))
    (a_L3 : PySem.W.typeIn K (.ref fL) = some (.type "function"))
    (a_L4 : PySem.W.findIn K (.ref eC19) "limit" = some none)
    (a_L5 : K.lookup fL = some ⟨yL, xoL, .func (PySem.W.ksFn "__init__" qlL (oiA "limit" p1L p2L) (oiB "more than " "limit" q1L q2L q3L q4L q5L q6L q7L q8L q9L r1L r2L r3L r4L) (oiS "limit") .none .none dL pL xnL (.ref cdL) tL ccL), xsL⟩)
    (a_L6 : PySem.W.codeIn K (.ref cdL) qlL = true)
    (a_L7 : K.lookup cdL = some ⟨zL, xeL, .fields vL, xtL⟩)
    (a_L8 : K.lookup ccL = some ⟨oL, xqL, .cell (some (.ref eC19)), xuL⟩)
    (a_T1 : PySem.W.findIn K (.ref eC20) "__setattr__" = some (some (.builtin "object.__setattr__")))
    (a_T2 : PySem.W.findIn K (.ref eC20) "__init__" = some (some (.ref fT)))
    (a_T3 : PySem.W.typeIn K (.ref fT) = some (.type "function"))
    (a_T4 : PySem.W.findIn K (.ref eC20) "place" = some none)
    (a_T5 : K.lookup fT = some ⟨yT, xoT, .func (PySem.W.ksFn "__init__" qlT (oiA "place" p1T p2T) (oiB "wrong at the word " "place" q1T q2T q3T q4T q5T q6T q7T q8T q9T r1T r2T r3T r4T) (oiS "place") .none .none dT pT xnT (.ref cdT) tT ccT), xsT⟩)
    (a_T6 : PySem.W.codeIn K (.ref cdT) qlT = true)
    (a_T7 : K.lookup cdT = some ⟨zT, xeT, .fields vT, xtT⟩)
    (a_T8 : K.lookup ccT = some ⟨oT, xqT, .cell (some (.ref eC20)), xuT⟩)
    (b_L1 : vL[2]? = some (.str flL fkL))
    (b_L2 : ((l.prog.main.file : Str) == flL) = true)
    (b_L3 : (q3L.endLine == q8L.line) = true)
    (b_T1 : vT[2]? = some (.str flT fkT))
    (b_T2 : ((l.prog.main.file : Str) == flT) = true)
    (b_T3 : (q3T.endLine == q8T.line) = true)
    (b_top : (l.prog.main.scope.names.lookup ("super" : Str)).isSome = false)
    (b_nd : [eC0, eC1, eC2, eC3, eC4, eC5, eC6, eC7, eC8, eC9, eC10, eC11, eC12, eC13, eC14, eC15, eC16, eC17, eC18, eC19, eC20, eC21].Nodup)
    (a_F9 : PySem.W.findIn K (.ref eC21) "__init__" = some (some (.builtin "ValueError.__init__")))
    : ∃ fd : FuncData, (∀ (s : Shared) (u : Value), BindsTo s fd ⟨[u], []⟩ [("script", u)]) ∧ ∀ base : Heap, K.In base → base.Ns mainGlobals mg → FnG l.prog w K mg base CX0 5 fa fd ["script"] (spLaw K) := by
  have e := hfa.symm.trans (PySem.W.mg_of X G a7)
  cases e
  have M : Ms mg := ⟨PySem.W.mg_none_of X G z_ValueError, PySem.W.mg_none_of X G z_abs, PySem.W.mg_none_of X G z_int, PySem.W.mg_none_of X G z_isinstance, PySem.W.mg_none_of X G z_len, PySem.W.mg_none_of X G z_max, PySem.W.mg_none_of X G z_min, PySem.W.mg_none_of X G z_range, PySem.W.mg_none_of X G z_repr⟩
  have Cc : CsL mg  := ⟨trivial⟩
  have F1 := fun_mk (st := s__law_tap) l1 c1 k1
  have D__law_tap : Dn K mg "_law_tap" s__law_tap ["cell", "turn"] f1 (PySem.W.fnOf "_law_tap" "_law_tap" (defArgs s__law_tap) (defBody s__law_tap) (defScope s__law_tap) .none kV1 dc1 pm1 an1 cd1 ct1) := ⟨F1, PySem.W.mg_of X G a1, F1.binds (ps := ["cell", "turn"]) fun _ _ _ _ _ _ us hl => match us, hl with | [_, _], _ => rfl⟩
  have F2 := fun_mk (st := s__law_draw) l2 c2 k2
  have D__law_draw : Dn K mg "_law_draw" s__law_draw ["tap", "bound"] f2 (PySem.W.fnOf "_law_draw" "_law_draw" (defArgs s__law_draw) (defBody s__law_draw) (defScope s__law_draw) .none kV2 dc2 pm2 an2 cd2 ct2) := ⟨F2, PySem.W.mg_of X G a2, F2.binds (ps := ["tap", "bound"]) fun _ _ _ _ _ _ us hl => match us, hl with | [_, _], _ => rfl⟩
  have F3 := fun_mk (st := s__law_cells) l3 c3 k3
  have D__law_cells : Dn K mg "_law_cells" s__law_cells ["script", "many"] f3 (PySem.W.fnOf "_law_cells" "_law_cells" (defArgs s__law_cells) (defBody s__law_cells) (defScope s__law_cells) .none kV3 dc3 pm3 an3 cd3 ct3) := ⟨F3, PySem.W.mg_of X G a3, F3.binds (ps := ["script", "many"]) fun _ _ _ _ _ _ us hl => match us, hl with | [_, _], _ => rfl⟩
  have F4 := fun_mk (st := s__law_which) l4 c4 k4
  have D__law_which : Dn K mg "_law_which" s__law_which ["error"] f4 (PySem.W.fnOf "_law_which" "_law_which" (defArgs s__law_which) (defBody s__law_which) (defScope s__law_which) .none kV4 dc4 pm4 an4 cd4 ct4) := ⟨F4, PySem.W.mg_of X G a4, F4.binds (ps := ["error"]) fun _ _ _ _ _ _ us hl => match us, hl with | [_], _ => rfl⟩
  have F5 := fun_mk (st := s__law_made_plain) l5 c5 k5
  have D__law_made_plain : Dn K mg "_law_made_plain" s__law_made_plain ["text"] f5 (PySem.W.fnOf "_law_made_plain" "_law_made_plain" (defArgs s__law_made_plain) (defBody s__law_made_plain) (defScope s__law_made_plain) .none kV5 dc5 pm5 an5 cd5 ct5) := ⟨F5, PySem.W.mg_of X G a5, F5.binds (ps := ["text"]) fun _ _ _ _ _ _ us hl => match us, hl with | [_], _ => rfl⟩
  have F6 := fun_mk (st := s__law_right) l6 c6 k6
  have D__law_right : Dn K mg "_law_right" s__law_right ["tap"] f6 (PySem.W.fnOf "_law_right" "_law_right" (defArgs s__law_right) (defBody s__law_right) (defScope s__law_right) .none kV6 dc6 pm6 an6 cd6 ct6) := ⟨F6, PySem.W.mg_of X G a6, F6.binds (ps := ["tap"]) fun _ _ _ _ _ _ us hl => match us, hl with | [_], _ => rfl⟩
  have F7 := fun_mk (st := s_law) l7 c7 k7
  have D_law : Dn K mg "law" s_law ["script"] fa (PySem.W.fnOf "law" "law" (defArgs s_law) (defBody s_law) (defScope s_law) .none kV7 dc7 pm7 an7 cd7 ct7) := ⟨F7, PySem.W.mg_of X G a7, F7.binds (ps := ["script"]) fun _ _ _ _ _ _ us hl => match us, hl with | [_], _ => rfl⟩
  refine ⟨PySem.W.fnOf "law" "law" (defArgs s_law) (defBody s_law) (defScope s_law) .none kV7 dc7 pm7 an7 cd7 ct7, fun s v => .of_eq rfl, fun base _ _ => ?_⟩
  have E1 : ∀ i, i < 22 → Ec1 K mg (ecN i) (([eC0, eC1, eC2, eC3, eC4, eC5, eC6, eC7, eC8, eC9, eC10, eC11, eC12, eC13, eC14, eC15, eC16, eC17, eC18, eC19, eC20, eC21] : List Addr).getD i 0) (ecB (([eC0, eC1, eC2, eC3, eC4, eC5, eC6, eC7, eC8, eC9, eC10, eC11, eC12, eC13, eC14, eC15, eC16, eC17, eC18, eC19, eC20, eC21] : List Addr).getD 21 0) i) := fun i hi => match i, hi with | 0, _ => ⟨PySem.W.mg_of X G g_0, ⟨_, _, _, h_0, rfl, rfl⟩, i_0, j_0, m_0⟩ | 1, _ => ⟨PySem.W.mg_of X G g_1, ⟨_, _, _, h_1, rfl, rfl⟩, i_1, j_1, m_1⟩ | 2, _ => ⟨PySem.W.mg_of X G g_2, ⟨_, _, _, h_2, rfl, rfl⟩, i_2, j_2, m_2⟩ | 3, _ => ⟨PySem.W.mg_of X G g_3, ⟨_, _, _, h_3, rfl, rfl⟩, i_3, j_3, m_3⟩ | 4, _ => ⟨PySem.W.mg_of X G g_4, ⟨_, _, _, h_4, rfl, rfl⟩, i_4, j_4, m_4⟩ | 5, _ => ⟨PySem.W.mg_of X G g_5, ⟨_, _, _, h_5, rfl, rfl⟩, i_5, j_5, m_5⟩ | 6, _ => ⟨PySem.W.mg_of X G g_6, ⟨_, _, _, h_6, rfl, rfl⟩, i_6, j_6, m_6⟩ | 7, _ => ⟨PySem.W.mg_of X G g_7, ⟨_, _, _, h_7, rfl, rfl⟩, i_7, j_7, m_7⟩ | 8, _ => ⟨PySem.W.mg_of X G g_8, ⟨_, _, _, h_8, rfl, rfl⟩, i_8, j_8, m_8⟩ | 9, _ => ⟨PySem.W.mg_of X G g_9, ⟨_, _, _, h_9, rfl, rfl⟩, i_9, j_9, m_9⟩ | 10, _ => ⟨PySem.W.mg_of X G g_10, ⟨_, _, _, h_10, rfl, rfl⟩, i_10, j_10, m_10⟩ | 11, _ => ⟨PySem.W.mg_of X G g_11, ⟨_, _, _, h_11, rfl, rfl⟩, i_11, j_11, m_11⟩ | 12, _ => ⟨PySem.W.mg_of X G g_12, ⟨_, _, _, h_12, rfl, rfl⟩, i_12, j_12, m_12⟩ | 13, _ => ⟨PySem.W.mg_of X G g_13, ⟨_, _, _, h_13, rfl, rfl⟩, i_13, j_13, m_13⟩ | 14, _ => ⟨PySem.W.mg_of X G g_14, ⟨_, _, _, h_14, rfl, rfl⟩, i_14, j_14, m_14⟩ | 15, _ => ⟨PySem.W.mg_of X G g_15, ⟨_, _, _, h_15, rfl, rfl⟩, i_15, j_15, m_15⟩ | 16, _ => ⟨PySem.W.mg_of X G g_16, ⟨_, _, _, h_16, rfl, rfl⟩, i_16, j_16, m_16⟩ | 17, _ => ⟨PySem.W.mg_of X G g_17, ⟨_, _, _, h_17, rfl, rfl⟩, i_17, j_17, m_17⟩ | 18, _ => ⟨PySem.W.mg_of X G g_18, ⟨_, _, _, h_18, rfl, rfl⟩, i_18, j_18, m_18⟩ | 19, _ => ⟨PySem.W.mg_of X G g_19, ⟨_, _, _, h_19, rfl, rfl⟩, i_19, j_19, m_19⟩ | 20, _ => ⟨PySem.W.mg_of X G g_20, ⟨_, _, _, h_20, rfl, rfl⟩, i_20, j_20, m_20⟩ | 21, _ => ⟨PySem.W.mg_of X G g_21, ⟨_, _, _, h_21, rfl, rfl⟩, i_21, j_21, m_21⟩ | n + 22, h => absurd h (by omega)
  have X1 : ∀ i, i < 22 → i ≠ 19 → i ≠ 20 → PySem.W.excIn K (([eC0, eC1, eC2, eC3, eC4, eC5, eC6, eC7, eC8, eC9, eC10, eC11, eC12, eC13, eC14, eC15, eC16, eC17, eC18, eC19, eC20, eC21] : List Addr).getD i 0) veL "ValueError.__new__" = true := fun i hi h1 h2 => match i, hi, h1, h2 with | 0, _, _, _ => x_0 | 1, _, _, _ => x_1 | 2, _, _, _ => x_2 | 3, _, _, _ => x_3 | 4, _, _, _ => x_4 | 5, _, _, _ => x_5 | 6, _, _, _ => x_6 | 7, _, _, _ => x_7 | 8, _, _, _ => x_8 | 9, _, _, _ => x_9 | 10, _, _, _ => x_10 | 11, _, _, _ => x_11 | 12, _, _, _ => x_12 | 13, _, _, _ => x_13 | 14, _, _, _ => x_14 | 15, _, _, _ => x_15 | 16, _, _, _ => x_16 | 17, _, _, _ => x_17 | 18, _, _, _ => x_18 | 21, _, _, _ => x_21 | 19, _, h, _ => absurd rfl h | 20, _, _, h => absurd rfl h | n + 22, h, _, _ => absurd h (by omega)
  have OL : OiT l.prog K mg eC19 fL ccL cdL "TooLarge" "more than " "limit" qlL := { gC := PySem.W.mg_of X G g_19, ox := ⟨⟨_, _, _, _, _, _, _, _, _, _, _, _, _, _, _, h_19, rfl⟩, a_L1, (E1 19 (by decide)).sub _, (E1 19 (by decide)).typ, (E1 19 (by decide)).keep⟩, iC := a_L2, tI := a_L3, noX := a_L4, fn := ⟨_, _, _, _, _, _, _, _, _, _, _, _, _, _, _, _, _, _, _, _, _, _, a_L5, b_L3⟩, cd := a_L6, co := ⟨_, _, _, _, _, _, a_L7, b_L1, b_L2⟩, ce := ⟨_, _, _, a_L8⟩, su := ec_su (E1 19 (by decide)) (E1 21 (by decide)) a_F9, sb := (E1 19 (by decide)).sub _, mr := ((E1 19 (by decide)).sub _).trans (by simp), op := s_opq, no := PySem.W.mg_none_of X G s_sup, top := b_top }
  have OT : OiT l.prog K mg eC20 fT ccT cdT "InvalidText" "wrong at the word " "place" qlT := { gC := PySem.W.mg_of X G g_20, ox := ⟨⟨_, _, _, _, _, _, _, _, _, _, _, _, _, _, _, h_20, rfl⟩, a_T1, (E1 20 (by decide)).sub _, (E1 20 (by decide)).typ, (E1 20 (by decide)).keep⟩, iC := a_T2, tI := a_T3, noX := a_T4, fn := ⟨_, _, _, _, _, _, _, _, _, _, _, _, _, _, _, _, _, _, _, _, _, _, a_T5, b_T3⟩, cd := a_T6, co := ⟨_, _, _, _, _, _, a_T7, b_T1, b_T2⟩, ce := ⟨_, _, _, a_T8⟩, su := ec_su (E1 20 (by decide)) (E1 21 (by decide)) a_F9, sb := (E1 20 (by decide)).sub _, mr := ((E1 20 (by decide)).sub _).trans (by simp), op := s_opq, no := PySem.W.mg_none_of X G s_sup, top := b_top }
  have EE : EcF l.prog K mg (fun i => ([eC0, eC1, eC2, eC3, eC4, eC5, eC6, eC7, eC8, eC9, eC10, eC11, eC12, eC13, eC14, eC15, eC16, eC17, eC18, eC19, eC20, eC21] : List Addr).getD i 0) := ecF_mk E1 (fun i j hi hj e => ec_nd b_nd hi hj e) s_get s_set X1 ⟨_, _, _, _, OL⟩ ⟨_, _, _, _, OT⟩
  have G__law_tap := ok__law_tap (P := l.prog) (w := w) (base := base) D__law_tap  M Cc
  have G__law_draw := ok__law_draw (P := l.prog) (w := w) (base := base) D__law_draw  M Cc
  have G__law_cells := ok__law_cells (P := l.prog) (w := w) (base := base) D__law_cells  M Cc
  have G__law_which := ok__law_which (P := l.prog) (w := w) (base := base) D__law_which  M Cc EE
  have G__law_made_plain := ok__law_made_plain (P := l.prog) (w := w) (base := base) D__law_made_plain  M Cc EE
  have G__law_right := ok__law_right (P := l.prog) (w := w) (base := base) D__law_right D__law_draw G__law_draw D__law_which G__law_which D__law_made_plain G__law_made_plain M Cc EE
  have G_law := ok_law (P := l.prog) (w := w) (base := base) D_law D__law_tap G__law_tap D__law_cells G__law_cells D__law_right G__law_right M Cc EE
  exact G_law
end Cf
open PySem PySem.W PyProof.Rows
set_option maxHeartbeats 0 in
theorem PySem.Challenge.cw_cellflows_k19_errors_made_holds : PySem.Challenge.rw_cellflows_k19_errors_made.Holds := by
  w_on; o_law; k_head; (case hw => w_witness2)
  k_fill
  refine Cf.walk_G (l := PySem.Challenge.rw_cellflows_k19_errors_made) (k := 5) (x := "script") rfl (by decide) ⟨rfl, by decide, by decide⟩ (fun w h Y => PySem.W.kIn_of Y) ?F
  case F =>
    intro w mg fa h KX G hmg
    refine' Cf.all_mk KX G hmg ?a1 ?l1 ?c1 ?k1 ?a2 ?l2 ?c2 ?k2 ?a3 ?l3 ?c3 ?k3 ?a4 ?l4 ?c4 ?k4 ?a5 ?l5 ?c5 ?k5 ?a6 ?l6 ?c6 ?k6 ?a7 ?l7 ?c7 ?k7 ?z_ValueError ?z_abs ?z_int ?z_isinstance ?z_len ?z_max ?z_min ?z_range ?z_repr ?g_0 ?h_0 ?i_0 ?j_0 ?m_0 ?x_0 ?g_1 ?h_1 ?i_1 ?j_1 ?m_1 ?x_1 ?g_2 ?h_2 ?i_2 ?j_2 ?m_2 ?x_2 ?g_3 ?h_3 ?i_3 ?j_3 ?m_3 ?x_3 ?g_4 ?h_4 ?i_4 ?j_4 ?m_4 ?x_4 ?g_5 ?h_5 ?i_5 ?j_5 ?m_5 ?x_5 ?g_6 ?h_6 ?i_6 ?j_6 ?m_6 ?x_6 ?g_7 ?h_7 ?i_7 ?j_7 ?m_7 ?x_7 ?g_8 ?h_8 ?i_8 ?j_8 ?m_8 ?x_8 ?g_9 ?h_9 ?i_9 ?j_9 ?m_9 ?x_9 ?g_10 ?h_10 ?i_10 ?j_10 ?m_10 ?x_10 ?g_11 ?h_11 ?i_11 ?j_11 ?m_11 ?x_11 ?g_12 ?h_12 ?i_12 ?j_12 ?m_12 ?x_12 ?g_13 ?h_13 ?i_13 ?j_13 ?m_13 ?x_13 ?g_14 ?h_14 ?i_14 ?j_14 ?m_14 ?x_14 ?g_15 ?h_15 ?i_15 ?j_15 ?m_15 ?x_15 ?g_16 ?h_16 ?i_16 ?j_16 ?m_16 ?x_16 ?g_17 ?h_17 ?i_17 ?j_17 ?m_17 ?x_17 ?g_18 ?h_18 ?i_18 ?j_18 ?m_18 ?x_18 ?g_19 ?h_19 ?i_19 ?j_19 ?m_19 ?g_20 ?h_20 ?i_20 ?j_20 ?m_20 ?g_21 ?h_21 ?i_21 ?j_21 ?m_21 ?x_21 ?s_get ?s_set ?s_opq ?s_sup ?a_L1 ?a_L2 ?a_L3 ?a_L4 ?a_L5 ?a_L6 ?a_L7 ?a_L8 ?a_T1 ?a_T2 ?a_T3 ?a_T4 ?a_T5 ?a_T6 ?a_T7 ?a_T8 ?b_L1 ?b_L2 ?b_L3 ?b_T1 ?b_T2 ?b_T3 ?b_top ?b_nd ?a_F9
    (case a1 => k_is)
    (case l1 => k_is)
    (case c1 => k_is)
    (case k1 => k_is)
    (case a2 => k_is)
    (case l2 => k_is)
    (case c2 => k_is)
    (case k2 => k_is)
    (case a3 => k_is)
    (case l3 => k_is)
    (case c3 => k_is)
    (case k3 => k_is)
    (case a4 => k_is)
    (case l4 => k_is)
    (case c4 => k_is)
    (case k4 => k_is)
    (case a5 => k_is)
    (case l5 => k_is)
    (case c5 => k_is)
    (case k5 => k_is)
    (case a6 => k_is)
    (case l6 => k_is)
    (case c6 => k_is)
    (case k6 => k_is)
    (case a7 => k_is)
    (case l7 => k_is)
    (case c7 => k_is)
    (case k7 => k_is)
    (case z_ValueError => k_is)
    (case z_abs => k_is)
    (case z_int => k_is)
    (case z_isinstance => k_is)
    (case z_len => k_is)
    (case z_max => k_is)
    (case z_min => k_is)
    (case z_range => k_is)
    (case z_repr => k_is)
    (case g_0 => k_is)
    (case h_0 => k_is)
    (case i_0 => k_is)
    (case j_0 => k_is)
    (case m_0 => k_is)
    (case x_0 => k_exc)
    (case g_1 => k_is)
    (case h_1 => k_is)
    (case i_1 => k_is)
    (case j_1 => k_is)
    (case m_1 => k_is)
    (case x_1 => k_exc)
    (case g_2 => k_is)
    (case h_2 => k_is)
    (case i_2 => k_is)
    (case j_2 => k_is)
    (case m_2 => k_is)
    (case x_2 => k_exc)
    (case g_3 => k_is)
    (case h_3 => k_is)
    (case i_3 => k_is)
    (case j_3 => k_is)
    (case m_3 => k_is)
    (case x_3 => k_exc)
    (case g_4 => k_is)
    (case h_4 => k_is)
    (case i_4 => k_is)
    (case j_4 => k_is)
    (case m_4 => k_is)
    (case x_4 => k_exc)
    (case g_5 => k_is)
    (case h_5 => k_is)
    (case i_5 => k_is)
    (case j_5 => k_is)
    (case m_5 => k_is)
    (case x_5 => k_exc)
    (case g_6 => k_is)
    (case h_6 => k_is)
    (case i_6 => k_is)
    (case j_6 => k_is)
    (case m_6 => k_is)
    (case x_6 => k_exc)
    (case g_7 => k_is)
    (case h_7 => k_is)
    (case i_7 => k_is)
    (case j_7 => k_is)
    (case m_7 => k_is)
    (case x_7 => k_exc)
    (case g_8 => k_is)
    (case h_8 => k_is)
    (case i_8 => k_is)
    (case j_8 => k_is)
    (case m_8 => k_is)
    (case x_8 => k_exc)
    (case g_9 => k_is)
    (case h_9 => k_is)
    (case i_9 => k_is)
    (case j_9 => k_is)
    (case m_9 => k_is)
    (case x_9 => k_exc)
    (case g_10 => k_is)
    (case h_10 => k_is)
    (case i_10 => k_is)
    (case j_10 => k_is)
    (case m_10 => k_is)
    (case x_10 => k_exc)
    (case g_11 => k_is)
    (case h_11 => k_is)
    (case i_11 => k_is)
    (case j_11 => k_is)
    (case m_11 => k_is)
    (case x_11 => k_exc)
    (case g_12 => k_is)
    (case h_12 => k_is)
    (case i_12 => k_is)
    (case j_12 => k_is)
    (case m_12 => k_is)
    (case x_12 => k_exc)
    (case g_13 => k_is)
    (case h_13 => k_is)
    (case i_13 => k_is)
    (case j_13 => k_is)
    (case m_13 => k_is)
    (case x_13 => k_exc)
    (case g_14 => k_is)
    (case h_14 => k_is)
    (case i_14 => k_is)
    (case j_14 => k_is)
    (case m_14 => k_is)
    (case x_14 => k_exc)
    (case g_15 => k_is)
    (case h_15 => k_is)
    (case i_15 => k_is)
    (case j_15 => k_is)
    (case m_15 => k_is)
    (case x_15 => k_exc)
    (case g_16 => k_is)
    (case h_16 => k_is)
    (case i_16 => k_is)
    (case j_16 => k_is)
    (case m_16 => k_is)
    (case x_16 => k_exc)
    (case g_17 => k_is)
    (case h_17 => k_is)
    (case i_17 => k_is)
    (case j_17 => k_is)
    (case m_17 => k_is)
    (case x_17 => k_exc)
    (case g_18 => k_is)
    (case h_18 => k_is)
    (case i_18 => k_is)
    (case j_18 => k_is)
    (case m_18 => k_is)
    (case x_18 => k_exc)
    (case g_19 => k_is)
    (case h_19 => k_is)
    (case i_19 => k_is)
    (case j_19 => k_is)
    (case m_19 => k_is)
    (case g_20 => k_is)
    (case h_20 => k_is)
    (case i_20 => k_is)
    (case j_20 => k_is)
    (case m_20 => k_is)
    (case g_21 => k_is)
    (case h_21 => k_is)
    (case i_21 => k_is)
    (case j_21 => k_is)
    (case m_21 => k_is)
    (case x_21 => k_exc)
    (case s_get => k_is)
    (case s_set => k_is)
    (case s_opq => k_is)
    (case s_sup => k_is)
    (case a_L1 => k_is)
    (case a_L2 => k_is)
    (case a_L3 => k_is)
    (case a_L4 => k_is)
    (case a_L5 => k_is)
    (case a_L6 => k_is)
    (case a_L7 => k_is)
    (case a_L8 => k_is)
    (case a_T1 => k_is)
    (case a_T2 => k_is)
    (case a_T3 => k_is)
    (case a_T4 => k_is)
    (case a_T5 => k_is)
    (case a_T6 => k_is)
    (case a_T7 => k_is)
    (case a_T8 => k_is)
    (case b_L1 => rfl)
    (case b_L2 => decide +kernel)
    (case b_L3 => rfl)
    (case b_T1 => rfl)
    (case b_T2 => decide +kernel)
    (case b_T3 => rfl)
    (case b_top => decide +kernel)
    (case b_nd => decide +kernel)
    (case a_F9 => k_is)
