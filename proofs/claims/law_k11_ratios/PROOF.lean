import PyProof.Rows.All
import Wide.All
import OpenK.AllK
import Wide.FinOn
import HandS.ForMost
import HandS.Gcd
import HandS.Wide
import HandS.Evl
import HandS.IsInst
import HandS.TryMany
import HandS.TryOnly
import HandS.WordsExc
import HandS.ExcInit
import HandS.ExcField
import HandS.Defaults
import HandS.HotCalls
import HandS.ExcIs
import PySem.Challenge.RW_everydecider_k11_ratios
set_option Elab.async false
set_option linter.all false
set_option maxRecDepth 100000
set_option maxHeartbeats 2000000
namespace Dm
open PySem L2 Evl

/-- the module: its written part, its names -/
structure Cz where
  K : PySem.W.Frag
  mg : Str → Option Value
/-! ### data without addresses -/
inductive D where
  | non | bl (b : Bool) | int (i : Int) | str (x : Str) | lst (l : List D) | tup (l : List D) | ins (nm : Str) (fs : List (Str × D)) | pool

mutual
/-- v stands for d in the heap G of what doesn't change; p is the pool -/
inductive Rp (K : Cz) (p : Addr) (G : Hp) : V → D → Prop
  | non : Rp K p G .non .non
  | bl (b : Bool) : Rp K p G (.bl b) (.bl b)
  | int (i : Int) : Rp K p G (.int i) (.int i)
  | str (x : Str) : Rp K p G (.str x) (.str x)
  | lst {a : Addr} {xs : List V} {ds : List D} : G a = some (.lst xs) → RpL K p G xs ds → Rp K p G (.ref a) (.lst ds)
  | tup {a : Addr} {xs : List V} {ds : List D} : G a = some (.tup xs) → RpL K p G xs ds → Rp K p G (.ref a) (.tup ds)
  | ins {nm : Str} {a C dx : Addr} {fs : List (Str × V)} {gs : List (Str × D)} : K.mg nm = some (.ref C) → G a = some (.ins C dx fs) → RpF K p G fs gs → Rp K p G (.ref a) (.ins nm gs)
  | pool : Rp K p G (.ref p) .pool
inductive RpL (K : Cz) (p : Addr) (G : Hp) : List V → List D → Prop
  | nil : RpL K p G [] []
  | cons {v : V} {vs : List V} {d : D} {ds : List D} : Rp K p G v d → RpL K p G vs ds → RpL K p G (v :: vs) (d :: ds)
inductive RpF (K : Cz) (p : Addr) (G : Hp) : List (Str × V) → List (Str × D) → Prop
  | nil : RpF K p G [] []
  | cons {f : Str} {v : V} {vs : List (Str × V)} {d : D} {ds : List (Str × D)} : Rp K p G v d → RpF K p G vs ds → RpF K p G ((f, v) :: vs) ((f, d) :: ds)
end

section
variable {K : Cz} {p : Addr} {G G' : Hp}
mutual
theorem Rp.mono (e : Ex G G') : ∀ (d : D) (v : V), Rp K p G v d → Rp K p G' v d
  | .non, _, h => by cases h; exact .non
  | .bl _, _, h => by cases h; exact .bl _
  | .int _, _, h => by cases h; exact .int _
  | .str _, _, h => by cases h; exact .str _
  | .lst ds, _, h => by
    cases h with
    | lst h1 h2 => exact .lst (e _ _ h1) (RpL.mono e ds _ h2)
  | .tup ds, _, h => by
    cases h with
    | tup h1 h2 => exact .tup (e _ _ h1) (RpL.mono e ds _ h2)
  | .ins C fs, _, h => by
    cases h with
    | ins h0 h1 h2 => exact .ins h0 (e _ _ h1) (RpF.mono e fs _ h2)
  | .pool, _, h => by cases h; exact .pool
theorem RpL.mono (e : Ex G G') : ∀ (ds : List D) (vs : List V), RpL K p G vs ds → RpL K p G' vs ds
  | [], _, h => by cases h; exact .nil
  | d :: ds, _, h => by
    cases h with
    | cons h1 h2 => exact .cons (Rp.mono e d _ h1) (RpL.mono e ds _ h2)
theorem RpF.mono (e : Ex G G') : ∀ (ds : List (Str × D)) (vs : List (Str × V)), RpF K p G vs ds → RpF K p G' vs ds
  | [], _, h => by cases h; exact .nil
  | (f, d) :: ds, _, h => by
    cases h with
    | cons h1 h2 => exact .cons (Rp.mono e d _ h1) (RpF.mono e ds _ h2)
end
theorem Rp.up {v : V} {d : D} (r : Rp K p G v d) (e : Ex G G') : Rp K p G' v d := Rp.mono e d v r
theorem RpL.up {v : List V} {d : List D} (r : RpL K p G v d) (e : Ex G G') : RpL K p G' v d := RpL.mono e d v r
theorem RpF.up {v : List (Str × V)} {d : List (Str × D)} (r : RpF K p G v d) (e : Ex G G') : RpF K p G' v d := RpF.mono e d v r
theorem RpL.len : ∀ {ds : List D} {vs : List V}, RpL K p G vs ds → vs.length = ds.length
  | [], _, h => by cases h; rfl
  | d :: ds, _, h => by
    cases h with
    | cons h1 h2 => show _ + 1 = _ + 1; rw [RpL.len h2]
theorem RpL.get : ∀ {ds : List D} {vs : List V} {i : Nat} {d : D}, RpL K p G vs ds → ds[i]? = some d → ∃ v, vs[i]? = some v ∧ Rp K p G v d
  | [], _, _, _, _, e => by simp at e
  | _ :: _, _, 0, _, h, e => by
    cases h with
    | cons h1 h2 => simp at e; subst e; exact ⟨_, rfl, h1⟩
  | _ :: ds, _, i + 1, d, h, e => by
    cases h with
    | cons h1 h2 =>
      obtain ⟨v, a, b⟩ := RpL.get (i := i) (d := d) h2 (by simpa using e)
      exact ⟨v, by simpa using a, b⟩
theorem RpL.getV : ∀ {ds : List D} {vs : List V} {i : Nat} {v : V}, RpL K p G vs ds → vs[i]? = some v → ∃ d, ds[i]? = some d ∧ Rp K p G v d
  | [], _, _, _, h, e => by cases h; simp at e
  | _ :: _, _, 0, _, h, e => by
    cases h with
    | cons h1 h2 => simp at e; subst e; exact ⟨_, rfl, h1⟩
  | _ :: ds, _, i + 1, v, h, e => by
    cases h with
    | cons h1 h2 =>
      obtain ⟨d, a, b⟩ := RpL.getV (i := i) (v := v) h2 (by simpa using e)
      exact ⟨d, by simpa using a, b⟩
theorem RpL.append : ∀ {ds es : List D} {vs us : List V}, RpL K p G vs ds → RpL K p G us es → RpL K p G (vs ++ us) (ds ++ es)
  | [], _, _, _, h, g => by cases h; exact g
  | _ :: _, _, _, _, h, g => by
    cases h with
    | cons h1 h2 => exact .cons h1 (h2.append g)
theorem RpL.set {v : V} {d : D} (r : Rp K p G v d) : ∀ {ds : List D} {vs : List V} (i : Nat), RpL K p G vs ds → RpL K p G (vs.set i v) (ds.set i d)
  | [], _, _, h => by cases h; exact .nil
  | _ :: _, _, 0, h => by
    cases h with
    | cons h1 h2 => exact .cons r h2
  | _ :: _, _, i + 1, h => by
    cases h with
    | cons h1 h2 => exact .cons h1 (RpL.set r i h2)
theorem RpL.drop : ∀ {ds : List D} {vs : List V} (n : Nat), RpL K p G vs ds → RpL K p G (vs.drop n) (ds.drop n)
  | _, _, 0, h => h
  | [], _, _ + 1, h => by cases h; exact .nil
  | _ :: _, _, n + 1, h => by
    cases h with
    | cons h1 h2 => exact RpL.drop n h2
theorem RpL.take : ∀ {ds : List D} {vs : List V} (n : Nat), RpL K p G vs ds → RpL K p G (vs.take n) (ds.take n)
  | _, _, 0, h => .nil
  | [], _, _ + 1, h => by cases h; exact .nil
  | _ :: _, _, n + 1, h => by
    cases h with
    | cons h1 h2 => exact .cons h1 (RpL.take n h2)
theorem RpL.ints : ∀ {ns : List Int} {vs : List V}, RpL K p G vs (ns.map D.int) → vs = ns.map V.int
  | [], _, h => by cases h; rfl
  | n :: ns, _, h => by
    cases h with
    | cons h1 h2 => cases h1; rw [RpL.ints h2]; rfl
theorem RpL.of_ints : ∀ (ns : List Int), RpL K p G (ns.map V.int) (ns.map D.int)
  | [] => .nil
  | n :: ns => .cons (.int n) (RpL.of_ints ns)
theorem RpL.bls : ∀ {ns : List Bool} {vs : List V}, RpL K p G vs (ns.map D.bl) → vs = ns.map V.bl
  | [], _, h => by cases h; rfl
  | n :: ns, _, h => by
    cases h with
    | cons h1 h2 => cases h1; rw [RpL.bls h2]; rfl
end

/-! ### the world: what stands still (G), what is (H); entry G0, H0; the pool at p has been asked at most c times -/
/-- the pool: [at, rest, cells] -/
def Pool (K : Cz) (p : Addr) (c : Nat) (G H : Hp) : Prop :=
  ∃ (t r : Int) (cs : Addr) (ns : List Int), H p = some (.lst [.int t, .int r, .ref cs]) ∧ G cs = some (.lst (ns.map V.int)) ∧ ns.length ≤ 63 ∧ 0 ≤ t ∧ t ≤ c
structure Wd (K : Cz) (p : Addr) (c : Nat) (G H : Hp) : Prop where
  sub : Ex G H
  gp : G p = none
  pl : Pool K p c G H
structure Grow (p : Addr) (G0 H0 G H : Hp) : Prop where
  ex : Ex G0 G
  new : ∀ a o, G a = some o → G0 a = some o ∨ H0 a = none
  keep : ∀ a o, a ≠ p → H0 a = some o → H a = some o
  pc : ∀ xs, H0 p = some (.lst xs) → ∃ ys, H p = some (.lst ys) ∧ ys[2]? = xs[2]?
theorem Grow.refl {p : Addr} {G H : Hp} : Grow p G H G H := ⟨Ex.refl _, fun _ _ h => .inl h, fun _ _ _ h => h, fun xs h => ⟨xs, h, rfl⟩⟩
theorem Grow.trans {p : Addr} {G0 H0 G1 H1 G2 H2 : Hp} (gp : G2 p = none) (a : Grow p G0 H0 G1 H1) (b : Grow p G1 H1 G2 H2) : Grow p G0 H0 G2 H2 := by
  refine ⟨a.ex.trans b.ex, fun x o h => ?_, fun x o hx h => b.keep x o hx (a.keep x o hx h), fun xs h => ?_⟩
  · rcases b.new x o h with h1 | h1
    · exact a.new x o h1
    · right
      cases q : H0 x with
      | none => rfl
      | some u =>
        have hx : x ≠ p := fun z => by rw [z, gp] at h; cases h
        have e := a.keep x u hx q
        rw [e] at h1
        cases h1
  · obtain ⟨ys, h1, e1⟩ := a.pc xs h
    obtain ⟨zs, h2, e2⟩ := b.pc ys h1
    exact ⟨zs, h2, e2.trans e1⟩

/-! ### errors -/
structure Err where
  nm : Str
  arg : Option (Str × D)
def ErrR (K : Cz) (p : Addr) (G : Hp) (cls : Value) (d : Option Addr) (e : Err) : Prop :=
  ∃ C, K.mg e.nm = some (.ref C) ∧ cls = .ref C ∧ ∀ f x, e.arg = some (f, x) → ∃ dd v, d = some dd ∧ G dd = some (.xd [(f, v)]) ∧ Rp K p G v x
theorem ErrR.up {K : Cz} {p : Addr} {G G' : Hp} {cls : Value} {d : Option Addr} {e : Err} (h : ErrR K p G cls d e) (x : Ex G G') : ErrR K p G' cls d e := by
  obtain ⟨C, h1, h2, h3⟩ := h
  refine ⟨C, h1, h2, fun f y z => ?_⟩
  obtain ⟨dd, v, q1, q2, q3⟩ := h3 f y z
  exact ⟨dd, v, q1, x _ _ q2, q3.up x⟩
/-! ### the slots -/
inductive S where
  | no
  | sh (d : D)
  | own (l : List D)
  /-- new data in a region of its own -/
  | frs (F : Hp) (d : D)
  /-- an instance that is being made -/
  | obj (nm : Str) (fs : List (Str × D))
  /-- an exception that is handled, at a -/
  | exc (a : Addr) (cls : Value) (d : Option Addr) (e : Err)
abbrev Ro := List S
def mrg (G F : Hp) : Hp := fun a => match F a with | some o => some o | none => G a
theorem mg_ex {G F : Hp} (h : ∀ a o, F a = some o → G a = none) : Ex G (mrg G F) := fun a o e => by
  unfold mrg
  cases q : F a with
  | none => exact e
  | some u => rw [h a u q] at e; cases e
theorem mg_mono {G G' F : Hp} (e : Ex G G') : Ex (mrg G F) (mrg G' F) := fun a o h => by
  unfold mrg at h ⊢
  cases q : F a with
  | none => rw [q] at h; exact e a o h
  | some u => rw [q] at h; exact h
/-- what a slot has of its own -/
def S.reg : Option V → S → Addr → Prop
  | some (.ref a), .own _, b => b = a
  | some (.ref a), .obj _ _, b => b = a
  | _, .frs F _, b => F b ≠ none
  | _, _, _ => False
/-- of d the lists and tuples at the top stand in F -/
inductive RpN (K : Cz) (p : Addr) (G F : Hp) : V → D → Prop
  | lst {a : Addr} {xs : List V} {ds : List D} : F a = some (.lst xs) → RpL K p (mrg G F) xs ds → RpN K p G F (.ref a) (.lst ds)
  | tup {a : Addr} {xs : List V} {ds : List D} : F a = some (.tup xs) → xs.length = ds.length → (∀ (i : Nat) (v : V) (d : D), xs[i]? = some v → ds[i]? = some d → RpN K p G F v d) → RpN K p G F (.ref a) (.tup ds)
  | non : RpN K p G F .non .non
  | bl (b : Bool) : RpN K p G F (.bl b) (.bl b)
  | int (i : Int) : RpN K p G F (.int i) (.int i)
  | str (x : Str) : RpN K p G F (.str x) (.str x)
section
variable {K : Cz} {p : Addr} {G G' F : Hp}
theorem mg_at {a : Addr} {o : HO} (h : F a = some o) : mrg G F a = some o := by unfold mrg; rw [h]
theorem RpL.of_get : ∀ {ds : List D} {vs : List V}, vs.length = ds.length → (∀ (i : Nat) (v : V) (d : D), vs[i]? = some v → ds[i]? = some d → Rp K p G v d) → RpL K p G vs ds
  | [], [], _, _ => .nil
  | [], _ :: _, e, _ => by simp at e
  | _ :: _, [], e, _ => by simp at e
  | d :: ds, v :: vs, e, h => .cons (h 0 v d rfl rfl) (RpL.of_get (by simpa using e) fun i v' d' a b => h (i + 1) v' d' (by simpa using a) (by simpa using b))
theorem RpN.rp {v : V} {d : D} (h : RpN K p G F v d) : Rp K p (mrg G F) v d := by
  induction h with
  | lst h1 h2 => exact .lst (mg_at h1) h2
  | tup h1 h2 _ ih => exact .tup (mg_at h1) (RpL.of_get h2 ih)
  | non => exact .non
  | bl b => exact .bl b
  | int b => exact .int b
  | str b => exact .str b
theorem RpN.up {v : V} {d : D} (h : RpN K p G F v d) (e : Ex G G') : RpN K p G' F v d := by
  induction h with
  | lst h1 h2 => exact .lst h1 (h2.up (mg_mono e))
  | tup h1 h2 _ ih => exact .tup h1 h2 ih
  | non => exact .non
  | bl b => exact .bl b
  | int b => exact .int b
  | str b => exact .str b
end
inductive SlotR (K : Cz) (p : Addr) (H0 G H : Hp) : Option V → S → Prop
  | no {o : Option V} : SlotR K p H0 G H o .no
  | sh {v : V} {d : D} : Rp K p G v d → SlotR K p H0 G H (some v) (.sh d)
  | own {a : Addr} {xs : List V} {l : List D} : a ≠ p → H0 a = none → G a = none → H a = some (.lst xs) → RpL K p G xs l → SlotR K p H0 G H (some (.ref a)) (.own l)
  | frs {v : V} {F : Hp} {d : D} : (∀ a o, F a = some o → G a = none ∧ H0 a = none ∧ a ≠ p ∧ H a = some o) → RpN K p G F v d → SlotR K p H0 G H (some v) (.frs F d)
  | obj {nm : Str} {a C dx : Addr} {fs : List (Str × V)} {gs : List (Str × D)} : K.mg nm = some (.ref C) → a ≠ p → H0 a = none → G a = none → H a = some (.ins C dx fs) → RpF K p G fs gs → SlotR K p H0 G H (some (.ref a)) (.obj nm gs)
  | exc {a : Addr} {cls : Value} {d : Option Addr} {e : Err} : ErrR K p G cls d e → SlotR K p H0 G H (some (.ref a)) (.exc a cls d e)
structure EnvR (K : Cz) (p : Addr) (H0 G H : Hp) (σ : St) (ρ : Ro) : Prop where
  len : σ.length = ρ.length
  sl : ∀ (i : Nat) (o : Option V) (s : S), σ[i]? = some o → ρ[i]? = some s → SlotR K p H0 G H o s
  dis : ∀ (i j : Nat) (o o' : Option V) (s s' : S), i ≠ j → σ[i]? = some o → ρ[i]? = some s → σ[j]? = some o' → ρ[j]? = some s' → ∀ b, s.reg o b → ¬ s'.reg o' b
/-- all of it -/
structure WS (K : Cz) (p : Addr) (G0 H0 : Hp) (c : Nat) (G H : Hp) (σ : St) (ρ : Ro) : Prop where
  gr : Grow p G0 H0 G H
  wd : Wd K p c G H
  en : EnvR K p H0 G H σ ρ

section
variable {K : Cz} {p : Addr} {G0 H0 G H G' H' : Hp} {c c' : Nat} {σ : St} {ρ : Ro}
theorem Grow.stay (g : Grow p G H G' H') {a : Addr} {o : HO} (hg : G a = none) (hh : H a = some o) (np : a ≠ p) : G' a = none ∧ H' a = some o := by
  refine ⟨?_, g.keep _ _ np hh⟩
  cases q : G' a with
  | none => rfl
  | some u =>
    rcases g.new _ _ q with z | z
    · rw [hg] at z; cases z
    · rw [hh] at z; cases z
theorem SlotR.grow {o : Option V} {s : S} (g : Grow p G H G' H') (h : SlotR K p H0 G H o s) : SlotR K p H0 G' H' o s := by
  cases h with
  | no => exact .no
  | sh r => exact .sh (r.up g.ex)
  | own n h0 hg hh r =>
    obtain ⟨a1, a2⟩ := g.stay hg hh n
    exact .own n h0 a1 a2 (r.up g.ex)
  | frs hf r =>
    refine .frs (fun a o q => ?_) (r.up g.ex)
    obtain ⟨q1, q2, q3, q4⟩ := hf a o q
    obtain ⟨a1, a2⟩ := g.stay q1 q4 q3
    exact ⟨a1, q2, q3, a2⟩
  | exc h => exact .exc (h.up g.ex)
  | obj hc n h0 hg hh r =>
    obtain ⟨a1, a2⟩ := g.stay hg hh n
    exact .obj hc n h0 a1 a2 (r.up g.ex)
theorem EnvR.grow (g : Grow p G H G' H') (h : EnvR K p H0 G H σ ρ) : EnvR K p H0 G' H' σ ρ :=
  ⟨h.len, fun i o s a b => (h.sl i o s a b).grow g, h.dis⟩
/-- behind something that grew -/
theorem WS.grow (h : WS K p G0 H0 c G H σ ρ) (g : Grow p G H G' H') (w : Wd K p c' G' H') : WS K p G0 H0 c' G' H' σ ρ :=
  ⟨h.gr.trans w.gp g, w, h.en.grow g⟩
theorem Grow.laid {a : Addr} {o : HO} (hn : H a = none) (s : Ex G H) : Grow p G H (upd G a o) (upd H a o) :=
  ⟨Ex.new (by cases q : G a with
    | none => rfl
    | some u => rw [s a u q] at hn; cases hn), fun b u h => by
      by_cases e : b = a
      · subst e; exact .inr hn
      · rw [upd_ne e] at h; exact .inl h, fun b u _ h => by rw [upd_ne (ne_of_none h hn)]; exact h, fun xs h => ⟨xs, by rw [upd_ne (ne_of_none h hn)]; exact h, rfl⟩⟩
theorem Pool.of (g : Ex G G') (k : ∀ o, H p = some o → H' p = some o) (h : Pool K p c G H) : Pool K p c G' H' := by
  obtain ⟨t, r, cs, ns, h1, h2, h3⟩ := h
  exact ⟨t, r, cs, ns, k _ h1, g _ _ h2, h3⟩
theorem Wd.np (h : Wd K p c G H) : ∃ o, H p = some o := let ⟨_, _, _, _, h1, _⟩ := h.pl; ⟨_, h1⟩
theorem Wd.laid {a : Addr} {o : HO} (hn : H a = none) (h : Wd K p c G H) : Wd K p c (upd G a o) (upd H a o) := by
  obtain ⟨u, hu⟩ := h.np
  have hp : p ≠ a := ne_of_none hu hn
  refine ⟨fun b w q => ?_, by rw [upd_ne hp]; exact h.gp, h.pl.of (Grow.laid (p := p) hn h.sub).ex fun o q => by rw [upd_ne hp]; exact q⟩
  by_cases e : b = a
  · subst e; rw [upd_same] at q ⊢; exact q
  · rw [upd_ne e] at q ⊢; exact h.sub b w q
/-- a new object is laid, frozen at once -/
theorem WS.laid {a : Addr} {o : HO} (hn : H a = none) (h : WS K p G0 H0 c G H σ ρ) : WS K p G0 H0 c (upd G a o) (upd H a o) σ ρ :=
  h.grow (Grow.laid hn h.wd.sub) (h.wd.laid hn)
/-- a new list is laid, not frozen -/
theorem Grow.laidO {a : Addr} {o : HO} (hn : H a = none) : Grow p G H G (upd H a o) :=
  ⟨Ex.refl _, fun _ _ h => .inl h, fun b u _ h => by rw [upd_ne (ne_of_none h hn)]; exact h, fun xs h => ⟨xs, by rw [upd_ne (ne_of_none h hn)]; exact h, rfl⟩⟩
theorem Wd.laidO {a : Addr} {o : HO} (hn : H a = none) (h : Wd K p c G H) : Wd K p c G (upd H a o) := by
  obtain ⟨u, hu⟩ := h.np
  exact ⟨h.sub.trans (Ex.new hn), h.gp, h.pl.of (Ex.refl _) fun o q => by rw [upd_ne (ne_of_none hu hn)]; exact q⟩
theorem WS.laidO {a : Addr} {o : HO} (hn : H a = none) (h : WS K p G0 H0 c G H σ ρ) : WS K p G0 H0 c G (upd H a o) σ ρ :=
  h.grow (Grow.laidO hn) (h.wd.laidO hn)
theorem EnvR.get {i : Nat} {s : S} (h : EnvR K p H0 G H σ ρ) (e : ρ[i]? = some s) : ∃ o, σ[i]? = some o ∧ SlotR K p H0 G H o s := by
  have hl : i < σ.length := by rw [h.len]; exact (List.getElem?_eq_some_iff.mp e).1
  exact ⟨σ[i], List.getElem?_eq_getElem hl, h.sl i _ _ (List.getElem?_eq_getElem hl) e⟩
theorem EnvR.sh {i : Nat} {d : D} (h : EnvR K p H0 G H σ ρ) (e : ρ[i]? = some (.sh d)) : ∃ v, σ[i]? = some (some v) ∧ Rp K p G v d := by
  obtain ⟨o, h1, h2⟩ := h.get e
  cases h2 with
  | sh r => exact ⟨_, h1, r⟩
theorem EnvR.own {i : Nat} {l : List D} (h : EnvR K p H0 G H σ ρ) (e : ρ[i]? = some (.own l)) : ∃ a xs, σ[i]? = some (some (.ref a)) ∧ a ≠ p ∧ H0 a = none ∧ G a = none ∧ H a = some (.lst xs) ∧ RpL K p G xs l := by
  obtain ⟨o, h1, h2⟩ := h.get e
  cases h2 with
  | own n h0 hg hh r => exact ⟨_, _, h1, n, h0, hg, hh, r⟩
/-- a slot is stored: what is new there has nothing of the other slots' own -/
theorem EnvR.put {i : Nat} {v : Option V} {s : S} (h : EnvR K p H0 G H σ ρ) (r : SlotR K p H0 G H v s) (dj : ∀ (j : Nat) (o : Option V) (s' : S), j ≠ i → σ[j]? = some o → ρ[j]? = some s' → ∀ b, s.reg v b → ¬ s'.reg o b) :
    EnvR K p H0 G H (σ.set i v) (ρ.set i s) := by
  have at_i : ∀ (o : Option V) (s' : S), (σ.set i v)[i]? = some o → (ρ.set i s)[i]? = some s' → o = v ∧ s' = s := fun o s' a b => by
    have h1 : i < σ.length := by have := (List.getElem?_eq_some_iff.mp a).1; simpa using this
    have h2 : i < ρ.length := by have := (List.getElem?_eq_some_iff.mp b).1; simpa using this
    rw [List.getElem?_set_self h1] at a
    rw [List.getElem?_set_self h2] at b
    cases a; cases b; exact ⟨rfl, rfl⟩
  refine ⟨by simp [h.len], fun j o s' a b => ?_, fun j k o o' s1 s2 n e1 e2 e3 e4 b z => ?_⟩
  · by_cases e : i = j
    · subst e
      obtain ⟨rfl, rfl⟩ := at_i o s' a b
      exact r
    · rw [List.getElem?_set_ne e] at a b
      exact h.sl j o s' a b
  · by_cases n1 : i = j
    · subst n1
      obtain ⟨rfl, rfl⟩ := at_i o s1 e1 e2
      rw [List.getElem?_set_ne n] at e3 e4
      exact dj k o' s2 (Ne.symm n) e3 e4 b z
    · rw [List.getElem?_set_ne n1] at e1 e2
      by_cases n2 : i = k
      · subst n2
        obtain ⟨rfl, rfl⟩ := at_i o' s2 e3 e4
        exact fun y => dj j o s1 (Ne.symm n1) e1 e2 b y z
      · rw [List.getElem?_set_ne n2] at e3 e4
        exact h.dis j k o o' s1 s2 n e1 e2 e3 e4 b z
theorem reg_sh {v : Option V} {d : D} {b : Addr} : ¬ (S.sh d).reg v b := by
  intro h
  unfold S.reg at h
  split at h <;> simp_all
theorem reg_no {v : Option V} {b : Addr} : ¬ S.no.reg v b := by
  intro h
  unfold S.reg at h
  split at h <;> simp_all
theorem reg_exc {v : Option V} {a b : Addr} {cls : Value} {d : Option Addr} {e : Err} : ¬ (S.exc a cls d e).reg v b := by
  intro h
  unfold S.reg at h
  split at h <;> simp_all
theorem EnvR.setSh {i : Nat} {v : V} {d : D} (h : EnvR K p H0 G H σ ρ) (r : Rp K p G v d) : EnvR K p H0 G H (σ.set i (some v)) (ρ.set i (.sh d)) := h.put (.sh r) fun _ _ _ _ _ _ _ z => absurd z reg_sh
theorem EnvR.setNo {i : Nat} {v : Option V} (h : EnvR K p H0 G H σ ρ) : EnvR K p H0 G H (σ.set i v) (ρ.set i .no) := h.put .no fun _ _ _ _ _ _ _ z => absurd z reg_no
/-- what a slot has of its own stands in the heap -/
theorem SlotR.reg_in {o : Option V} {s : S} {b : Addr} (h : SlotR K p H0 G H o s) (z : s.reg o b) : ∃ u, H b = some u := by
  cases h with
  | no => exact absurd z reg_no
  | sh => exact absurd z reg_sh
  | exc => exact absurd z reg_exc
  | own _ _ _ hh _ => cases (show b = _ from z); exact ⟨_, hh⟩
  | obj _ _ _ _ hh _ => cases (show b = _ from z); exact ⟨_, hh⟩
  | @frs v F d hf r =>
    have z' : F b ≠ none := by cases v <;> exact z
    cases q : F b with
    | none => exact absurd q z'
    | some u => exact ⟨u, (hf b u q).2.2.2⟩
/-- a new list, not frozen, is stored in a slot -/
theorem EnvR.setOwn {i : Nat} {a : Addr} {xs : List V} {l : List D} (h : EnvR K p H0 G H σ ρ) (np : a ≠ p) (n0 : H0 a = none) (ng : G a = none) (hh : H a = some (.lst xs)) (r : RpL K p G xs l)
    (fresh : ∀ (j : Nat) (o : Option V) (s' : S), j ≠ i → σ[j]? = some o → ρ[j]? = some s' → ¬ s'.reg o a) : EnvR K p H0 G H (σ.set i (some (.ref a))) (ρ.set i (.own l)) :=
  h.put (.own np n0 ng hh r) fun j o s' n e1 e2 b z => by
    cases (show b = a from z)
    exact fresh j o s' n e1 e2
theorem WS.setSh {i : Nat} {v : V} {d : D} (h : WS K p G0 H0 c G H σ ρ) (r : Rp K p G v d) : WS K p G0 H0 c G H (σ.set i (some v)) (ρ.set i (.sh d)) := ⟨h.gr, h.wd, h.en.setSh r⟩
theorem WS.setNo {i : Nat} {v : Option V} (h : WS K p G0 H0 c G H σ ρ) : WS K p G0 H0 c G H (σ.set i v) (ρ.set i .no) := ⟨h.gr, h.wd, h.en.setNo⟩
/-- fresh now is fresh at the entry -/
theorem WS.fresh0 {a : Addr} (h : WS K p G0 H0 c G H σ ρ) (hn : H a = none) : a ≠ p ∧ H0 a = none ∧ G a = none := by
  obtain ⟨u, hu⟩ := h.wd.np
  have np : a ≠ p := (ne_of_none hu hn).symm
  refine ⟨np, ?_, ?_⟩
  · cases q : H0 a with
    | none => rfl
    | some o => rw [h.gr.keep a o np q] at hn; cases hn
  · cases q : G a with
    | none => rfl
    | some o => rw [h.wd.sub a o q] at hn; cases hn
end
end Dm

namespace Dm
open PySem L2 Evl

abbrev XP := Err → Ro → Nat → Prop
/-- what is wished of an exception: on data (xe), on heaps (W) -/
def Xc (K : Cz) (p : Addr) (G0 H0 : Hp) (xe : XP) (W : WX) : Prop :=
  ∀ (e : Err) (ρ : Ro) (c : Nat) (σ : St) (G H : Hp) (cls : Value) (d : Option Addr), WS K p G0 H0 c G H σ ρ → ErrR K p G cls d e → xe e ρ c → W cls d σ H
abbrev DE := XP → Ro → Nat → (D → Nat → Prop) → Prop
abbrev DT := XP → Ro → Nat → (Bool → Nat → Prop) → Prop
abbrev DL := XP → Ro → Nat → (List D → Nat → Prop) → Prop
structure DEnds where
  nx : Ro → Nat → Prop
  rt : D → Nat → Prop
  /-- an answer that is new -/
  rtN : D → Nat → Prop := fun _ _ => False
  bk : Ro → Nat → Prop := fun _ _ => False
  ct : Ro → Nat → Prop := fun _ _ => False
abbrev DS := XP → DEnds → Ro → Nat → Prop
abbrev DG := D → Ro → (Ro → Prop) → Prop

section
variable (K : Cz) (W : WX)
def SimE (te : TE) (me : DE) : Prop := ∀ (p : Addr) (G0 H0 : Hp) (c : Nat) (G H : Hp) (σ : St) (ρ : Ro) (xe : XP) (Q : VK) (post : D → Nat → Prop), WS K p G0 H0 c G H σ ρ → Xc K p G0 H0 xe W → me xe ρ c post →
  (∀ d c' v G' H', post d c' → Grow p G H G' H' → Wd K p c' G' H' → Rp K p G' v d → Q v H') → te σ H Q
def SimO (te : TE) (me : DL) : Prop := ∀ (p : Addr) (G0 H0 : Hp) (c : Nat) (G H : Hp) (σ : St) (ρ : Ro) (xe : XP) (Q : VK) (post : List D → Nat → Prop), WS K p G0 H0 c G H σ ρ → Xc K p G0 H0 xe W → me xe ρ c post →
  (∀ l c' a xs G' H', post l c' → Grow p G H G' H' → Wd K p c' G' H' → H a = none → G' a = none → H' a = some (.lst xs) → RpL K p G' xs l → Q (.ref a) H') → te σ H Q
def SimT (te : TT) (me : DT) : Prop := ∀ (p : Addr) (G0 H0 : Hp) (c : Nat) (G H : Hp) (σ : St) (ρ : Ro) (xe : XP) (Q : Bool → Hp → Prop) (post : Bool → Nat → Prop), WS K p G0 H0 c G H σ ρ → Xc K p G0 H0 xe W → me xe ρ c post →
  (∀ b c' G' H', post b c' → Grow p G H G' H' → Wd K p c' G' H' → Q b H') → te σ H Q
def SimA (te : TA) (me : DL) : Prop := ∀ (p : Addr) (G0 H0 : Hp) (c : Nat) (G H : Hp) (σ : St) (ρ : Ro) (xe : XP) (Q : List V → Hp → Prop) (post : List D → Nat → Prop), WS K p G0 H0 c G H σ ρ → Xc K p G0 H0 xe W → me xe ρ c post →
  (∀ ds c' vs G' H', post ds c' → Grow p G H G' H' → Wd K p c' G' H' → RpL K p G' vs ds → Q vs H') → te σ H Q
structure EndsR (p : Addr) (G0 H0 : Hp) (N : Ends) (E : DEnds) : Prop where
  nx : ∀ (σ : St) (ρ : Ro) (c : Nat) (G H : Hp), WS K p G0 H0 c G H σ ρ → E.nx ρ c → N.nx σ H
  bk : ∀ (σ : St) (ρ : Ro) (c : Nat) (G H : Hp), WS K p G0 H0 c G H σ ρ → E.bk ρ c → N.bk σ H
  ct : ∀ (σ : St) (ρ : Ro) (c : Nat) (G H : Hp), WS K p G0 H0 c G H σ ρ → E.ct ρ c → N.ct σ H
  rt : ∀ (v : V) (d : D) (c : Nat) (G H : Hp), Grow p G0 H0 G H → Wd K p c G H → Rp K p G v d → E.rt d c → N.rt v H
  rtN : ∀ (v : V) (d : D) (c : Nat) (F G H : Hp), Grow p G0 H0 G H → Wd K p c G H → (∀ a o, F a = some o → G a = none ∧ H0 a = none ∧ a ≠ p ∧ H a = some o) → RpN K p G F v d → E.rtN d c → N.rt v H
def SimS (t : TS) (m : DS) : Prop := ∀ (p : Addr) (G0 H0 : Hp) (c : Nat) (G H : Hp) (σ : St) (ρ : Ro) (xe : XP) (N : Ends) (E : DEnds), WS K p G0 H0 c G H σ ρ → Xc K p G0 H0 xe W → EndsR K p G0 H0 N E → m xe E ρ c → t N σ H
/-- operations by values -/
abbrev DR1 := D → (D → Prop) → Prop
abbrev DR2 := D → D → (D → Prop) → Prop
abbrev DRL := List D → (D → Prop) → Prop
def SimR1 (r : V → Hp → VK → Prop) (f : DR1) : Prop := ∀ (p : Addr) (c : Nat) (G H : Hp) (x : V) (d : D) (Q : VK) (post : D → Prop), Wd K p c G H → Rp K p G x d → f d post →
  (∀ z v G' H', post z → Grow p G H G' H' → Wd K p c G' H' → Rp K p G' v z → Q v H') → r x H Q
def SimR2 (r : R2) (f : DR2) : Prop := ∀ (p : Addr) (c : Nat) (G H : Hp) (x y : V) (d e : D) (Q : VK) (post : D → Prop), Wd K p c G H → Rp K p G x d → Rp K p G y e → f d e post →
  (∀ z v G' H', post z → Grow p G H G' H' → Wd K p c G' H' → Rp K p G' v z → Q v H') → r x y H Q
def SimRL (r : List V → Hp → VK → Prop) (f : DRL) : Prop := ∀ (p : Addr) (c : Nat) (G H : Hp) (xs : List V) (ds : List D) (Q : VK) (post : D → Prop), Wd K p c G H → RpL K p G xs ds → f ds post →
  (∀ z v G' H', post z → Grow p G H G' H' → Wd K p c G' H' → Rp K p G' v z → Q v H') → r xs H Q
/-- targets -/
def SimG (g : TG) (mg : DG) : Prop := ∀ (p : Addr) (G0 H0 : Hp) (c : Nat) (G H : Hp) (σ : St) (ρ : Ro) (v : V) (d : D) (Q : St → Hp → Prop) (post : Ro → Prop), WS K p G0 H0 c G H σ ρ → Rp K p G v d → mg d ρ post →
  (∀ σ' ρ', post ρ' → WS K p G0 H0 c G H σ' ρ' → Q σ' H) → g v σ H Q
end

section
variable {K : Cz} {W : WX}
variable {p : Addr} {G0 H0 G H G' H' : Hp} {c c' : Nat} {σ : St} {ρ : Ro}

theorem Grow.tr {G1 H1 G2 H2 : Hp} (a : Grow p G H G1 H1) (b : Grow p G1 H1 G2 H2) (w : Wd K p c G2 H2) : Grow p G H G2 H2 := a.trans w.gp b

/-! ### expressions -/
def mVar (i : Nat) : DE := fun _ ρ c Q => match ρ[i]? with | some (.sh d) => Q d c | _ => False
theorem sim_var {i : Nat} : SimE K W (tVar i) (mVar i) := by
  intro p G0 H0 c G H σ ρ xe Q post ws xc m k
  unfold mVar at m
  split at m
  · rename_i d e
    obtain ⟨v, h1, r⟩ := ws.en.sh e
    exact ⟨v, h1, k d c v G H m .refl ws.wd r⟩
  · exact m.elim
def mC (d : D) : DE := fun _ _ c Q => Q d c
theorem sim_int {i : Int} : SimE K W (tC (.int i)) (mC (.int i)) := fun p G0 H0 c G H σ ρ xe Q post ws xc m k => k _ c _ G H m .refl ws.wd (.int i)
theorem sim_bl {i : Bool} : SimE K W (tC (.bl i)) (mC (.bl i)) := fun p G0 H0 c G H σ ρ xe Q post ws xc m k => k _ c _ G H m .refl ws.wd (.bl i)
theorem sim_non : SimE K W (tC .non) (mC .non) := fun p G0 H0 c G H σ ρ xe Q post ws xc m k => k _ c _ G H m .refl ws.wd .non
theorem sim_str {i : Str} : SimE K W (tC (.str i)) (mC (.str i)) := fun p G0 H0 c G H σ ρ xe Q post ws xc m k => k _ c _ G H m .refl ws.wd (.str i)
def mOp (f : DR2) (ma mb : DE) : DE := fun xe ρ c Q => ma xe ρ c fun x c1 => mb xe ρ c1 fun y c2 => f x y fun z => Q z c2
theorem sim_op {r : R2} {f : DR2} {ta tb : TE} {ma mb : DE} (hr : SimR2 K r f) (ha : SimE K W ta ma) (hb : SimE K W tb mb) : SimE K W (tOp r ta tb) (mOp f ma mb) := by
  intro p G0 H0 c G H σ ρ xe Q post ws xc m k
  refine ha p G0 H0 c G H σ ρ xe _ _ ws xc m fun d c1 v G1 H1 m1 g1 w1 r1 => ?_
  refine hb p G0 H0 c1 G1 H1 σ ρ xe _ _ (ws.grow g1 w1) xc m1 fun e c2 u G2 H2 m2 g2 w2 r2 => ?_
  refine hr p c2 G2 H2 v u d e _ _ w2 (r1.up g2.ex) r2 m2 fun z y G3 H3 m3 g3 w3 r3 => ?_
  exact k z c2 y G3 H3 m3 ((g1.tr g2 w2).tr g3 w3) w3 r3
def mUn (f : DR1) (ma : DE) : DE := fun xe ρ c Q => ma xe ρ c fun x c1 => f x fun z => Q z c1
theorem sim_un {r : V → Hp → VK → Prop} {f : DR1} {ta : TE} {ma : DE} (hr : SimR1 K r f) (ha : SimE K W ta ma) : SimE K W (tUn r ta) (mUn f ma) := by
  intro p G0 H0 c G H σ ρ xe Q post ws xc m k
  refine ha p G0 H0 c G H σ ρ xe _ _ ws xc m fun d c1 v G1 H1 m1 g1 w1 r1 => ?_
  refine hr p c1 G1 H1 v d _ _ w1 r1 m1 fun z y G3 H3 m3 g3 w3 r3 => ?_
  exact k z c1 y G3 H3 m3 (g1.tr g3 w3) w3 r3
/-! arguments -/
def mNil : DL := fun _ _ c Q => Q [] c
def mCons (ma : DE) (mr : DL) : DL := fun xe ρ c Q => ma xe ρ c fun x c1 => mr xe ρ c1 fun xs c2 => Q (x :: xs) c2
theorem sim_nil : SimA K W tNil mNil := fun p G0 H0 c G H σ ρ xe Q post ws xc m k => k [] c [] G H m .refl ws.wd .nil
theorem sim_cons {ta : TE} {ma : DE} {tr : TA} {mr : DL} (ha : SimE K W ta ma) (hr : SimA K W tr mr) : SimA K W (tCons ta tr) (mCons ma mr) := by
  intro p G0 H0 c G H σ ρ xe Q post ws xc m k
  refine ha p G0 H0 c G H σ ρ xe _ _ ws xc m fun d c1 v G1 H1 m1 g1 w1 r1 => ?_
  refine hr p G0 H0 c1 G1 H1 σ ρ xe _ _ (ws.grow g1 w1) xc m1 fun es c2 us G2 H2 m2 g2 w2 r2 => ?_
  exact k (d :: es) c2 (v :: us) G2 H2 m2 (g1.tr g2 w2) w2 (.cons (r1.up g2.ex) r2)
theorem Grow.sz : (1000000 : Nat) ≤ sizeLine := by decide
def mTup (ma : DL) : DE := fun xe ρ c Q => ma xe ρ c fun ds c1 => ds.length ≤ 1000000 ∧ Q (.tup ds) c1
theorem sim_tup {ta : TA} {ma : DL} (ha : SimA K W ta ma) : SimE K W (tTup ta) (mTup ma) := by
  intro p G0 H0 c G H σ ρ xe Q post ws xc m k
  refine ha p G0 H0 c G H σ ρ xe _ _ ws xc m fun ds c1 vs G1 H1 m1 g1 w1 r1 => ?_
  refine ⟨by rw [r1.len]; exact Nat.le_trans m1.1 Grow.sz, fun a ha => ?_⟩
  have g2 : Grow p G1 H1 (upd G1 a (.tup vs)) (upd H1 a (.tup vs)) := Grow.laid ha w1.sub
  have w2 := w1.laid (o := .tup vs) ha
  exact k _ c1 _ _ _ m1.2 (g1.tr g2 w2) w2 (.tup upd_same (r1.up g2.ex))
def mLst (ma : DL) : DL := fun xe ρ c Q => ma xe ρ c fun ds c1 => ds.length ≤ 1000000 ∧ Q ds c1
theorem sim_lstO {ta : TA} {ma : DL} (ha : SimA K W ta ma) : SimO K W (tLst ta) (mLst ma) := by
  intro p G0 H0 c G H σ ρ xe Q post ws xc m k
  refine ha p G0 H0 c G H σ ρ xe _ _ ws xc m fun ds c1 vs G1 H1 m1 g1 w1 r1 => ?_
  refine ⟨by rw [r1.len]; exact Nat.le_trans m1.1 Grow.sz, fun a ha => ?_⟩
  have g2 : Grow p G1 H1 G1 (upd H1 a (.lst vs)) := Grow.laidO ha
  have w2 := w1.laidO (o := .lst vs) ha
  have hG : G1 a = none := ((ws.grow g1 w1).fresh0 ha).2.2
  refine k ds c1 a vs _ _ m1.2 (g1.tr g2 w2) w2 ?_ hG upd_same r1
  cases q : H a with
  | none => rfl
  | some o =>
    have np : a ≠ p := ((ws.grow g1 w1).fresh0 ha).1
    rw [g1.keep a o np q] at ha; cases ha
/-- a new list, frozen -/
def mFrz (mo : DL) : DE := fun xe ρ c Q => mo xe ρ c fun l c1 => Q (.lst l) c1
theorem Wd.frz {a : Addr} {xs : List V} (w : Wd K p c G H) (hn : G a = none) (hh : H a = some (.lst xs)) (np : a ≠ p) : Wd K p c (upd G a (.lst xs)) H :=
  ⟨fun b o q => by
    by_cases e : b = a
    · subst e; rw [upd_same] at q; cases q; exact hh
    · rw [upd_ne e] at q; exact w.sub b o q, by rw [upd_ne np.symm]; exact w.gp, w.pl.of (Ex.new hn) fun _ h => h⟩
theorem sim_frz {te : TE} {mo : DL} (h : SimO K W te mo) : SimE K W te (mFrz mo) := by
  intro p G0 H0 c G H σ ρ xe Q post ws xc m k
  refine h p G0 H0 c G H σ ρ xe _ _ ws xc m fun l c1 a xs G1 H1 m1 g1 w1 ha hg hh r => ?_
  have np : a ≠ p := (ws.fresh0 ha).1
  have w2 := w1.frz hg hh np
  refine k _ c1 _ (upd G1 a (.lst xs)) H1 m1 ⟨g1.ex.trans (Ex.new hg), fun b o q => ?_, g1.keep, g1.pc⟩ w2 (.lst upd_same (r.up (Ex.new hg)))
  by_cases e : b = a
  · subst e; exact .inr ha
  · rw [upd_ne e] at q; exact g1.new b o q
/-! tests -/
def mTest (me : DE) : DT := fun xe ρ c Q => me xe ρ c fun d c' => match d with | .bl b => Q b c' | _ => False
theorem sim_test {te : TE} {me : DE} (h : SimE K W te me) : SimT K W (tTest te) (mTest me) := by
  intro p G0 H0 c G H σ ρ xe Q post ws xc m k
  refine h p G0 H0 c G H σ ρ xe _ _ ws xc m fun d c1 v G1 H1 m1 g1 w1 r1 => ?_
  cases r1 with
  | bl b => exact ⟨b, rfl, k b c1 G1 H1 m1 g1 w1⟩
  | _ => exact m1.elim
theorem sim_testB {te : TE} {me : DE} (h : SimE K W te me) : SimT K W (tB te) (mTest me) := sim_test h
def mAnd (mt mu : DT) : DT := fun xe ρ c Q => mt xe ρ c fun b c1 => if b = true then mu xe ρ c1 Q else Q false c1
def mOr (mt mu : DT) : DT := fun xe ρ c Q => mt xe ρ c fun b c1 => if b = true then Q true c1 else mu xe ρ c1 Q
def mNot (mt : DT) : DT := fun xe ρ c Q => mt xe ρ c fun b c1 => Q (!b) c1
variable {t u : TT} {mt mu : DT}
theorem sim_and (ha : SimT K W t mt) (hb : SimT K W u mu) : SimT K W (tAnd t u) (mAnd mt mu) := by
  intro p G0 H0 c G H σ ρ xe Q post ws xc m k
  refine ha p G0 H0 c G H σ ρ xe _ _ ws xc m fun b c1 G1 H1 m1 g1 w1 => ?_
  cases b with
  | true => exact hb p G0 H0 c1 G1 H1 σ ρ xe _ _ (ws.grow g1 w1) xc m1 fun b c2 G2 H2 m2 g2 w2 => k b c2 G2 H2 m2 (g1.tr g2 w2) w2
  | false => exact k false c1 G1 H1 m1 g1 w1
theorem sim_or (ha : SimT K W t mt) (hb : SimT K W u mu) : SimT K W (tOr t u) (mOr mt mu) := by
  intro p G0 H0 c G H σ ρ xe Q post ws xc m k
  refine ha p G0 H0 c G H σ ρ xe _ _ ws xc m fun b c1 G1 H1 m1 g1 w1 => ?_
  cases b with
  | false => exact hb p G0 H0 c1 G1 H1 σ ρ xe _ _ (ws.grow g1 w1) xc m1 fun b c2 G2 H2 m2 g2 w2 => k b c2 G2 H2 m2 (g1.tr g2 w2) w2
  | true => exact k true c1 G1 H1 m1 g1 w1
theorem sim_not (ha : SimT K W t mt) : SimT K W (tNot t) (mNot mt) := by
  intro p G0 H0 c G H σ ρ xe Q post ws xc m k
  exact ha p G0 H0 c G H σ ρ xe _ _ ws xc m fun b c1 G1 H1 m1 g1 w1 => k (!b) c1 G1 H1 m1 g1 w1
def mIf (mt : DT) (ma mb : DE) : DE := fun xe ρ c Q => mt xe ρ c fun b c1 => if b = true then ma xe ρ c1 Q else mb xe ρ c1 Q
theorem sim_if {ta tb : TE} {ma mb : DE} (ht : SimT K W t mt) (ha : SimE K W ta ma) (hb : SimE K W tb mb) : SimE K W (tIf t ta tb) (mIf mt ma mb) := by
  intro p G0 H0 c G H σ ρ xe Q post ws xc m k
  refine ht p G0 H0 c G H σ ρ xe _ _ ws xc m fun b c1 G1 H1 m1 g1 w1 => ?_
  cases b with
  | true => exact ha p G0 H0 c1 G1 H1 σ ρ xe _ _ (ws.grow g1 w1) xc m1 fun d c2 v G2 H2 m2 g2 w2 => k d c2 v G2 H2 m2 (g1.tr g2 w2) w2
  | false => exact hb p G0 H0 c1 G1 H1 σ ρ xe _ _ (ws.grow g1 w1) xc m1 fun d c2 v G2 H2 m2 g2 w2 => k d c2 v G2 H2 m2 (g1.tr g2 w2) w2
/-- and, or, not as values -/
def mAndV (ma mb : DE) : DE := fun xe ρ c Q => ma xe ρ c fun d c1 => match d with | .bl b => if b = true then mb xe ρ c1 Q else Q (.bl false) c1 | _ => False
def mOrV (ma mb : DE) : DE := fun xe ρ c Q => ma xe ρ c fun d c1 => match d with | .bl b => if b = true then Q (.bl true) c1 else mb xe ρ c1 Q | _ => False
def mNotV (ma : DE) : DE := fun xe ρ c Q => ma xe ρ c fun d c1 => match d with | .bl b => Q (.bl (!b)) c1 | _ => False
theorem sim_andV {ta tb : TE} {ma mb : DE} (ha : SimE K W ta ma) (hb : SimE K W tb mb) : SimE K W (tAndV ta tb) (mAndV ma mb) := by
  intro p G0 H0 c G H σ ρ xe Q post ws xc m k
  refine ha p G0 H0 c G H σ ρ xe _ _ ws xc m fun d c1 v G1 H1 m1 g1 w1 r1 => ?_
  cases r1 with
  | bl b =>
    refine ⟨b, rfl, ?_⟩
    cases b with
    | true => exact hb p G0 H0 c1 G1 H1 σ ρ xe _ _ (ws.grow g1 w1) xc m1 fun d c2 v G2 H2 m2 g2 w2 => k d c2 v G2 H2 m2 (g1.tr g2 w2) w2
    | false => exact k _ c1 _ G1 H1 m1 g1 w1 (.bl false)
  | _ => exact m1.elim
theorem sim_orV {ta tb : TE} {ma mb : DE} (ha : SimE K W ta ma) (hb : SimE K W tb mb) : SimE K W (tOrV ta tb) (mOrV ma mb) := by
  intro p G0 H0 c G H σ ρ xe Q post ws xc m k
  refine ha p G0 H0 c G H σ ρ xe _ _ ws xc m fun d c1 v G1 H1 m1 g1 w1 r1 => ?_
  cases r1 with
  | bl b =>
    refine ⟨b, rfl, ?_⟩
    cases b with
    | false => exact hb p G0 H0 c1 G1 H1 σ ρ xe _ _ (ws.grow g1 w1) xc m1 fun d c2 v G2 H2 m2 g2 w2 => k d c2 v G2 H2 m2 (g1.tr g2 w2) w2
    | true => exact k _ c1 _ G1 H1 m1 g1 w1 (.bl true)
  | _ => exact m1.elim
theorem sim_notV {ta : TE} {ma : DE} (ha : SimE K W ta ma) : SimE K W (tNotV ta) (mNotV ma) := by
  intro p G0 H0 c G H σ ρ xe Q post ws xc m k
  refine ha p G0 H0 c G H σ ρ xe _ _ ws xc m fun d c1 v G1 H1 m1 g1 w1 r1 => ?_
  cases r1 with
  | bl b => exact ⟨b, rfl, k _ c1 _ G1 H1 m1 g1 w1 (.bl _)⟩
  | _ => exact m1.elim
/-! calls of built-ins and of defs -/
def mCB (f : DRL) (ma : DL) : DE := fun xe ρ c Q => ma xe ρ c fun ds c1 => f ds fun z => Q z c1
theorem sim_cb {r : List V → Hp → VK → Prop} {f : DRL} {ta : TA} {ma : DL} (hr : SimRL K r f) (ha : SimA K W ta ma) : SimE K W (tCB r ta) (mCB f ma) := by
  intro p G0 H0 c G H σ ρ xe Q post ws xc m k
  refine ha p G0 H0 c G H σ ρ xe _ _ ws xc m fun ds c1 vs G1 H1 m1 g1 w1 r1 => ?_
  refine hr p c1 G1 H1 vs ds _ _ w1 r1 m1 fun z y G3 H3 m3 g3 w3 r3 => ?_
  exact k z c1 y G3 H3 m3 (g1.tr g3 w3) w3 r3
/-- what a def says on data: wished of errors, arguments, draws so far, wished of the answer -/
abbrev DF := (Err → Nat → Prop) → List D → Nat → (D → Nat → Prop) → Prop
def spS (K : Cz) (f : DF) : Sp := fun vs H Q E => ∃ (p : Addr) (G : Hp) (c : Nat) (ds : List D) (xe : Err → Nat → Prop) (rt : D → Nat → Prop), Wd K p c G H ∧ RpL K p G vs ds ∧ f xe ds c rt ∧
  (∀ d c' v G' H', rt d c' → Grow p G H G' H' → Wd K p c' G' H' → Rp K p G' v d → Q v H') ∧ (∀ e c' cls dd G' H', xe e c' → Grow p G H G' H' → Wd K p c' G' H' → ErrR K p G' cls dd e → E cls dd H')
def mCall (f : DF) (ma : DL) : DE := fun xe ρ c Q => ma xe ρ c fun ds c1 => f (fun e c' => xe e ρ c') ds c1 Q
theorem sim_call {f : DF} {E : XK} {ta : TA} {ma : DL} (ha : SimA K (fun cls d _ H => E cls d H) ta ma) : SimE K (fun cls d _ H => E cls d H) (tCall (spS K f) [] E ta) (mCall f ma) := by
  intro p G0 H0 c G H σ ρ xe Q post ws xc m k
  refine ha p G0 H0 c G H σ ρ xe _ _ ws xc m fun ds c1 vs G1 H1 m1 g1 w1 r1 => ?_
  rw [List.append_nil]
  refine ⟨p, G1, c1, ds, _, post, w1, r1, m1, fun d c2 v G2 H2 m2 g2 w2 r2 => k d c2 v G2 H2 m2 (g1.tr g2 w2) w2 r2, fun e c2 cls dd G2 H2 m2 g2 w2 r2 => ?_⟩
  exact xc e ρ c2 σ G2 H2 cls dd (ws.grow (g1.tr g2 w2) w2) r2 m2
def mCall0 (f : DF) (ma : DL) : DE := fun xe ρ c Q => ma xe ρ c fun ds c1 => f (fun _ _ => False) ds c1 Q
theorem sim_call0 {f : DF} {ta : TA} {ma : DL} (ha : SimA K W ta ma) : SimE K W (tCall (spS K f) [] E0 ta) (mCall0 f ma) := by
  intro p G0 H0 c G H σ ρ xe Q post ws xc m k
  refine ha p G0 H0 c G H σ ρ xe _ _ ws xc m fun ds c1 vs G1 H1 m1 g1 w1 r1 => ?_
  rw [List.append_nil]
  exact ⟨p, G1, c1, ds, _, post, w1, r1, m1, fun d c2 v G2 H2 m2 g2 w2 r2 => k d c2 v G2 H2 m2 (g1.tr g2 w2) w2 r2, fun e c2 cls dd G2 H2 m2 g2 w2 r2 => m2⟩

/-! ### targets -/
def gN (i : Nat) : DG := fun d ρ Q => Q (ρ.set i (.sh d))
theorem sim_gn {i : Nat} : SimG K (gName i) (gN i) := fun p G0 H0 c G H σ ρ v d Q post ws r m k => k _ _ m (ws.setSh r)
def SimGs (K : Cz) (g : TGs) (mg : List D → Ro → (Ro → Prop) → Prop) : Prop := ∀ (p : Addr) (G0 H0 : Hp) (c : Nat) (G H : Hp) (σ : St) (ρ : Ro) (vs : List V) (ds : List D) (Q : St → Hp → Prop) (post : Ro → Prop), WS K p G0 H0 c G H σ ρ → RpL K p G vs ds → mg ds ρ post →
  (∀ σ' ρ', post ρ' → WS K p G0 H0 c G H σ' ρ' → Q σ' H) → g vs σ H Q
def gsN : List D → Ro → (Ro → Prop) → Prop := fun ds ρ Q => match ds with | [] => Q ρ | _ => False
def gsC (mg : DG) (mr : List D → Ro → (Ro → Prop) → Prop) : List D → Ro → (Ro → Prop) → Prop := fun ds ρ Q => match ds with | d :: r => mg d ρ fun ρ' => mr r ρ' Q | [] => False
theorem sim_gsn : SimGs K gNil gsN := by
  intro p G0 H0 c G H σ ρ vs ds Q post ws r m k
  cases r with
  | nil => exact ⟨rfl, k _ _ m ws⟩
  | cons => exact m.elim
theorem sim_gsc {g : TG} {mg : DG} {gr : TGs} {mr : List D → Ro → (Ro → Prop) → Prop} (h : SimG K g mg) (hr : SimGs K gr mr) : SimGs K (gCons g gr) (gsC mg mr) := by
  intro p G0 H0 c G H σ ρ vs ds Q post ws r m k
  cases r with
  | nil => exact m.elim
  | cons r1 r2 =>
    refine ⟨_, _, rfl, h p G0 H0 c G H σ ρ _ _ _ _ ws r1 m fun σ' ρ' m' ws' => ?_⟩
    exact hr p G0 H0 c G H σ' ρ' _ _ _ _ ws' r2 m' k
def gT (n : Nat) (mg : List D → Ro → (Ro → Prop) → Prop) : DG := fun d ρ Q => match d with | .tup l => l.length = n ∧ mg l ρ Q | _ => False
theorem sim_gt {n : Nat} {g : TGs} {mg : List D → Ro → (Ro → Prop) → Prop} (h : SimGs K g mg) : SimG K (gTup K.K n g) (gT n mg) := by
  intro p G0 H0 c G H σ ρ v d Q post ws r m k
  cases r with
  | tup h1 h2 => exact ⟨_, _, rfl, st_of (ws.wd.sub _ _ h1), by rw [h2.len]; exact m.1, h p G0 H0 c G H σ ρ _ _ _ _ ws h2 m.2 k⟩
  | _ => exact m.elim

/-! ### statements -/
variable {t1 t2 : TS} {m1 m2 : DS}
def mNext : DS := fun _ E ρ c => E.nx ρ c
def mSeq (m1 m2 : DS) : DS := fun xe E ρ c => m1 xe { E with nx := m2 xe E } ρ c
theorem sim_next : SimS K W tNext mNext := fun p G0 H0 c G H σ ρ xe N E ws xc er m => er.nx _ _ _ _ _ ws m
theorem sim_seq (h1 : SimS K W t1 m1) (h2 : SimS K W t2 m2) : SimS K W (tSeq t1 t2) (mSeq m1 m2) := by
  intro p G0 H0 c G H σ ρ xe N E ws xc er m
  exact h1 p G0 H0 c G H σ ρ xe _ { E with nx := m2 xe E } ws xc ⟨fun σ ρ c G H ws' m' => h2 p G0 H0 c G H σ ρ xe N E ws' xc er m', er.bk, er.ct, er.rt, er.rtN⟩ m
def mAsg (me : DE) (mg : DG) : DS := fun xe E ρ c => me xe ρ c fun d c1 => mg d ρ fun ρ' => E.nx ρ' c1
theorem sim_asg {te : TE} {me : DE} {g : TG} {mg : DG} (h : SimE K W te me) (hg : SimG K g mg) : SimS K W (tAsg te g) (mAsg me mg) := by
  intro p G0 H0 c G H σ ρ xe N E ws xc er m
  refine h p G0 H0 c G H σ ρ xe _ _ ws xc m fun d c1 v G1 H1 m1 g1 w1 r1 => ?_
  exact hg p G0 H0 c1 G1 H1 σ ρ v d _ _ (ws.grow g1 w1) r1 m1 fun σ' ρ' m' ws' => er.nx _ _ _ _ _ ws' m'
/-- x = a new list, of one's own -/
def mAsgO (mo : DL) (i : Nat) : DS := fun xe E ρ c => mo xe ρ c fun l c1 => E.nx (ρ.set i (.own l)) c1
theorem sim_asgO {te : TE} {mo : DL} {i : Nat} (h : SimO K W te mo) : SimS K W (tAsg te (gName i)) (mAsgO mo i) := by
  intro p G0 H0 c G H σ ρ xe N E ws xc er m
  refine h p G0 H0 c G H σ ρ xe _ _ ws xc m fun l c1 a xs G1 H1 m1 g1 w1 ha hg hh r => ?_
  obtain ⟨np, n0, _⟩ := ws.fresh0 ha
  have ws1 := ws.grow g1 w1
  exact er.nx _ _ _ _ _ ⟨ws1.gr, ws1.wd, ws1.en.setOwn np n0 hg hh r fun j o s' ne e1 e2 z => by
    obtain ⟨u, hu⟩ := (ws.en.sl j o s' e1 e2).reg_in z
    rw [ha] at hu; cases hu⟩ m1
def mRet (me : DE) : DS := fun xe E ρ c => me xe ρ c fun d c1 => E.rt d c1
theorem sim_ret {te : TE} {me : DE} (h : SimE K W te me) : SimS K W (tRet te) (mRet me) := by
  intro p G0 H0 c G H σ ρ xe N E ws xc er m
  exact h p G0 H0 c G H σ ρ xe _ _ ws xc m fun d c1 v G1 H1 m1 g1 w1 r1 => er.rt v d c1 G1 H1 (ws.gr.trans w1.gp g1) w1 r1 m1
def mRetN : DS := fun _ E ρ c => E.rt .non c
theorem sim_retN : SimS K W tRetN mRetN := fun p G0 H0 c G H σ ρ xe N E ws xc er m => er.rt .non .non c G H ws.gr ws.wd .non m
def mIfS (mt : DT) (m1 m2 : DS) : DS := fun xe E ρ c => mt xe ρ c fun b c1 => if b = true then m1 xe E ρ c1 else m2 xe E ρ c1
theorem sim_ifS (ht : SimT K W t mt) (h1 : SimS K W t1 m1) (h2 : SimS K W t2 m2) : SimS K W (tIfS t t1 t2) (mIfS mt m1 m2) := by
  intro p G0 H0 c G H σ ρ xe N E ws xc er m
  refine ht p G0 H0 c G H σ ρ xe _ _ ws xc m fun b c1 G1 H1 m1 g1 w1 => ?_
  cases b with
  | true => exact h1 p G0 H0 c1 G1 H1 σ ρ xe N E (ws.grow g1 w1) xc er m1
  | false => exact h2 p G0 H0 c1 G1 H1 σ ρ xe N E (ws.grow g1 w1) xc er m1
def mDrop (me : DE) : DS := fun xe E ρ c => me xe ρ c fun _ c1 => E.nx ρ c1
theorem sim_drop {te : TE} {me : DE} (h : SimE K W te me) : SimS K W (tDrop te) (mDrop me) := by
  intro p G0 H0 c G H σ ρ xe N E ws xc er m
  exact h p G0 H0 c G H σ ρ xe _ _ ws xc m fun d c1 v G1 H1 m1 g1 w1 r1 => er.nx _ _ _ _ _ (ws.grow g1 w1) m1
def mBrk : DS := fun _ E ρ c => E.bk ρ c
def mCont : DS := fun _ E ρ c => E.ct ρ c
theorem sim_brk : SimS K W tBreak mBrk := fun p G0 H0 c G H σ ρ xe N E ws xc er m => er.bk _ _ _ _ _ ws m
theorem sim_cont : SimS K W tCont mCont := fun p G0 H0 c G H σ ρ xe N E ws xc er m => er.ct _ _ _ _ _ ws m
/-- a, b = x, y -/
def mPar (i j : Nat) (ma : DL) : DS := fun xe E ρ c => ma xe ρ c fun ds c1 => match ds with | [x, y] => E.nx ((ρ.set i (.sh x)).set j (.sh y)) c1 | _ => False
theorem sim_par {i j : Nat} {ta : TA} {ma : DL} (h : SimA K W ta ma) : SimS K W (tPar i j ta) (mPar i j ma) := by
  intro p G0 H0 c G H σ ρ xe N E ws xc er m
  refine h p G0 H0 c G H σ ρ xe _ _ ws xc m fun ds c1 vs G1 H1 m1 g1 w1 r1 => ?_
  cases r1 with
  | nil => exact m1.elim
  | cons r1 r2 =>
    cases r2 with
    | nil => exact m1.elim
    | cons r2 r3 =>
      cases r3 with
      | nil => exact ⟨_, _, rfl, er.nx _ _ _ _ _ (((ws.grow g1 w1).setSh r1).setSh r2) m1⟩
      | cons => exact m1.elim
/-! own lists -/
theorem reg_own {a b : Addr} {l : List D} : (S.own l).reg (some (.ref a)) b ↔ b = a := Iff.rfl
/-- another slot's description behind a change at a, which is no part of its own -/
theorem SlotR.apart {o : Option V} {s : S} {a : Addr} {u : HO} (h : SlotR K p H0 G H o s) (n : ¬ s.reg o a) : SlotR K p H0 G (upd H a u) o s := by
  cases h with
  | no => exact .no
  | sh r => exact .sh r
  | exc h => exact .exc h
  | own np n0 hg hh r => exact .own np n0 hg (by rw [upd_ne (fun z => n z.symm)]; exact hh) r
  | obj hc np n0 hg hh r => exact .obj hc np n0 hg (by rw [upd_ne (fun z => n z.symm)]; exact hh) r
  | @frs v F d hf r =>
    refine .frs (fun b w q => ?_) r
    obtain ⟨q1, q2, q3, q4⟩ := hf b w q
    refine ⟨q1, q2, q3, ?_⟩
    have nb : b ≠ a := fun z => by
      subst z
      have : F b ≠ none := by rw [q]; exact nofun
      exact n (by cases v <;> exact this)
    rw [upd_ne nb]; exact q4
theorem WS.ownUpd {i : Nat} {a : Addr} {l m : List D} {xs ys : List V} (h : WS K p G0 H0 c G H σ ρ) (e : ρ[i]? = some (.own l)) (e2 : σ[i]? = some (some (.ref a))) (hh : H a = some (.lst xs)) (np : a ≠ p) (n0 : H0 a = none) (hg : G a = none)
    (r : RpL K p G ys m) : WS K p G0 H0 c G (upd H a (.lst ys)) σ (ρ.set i (.own m)) := by
  have il : i < ρ.length := (List.getElem?_eq_some_iff.mp e).1
  refine ⟨⟨h.gr.ex, h.gr.new, fun b o hb q => ?_, fun zs q => ?_⟩, ⟨fun b o q => ?_, h.wd.gp, h.wd.pl.of (Ex.refl _) fun o q => by rw [upd_ne np.symm]; exact q⟩, by simp [h.en.len], fun j o s q1 q2 => ?_, fun j k o o' s s' ne q1 q2 q3 q4 b z => ?_⟩
  · rw [upd_ne (ne_of_none q n0)]; exact h.gr.keep b o hb q
  · obtain ⟨us, h1, h2⟩ := h.gr.pc zs q
    exact ⟨us, by rw [upd_ne np.symm]; exact h1, h2⟩
  · rw [upd_ne (ne_of_none q hg)]; exact h.wd.sub b o q
  · by_cases z : i = j
    · subst z
      rw [List.getElem?_set_self il] at q2
      cases q2
      rw [e2] at q1; cases q1
      exact .own np n0 hg upd_same r
    · rw [List.getElem?_set_ne z] at q2
      exact (h.en.sl j o s q1 q2).apart fun y => h.en.dis i j _ o _ s z e2 e q1 q2 a rfl y
  · have old : ∀ (j : Nat) (o : Option V) (s : S), σ[j]? = some o → (ρ.set i (.own m))[j]? = some s → ∃ s1, ρ[j]? = some s1 ∧ ∀ b, s.reg o b ↔ s1.reg o b := fun j o s y1 y2 => by
      by_cases z : i = j
      · subst z
        rw [List.getElem?_set_self il] at y2
        cases y2
        rw [e2] at y1; cases y1
        exact ⟨_, e, fun b => Iff.rfl⟩
      · rw [List.getElem?_set_ne z] at y2; exact ⟨_, y2, fun b => Iff.rfl⟩
    obtain ⟨s1, a1, b1⟩ := old j o s q1 q2
    obtain ⟨s2, a2, b2⟩ := old k o' s' q3 q4
    exact fun y => h.en.dis j k o o' s1 s2 ne q1 a1 q3 a2 b ((b1 b).mp z) ((b2 b).mp y)
/-- what a slot has of its own is frozen -/
theorem WS.melt {i : Nat} {v : V} {s : S} {F : Hp} {d : D} (h : WS K p G0 H0 c G H σ ρ) (e2 : σ[i]? = some (some v)) (e : ρ[i]? = some s) (hf : ∀ a o, F a = some o → G a = none ∧ H0 a = none ∧ a ≠ p ∧ H a = some o) (hr : ∀ a, F a ≠ none → s.reg (some v) a) (r : Rp K p (mrg G F) v d) :
    WS K p G0 H0 c (mrg G F) H σ (ρ.set i (.sh d)) := by
  have il : i < ρ.length := (List.getElem?_eq_some_iff.mp e).1
  have ex : Ex G (mrg G F) := mg_ex fun a o q => (hf a o q).1
  have inv : ∀ a o, mrg G F a = some o → F a = some o ∨ (F a = none ∧ G a = some o) := fun a o q => by
    unfold mrg at q
    cases z : F a with
    | none => rw [z] at q; exact .inr ⟨rfl, q⟩
    | some u => rw [z] at q; exact .inl q
  refine ⟨⟨h.gr.ex.trans ex, fun a o q => ?_, h.gr.keep, h.gr.pc⟩, ⟨fun a o q => ?_, ?_, h.wd.pl.of ex fun _ q => q⟩, by simp [h.en.len], fun j o s' q1 q2 => ?_, fun j k o o' s' s'' ne q1 q2 q3 q4 b z => ?_⟩
  · rcases inv a o q with z | z
    · exact .inr (hf a o z).2.1
    · exact h.gr.new a o z.2
  · rcases inv a o q with z | z
    · exact (hf a o z).2.2.2
    · exact h.wd.sub a o z.2
  · cases q : mrg G F p with
    | none => rfl
    | some o =>
      rcases inv p o q with z | z
      · exact absurd rfl (hf p o z).2.2.1
      · rw [h.wd.gp] at z; cases z.2
  · by_cases z : i = j
    · subst z
      rw [List.getElem?_set_self il] at q2
      cases q2
      rw [e2] at q1; cases q1
      exact .sh r
    · rw [List.getElem?_set_ne z] at q2
      have s0 := h.en.sl j o s' q1 q2
      have dj := h.en.dis i j _ o _ s' z e2 e q1 q2
      cases s0 with
      | no => exact .no
      | sh r => exact .sh (r.up ex)
      | exc h => exact .exc (h.up ex)
      | @obj nm a C dx fs gs hc np' n0' hg' hh' r' =>
        refine .obj hc np' n0' ?_ hh' (r'.up ex)
        unfold mrg
        cases y : F a with
        | none => exact hg'
        | some u => exact absurd rfl (dj a (hr a (by rw [y]; exact nofun)))
      | @own a xs l np' n0' hg' hh' r' =>
        refine .own np' n0' ?_ hh' (r'.up ex)
        unfold mrg
        cases y : F a with
        | none => exact hg'
        | some u => exact absurd rfl (dj a (hr a (by rw [y]; exact nofun)))
      | @frs v' F' d' hf' r' =>
        refine .frs (fun a o q => ?_) (r'.up ex)
        obtain ⟨y1, y2, y3, y4⟩ := hf' a o q
        refine ⟨?_, y2, y3, y4⟩
        unfold mrg
        cases y : F a with
        | none => exact y1
        | some u =>
          have : F' a ≠ none := by rw [q]; exact nofun
          exact absurd (by cases v' <;> exact this) (dj a (hr a (by rw [y]; exact nofun)))
  · have old : ∀ (j : Nat) (o : Option V) (s' : S), σ[j]? = some o → (ρ.set i (.sh d))[j]? = some s' → s'.reg o b → j ≠ i ∧ ρ[j]? = some s' := fun j o s' y1 y2 y3 => by
      by_cases z : i = j
      · subst z
        rw [List.getElem?_set_self il] at y2
        cases y2
        exact absurd y3 reg_sh
      · rw [List.getElem?_set_ne z] at y2; exact ⟨Ne.symm z, y2⟩
    intro y
    obtain ⟨_, a1⟩ := old j o s' q1 q2 z
    obtain ⟨_, a2⟩ := old k o' s'' q3 q4 y
    exact h.en.dis j k o o' s' s'' ne q1 a1 q3 a2 b z y
/-- an own list's region -/
def one (a : Addr) (o : HO) : Hp := fun b => if b = a then some o else none
theorem one_at {a b : Addr} {o u : HO} (h : one a o b = some u) : b = a ∧ u = o := by
  unfold one at h
  split at h
  · rename_i e; exact ⟨e, (Option.some.inj h).symm⟩
  · cases h
theorem WS.freeze {i : Nat} {l : List D} (h : WS K p G0 H0 c G H σ ρ) (e : ρ[i]? = some (.own l)) : ∃ F, (∀ a o, F a = some o → G a = none) ∧ WS K p G0 H0 c (mrg G F) H σ (ρ.set i (.sh (.lst l))) := by
  obtain ⟨a, xs, e2, np, n0, hg, hh, r⟩ := h.en.own e
  have hf : ∀ b o, one a (.lst xs) b = some o → G b = none ∧ H0 b = none ∧ b ≠ p ∧ H b = some o := fun b o q => by
    obtain ⟨rfl, rfl⟩ := one_at q
    exact ⟨hg, n0, np, hh⟩
  refine ⟨one a (.lst xs), fun b o q => (hf b o q).1, h.melt e2 e hf (fun b q => ?_) (.lst ?_ (r.up (mg_ex fun b o q => (hf b o q).1)))⟩
  · show b = a
    cases y : one a (.lst xs) b with
    | none => exact absurd y q
    | some u => exact (one_at y).1
  · show mrg G (one a (.lst xs)) a = some (.lst xs)
    have z : one a (.lst xs) a = some (.lst xs) := if_pos rfl
    unfold mrg
    rw [z]
theorem EnvR.frs {i : Nat} {F : Hp} {d : D} (h : EnvR K p H0 G H σ ρ) (e : ρ[i]? = some (.frs F d)) : ∃ v, σ[i]? = some (some v) ∧ (∀ a o, F a = some o → G a = none ∧ H0 a = none ∧ a ≠ p ∧ H a = some o) ∧ RpN K p G F v d := by
  obtain ⟨o, h1, h2⟩ := h.get e
  cases h2 with
  | frs hf r => exact ⟨_, h1, hf, r⟩
theorem WS.freezeF {i : Nat} {F : Hp} {d : D} (h : WS K p G0 H0 c G H σ ρ) (e : ρ[i]? = some (.frs F d)) : WS K p G0 H0 c (mrg G F) H σ (ρ.set i (.sh d)) := by
  obtain ⟨v, e2, hf, r⟩ := h.en.frs e
  exact h.melt e2 e hf (fun a q => by cases v <;> exact q) r.rp
/-- back to what stood still before -/
theorem Wd.back {G1 : Hp} {c1 : Nat} (w : Wd K p c G H) (ex : Ex G G1) (g : Grow p G1 H G' H') (w' : Wd K p c1 G' H') : Wd K p c1 G H' ∧ Grow p G H G H' := by
  obtain ⟨t, r, cs, ns, q1, q2, q3, _⟩ := w.pl
  obtain ⟨t', r', cs', ns', z1, z2, z3, z4⟩ := w'.pl
  obtain ⟨ys, y1, y2⟩ := g.pc _ q1
  rw [z1] at y1
  have e0 : [V.int t', V.int r', V.ref cs'] = ys := by injection y1 with y1; injection y1
  rw [← e0] at y2
  have e : cs' = cs := by simpa using y2
  subst e
  have ew : G' cs' = some (.lst (ns.map V.int)) := g.ex _ _ (ex _ _ q2)
  have en : ns'.map V.int = ns.map V.int := by rw [z2] at ew; injection ew with ew; injection ew
  have hl : ns'.length = ns.length := by simpa using congrArg List.length en
  exact ⟨⟨fun a o q => w'.sub a o (g.ex a o (ex a o q)), w.gp, t', r', cs', ns, z1, q2, q3, z4⟩, Ex.refl _, fun _ _ q => .inl q, g.keep, g.pc⟩
/-- a test that looks at what a slot has of its own -/
def mTmpT (i : Nat) (mt : DT) : DT := fun xe ρ c Q => match ρ[i]? with
  | some (.own l) => mt (fun _ _ _ => False) (ρ.set i (.sh (.lst l))) c Q
  | some (.frs _ d) => mt (fun _ _ _ => False) (ρ.set i (.sh d)) c Q
  | _ => False
theorem sim_tmpT {i : Nat} (h : SimT K W t mt) : SimT K W t (mTmpT i mt) := by
  intro p G0 H0 c G H σ ρ xe Q post ws xc m k
  unfold mTmpT at m
  split at m
  · rename_i l e
    obtain ⟨F, hF, ws'⟩ := ws.freeze e
    refine h p G0 H0 c _ H σ _ _ _ _ ws' (fun _ _ _ _ _ _ _ _ _ _ z => z.elim) m fun b c1 G1 H1 m1 g1 w1 => ?_
    obtain ⟨w2, g2⟩ := ws.wd.back (mg_ex hF) g1 w1
    exact k b c1 G H1 m1 g2 w2
  · rename_i F d e
    have ws' := ws.freezeF e
    obtain ⟨v, e2, hf, r⟩ := ws.en.frs e
    refine h p G0 H0 c _ H σ _ _ _ _ ws' (fun _ _ _ _ _ _ _ _ _ _ z => z.elim) m fun b c1 G1 H1 m1 g1 w1 => ?_
    obtain ⟨w2, g2⟩ := ws.wd.back (mg_ex fun a o q => (hf a o q).1) g1 w1
    exact k b c1 G H1 m1 g2 w2
  · exact m.elim
end
end Dm

namespace Dm
open PySem L2 Evl
open PyProof.Rows (envOfC)
section
variable {K : Cz} {W : WX}
variable {p : Addr} {G0 H0 G H G' H' : Hp} {c c' : Nat} {σ : St} {ρ : Ro}
/-! ### own lists: append, freeze ahead of a statement -/
def mApp (i : Nat) (me : DE) : DS := fun xe E ρ c => match ρ[i]? with | some (.own l) => l.length < 1000000 ∧ me xe ρ c fun d c1 => E.nx (ρ.set i (.own (l ++ [d]))) c1 | _ => False
theorem sim_app {i : Nat} {te : TE} {me : DE} (h : SimE K W te me) : SimS K W (tDrop (tBM K.K "list" rAppend (tVar i) (tCons te tNil))) (mApp i me) := by
  intro p G0 H0 c G H σ ρ xe N E ws xc er m
  unfold mApp at m
  split at m
  · rename_i l e
    obtain ⟨a, xs, e2, np, n0, hg, hh, r⟩ := ws.en.own e
    refine ⟨.ref a, e2, Or.inl ⟨rfl, xs, sq_of hh⟩, ?_⟩
    refine h p G0 H0 c G H σ ρ xe _ _ ws xc m.2 fun d c1 v G1 H1 m1 g1 w1 r1 => ?_
    have ws1 := ws.grow g1 w1
    obtain ⟨a', xs', e2', np', n0', hg', hh', r'⟩ := ws1.en.own e
    rw [e2] at e2'; cases e2'
    refine ⟨a, xs', v, rfl, rfl, hh', by rw [r'.len]; exact Nat.lt_of_lt_of_le m.1 Grow.sz, ?_⟩
    exact er.nx _ _ _ _ _ (ws1.ownUpd e e2 hh' np n0 hg' (r'.append (.cons r1 .nil))) m1
  · exact m.elim
/-- the list of slot i is frozen ahead of a statement -/
def mFreeze (i : Nat) (m : DS) : DS := fun xe E ρ c => match ρ[i]? with | some (.own l) => m xe E (ρ.set i (.sh (.lst l))) c | _ => False
theorem sim_freeze {i : Nat} {t : TS} {m : DS} (h : SimS K W t m) : SimS K W t (mFreeze i m) := by
  intro p G0 H0 c G H σ ρ xe N E ws xc er q
  unfold mFreeze at q
  split at q
  · rename_i l e
    obtain ⟨F, hF, ws'⟩ := ws.freeze e
    exact h p G0 H0 c _ H σ _ xe N E ws' xc er q
  · exact q.elim
/-- x = e, x's list becomes one's own -/
def mSetI (i : Nat) (mj me : DE) : DS := fun xe E ρ c => match ρ[i]? with
  | some (.own l) => me xe ρ c fun d c1 => mj xe ρ c1 fun j c2 => match j with
    | .int k => (∃ n, ixN l.length k = some n ∧ E.nx (ρ.set i (.own (l.set n d))) c2)
    | _ => False
  | _ => False
theorem sim_setI {i : Nat} {tj te : TE} {mj me : DE} (hj : SimE K W tj mj) (h : SimE K W te me) : SimS K W (tAsg te (gSub (tVar i) tj rSetL)) (mSetI i mj me) := by
  intro p G0 H0 c G H σ ρ xe N E ws xc er m
  unfold mSetI at m
  split at m
  · rename_i l e
    refine h p G0 H0 c G H σ ρ xe _ _ ws xc m fun d c1 v G1 H1 m1 g1 w1 r1 => ?_
    have ws1 := ws.grow g1 w1
    obtain ⟨a, xs, e2, np, n0, hg, hh, r⟩ := ws1.en.own e
    refine ⟨.ref a, e2, ?_⟩
    refine hj p G0 H0 c1 G1 H1 σ ρ xe _ _ ws1 xc m1 fun j c2 u G2 H2 m2 g2 w2 r2 => ?_
    have ws2 := ws1.grow g2 w2
    obtain ⟨a', xs', e2', np', n0', hg', hh', r'⟩ := ws2.en.own e
    rw [e2] at e2'; cases e2'
    cases r2 with
    | int k =>
      obtain ⟨n, q1, q2⟩ := m2
      refine ⟨a, xs', k, n, rfl, rfl, hh', by rw [r'.len]; exact q1, ?_⟩
      exact er.nx _ _ _ _ _ (ws2.ownUpd e e2 hh' np n0 hg' (RpL.set (r1.up g2.ex) n r')) q2
    | _ => exact m2.elim
  · exact m.elim

/-! ### change of the base -/
theorem Grow.rebase {G1 : Hp} (g : Grow p G0 H0 G1 H) (h : Grow p G1 H0 G' H') : Grow p G0 H0 G' H' :=
  ⟨g.ex.trans h.ex, fun a o q => by
    rcases h.new a o q with z | z
    · exact g.new a o z
    · exact .inr z, h.keep, h.pc⟩
theorem WS.at1 (h : WS K p G0 H0 c G H σ ρ) : WS K p G H0 c G H σ ρ := ⟨⟨Ex.refl _, fun _ _ q => .inl q, h.gr.keep, h.gr.pc⟩, h.wd, h.en⟩
theorem WS.rebase {G1 : Hp} (g : Grow p G0 H0 G1 H) (h : WS K p G1 H0 c G' H' σ ρ) : WS K p G0 H0 c G' H' σ ρ := ⟨g.rebase h.gr, h.wd, h.en⟩
theorem Xc.rebase {G1 : Hp} {xe : XP} (g : Grow p G0 H0 G1 H) (x : Xc K p G0 H0 xe W) : Xc K p G1 H0 xe W := fun e ρ c σ G H cls d ws r q => x e ρ c σ G H cls d (ws.rebase g) r q

/-! ### what is walked -/
def ItOk (K : Cz) (p : Addr) (J : It) (G1 : Hp) (ds : List D) : Prop := ∀ (i c : Nat) (G' H' : Hp), Ex G1 G' → Wd K p c G' H' →
  (∀ d, ds[i]? = some d → J.go i H' ∧ ∀ x H'', J.yld i H' x H'' → ∃ G'', Grow p G' H' G'' H'' ∧ Wd K p c G'' H'' ∧ Rp K p G'' x d) ∧ (ds.length ≤ i → J.stop i H')
def SimI (K : Cz) (W : WX) (wi : TI) (mi : DL) : Prop := ∀ (p : Addr) (G0 H0 : Hp) (c : Nat) (G H : Hp) (σ : St) (ρ : Ro) (xe : XP) (R : It → Hp → Prop) (post : List D → Nat → Prop), WS K p G0 H0 c G H σ ρ → Xc K p G0 H0 xe W → mi xe ρ c post →
  (∀ ds c' J G' H', post ds c' → Grow p G H G' H' → Wd K p c' G' H' → ItOk K p J G' ds → R J H') → wi σ H R
def mItL (me : DE) : DL := fun xe ρ c Q => me xe ρ c fun d c1 => match d with | .lst l => Q l c1 | _ => False
def mItT (me : DE) : DL := fun xe ρ c Q => me xe ρ c fun d c1 => match d with | .tup l => Q l c1 | _ => False
/-- a list or a tuple, its items -/
def dSeq (d : D) (A : List D → Prop) : Prop := match d with | .lst l => A l | .tup l => A l | _ => False
theorem dSeq_lst (l : List D) (A : List D → Prop) : dSeq (.lst l) A = A l := rfl
theorem dSeq_tup (l : List D) (A : List D → Prop) : dSeq (.tup l) A = A l := rfl
theorem dSeq_of {d : D} {l : List D} {A : List D → Prop} (h : d = .lst l ∨ d = .tup l) (q : A l) : dSeq d A := by rcases h with rfl | rfl <;> exact q
def mItS (me : DE) : DL := fun xe ρ c Q => me xe ρ c fun d c1 => dSeq d fun l => Q l c1
theorem it_tup {a : Addr} {xs : List V} {ds : List D} (h : G a = some (.tup xs)) (r : RpL K p G xs ds) : ItOk K p (Itt K.K a) G ds := by
  intro i c G' H' e w
  refine ⟨fun d hd => ?_, fun hi => ⟨xs, st_of (w.sub _ _ (e _ _ h)), by rw [r.len]; exact hi⟩⟩
  obtain ⟨v, hv, rv⟩ := r.get hd
  refine ⟨⟨xs, v, st_of (w.sub _ _ (e _ _ h)), hv⟩, fun x H'' q => ?_⟩
  obtain ⟨q1, q2⟩ := q
  subst q1
  have := q2 xs (st_of (w.sub _ _ (e _ _ h)))
  rw [hv] at this; cases this
  exact ⟨G', .refl, w, rv.up e⟩
theorem it_listA {a : Addr} {xs : List V} {ds : List D} (h : G a = some (.lst xs)) (r : RpL K p G xs ds) : ItOk K p (Itl K.K a) G ds := by
  intro i c G' H' e w
  refine ⟨fun d hd => ?_, fun hi => ⟨xs, sq_of (w.sub _ _ (e _ _ h)), by rw [r.len]; exact hi⟩⟩
  obtain ⟨v, hv, rv⟩ := r.get hd
  refine ⟨⟨xs, v, sq_of (w.sub _ _ (e _ _ h)), hv⟩, fun x H'' q => ?_⟩
  obtain ⟨q1, q2⟩ := q
  subst q1
  have := q2 xs (sq_of (w.sub _ _ (e _ _ h)))
  rw [hv] at this; cases this
  exact ⟨G', .refl, w, rv.up e⟩
theorem sim_itL {te : TE} {me : DE} (h : SimE K W te me) : SimI K W (iList K.K te) (mItL me) := by
  intro p G0 H0 c G H σ ρ xe R post ws xc m k
  refine h p G0 H0 c G H σ ρ xe _ _ ws xc m fun d c1 v G1 H1 m1 g1 w1 r1 => ?_
  cases r1 with
  | lst h1 h2 => exact ⟨_, rfl, ⟨_, sq_of (w1.sub _ _ h1)⟩, k _ c1 _ G1 H1 m1 g1 w1 (it_listA h1 h2)⟩
  | _ => exact m1.elim
theorem sim_itT {te : TE} {me : DE} (h : SimE K W te me) : SimI K W (iTup K.K te) (mItT me) := by
  intro p G0 H0 c G H σ ρ xe R post ws xc m k
  refine h p G0 H0 c G H σ ρ xe _ _ ws xc m fun d c1 v G1 H1 m1 g1 w1 r1 => ?_
  cases r1 with
  | tup h1 h2 => exact ⟨_, rfl, ⟨_, st_of (w1.sub _ _ h1)⟩, k _ c1 _ G1 H1 m1 g1 w1 (it_tup h1 h2)⟩
  | _ => exact m1.elim
/-- a list or a tuple -/
def iSeq (K : PySem.W.Frag) (tl : TE) : TI := fun σ H R => tl σ H fun x H1 => ∃ a, x = .ref a ∧ (((∃ xs, SqL K H1 a xs) ∧ R (Itl K a) H1) ∨ ((∃ xs, SqT K H1 a xs) ∧ R (Itt K a) H1))
theorem pi_seq {X : Cx} {tg l : Expr} {tl : TE} (hl : PE X l tl) : PI X tg l (iSeq X.K tl) := by
  constructor
  intro pins st σ H R inv hw
  refine thn (hl.run pins st σ H _ inv hw) ?_
  rintro v s1 ⟨x, H1, I1, r1, b, rfl, q⟩
  cases r1
  have fp : ∀ z ∈ [s1.heap.objs.size], FpOk X pins H1 z := fun z hz => by
    cases List.mem_singleton.mp hz
    exact I1.fpOk (Nat.le_refl _) (I1.hok.fresh (Nat.le_refl _))
  rcases q with ⟨⟨xs, hq⟩, q⟩ | ⟨⟨xs, hq⟩, q⟩
  · obtain ⟨_, _, pl, _⟩ := I1.list hq
    exact wpAny_pyIter_list pl.isList ⟨_, _, _, _, H1, rfl, I1.kept (t' := s1.toks) (fun _ _ => Heap.get?_push_of_some _), turn_list b _, ⟨_, Heap.get?_push_size _ rfl, rfl, rfl⟩, fp, q⟩
  · obtain ⟨its, _, pt, _⟩ := I1.tuple hq
    have pt' : s1.heap.IsTuple b its.toArray := pt
    exact wpAny_pyIter_tuple pt' ⟨_, _, _, _, H1, rfl, I1.kept (t' := s1.toks) (fun _ _ => Heap.get?_push_of_some _), turn_tuple b _, ⟨_, Heap.get?_push_size _ rfl, rfl, rfl⟩, fp, q⟩
theorem sim_itS {te : TE} {me : DE} (h : SimE K W te me) : SimI K W (iSeq K.K te) (mItS me) := by
  intro p G0 H0 c G H σ ρ xe R post ws xc m k
  refine h p G0 H0 c G H σ ρ xe _ _ ws xc m fun d c1 v G1 H1 m1 g1 w1 r1 => ?_
  cases r1 with
  | lst h1 h2 => exact ⟨_, rfl, .inl ⟨⟨_, sq_of (w1.sub _ _ h1)⟩, k _ c1 _ G1 H1 m1 g1 w1 (it_listA h1 h2)⟩⟩
  | tup h1 h2 => exact ⟨_, rfl, .inr ⟨⟨_, st_of (w1.sub _ _ h1)⟩, k _ c1 _ G1 H1 m1 g1 w1 (it_tup h1 h2)⟩⟩
  | _ => exact m1.elim
def rng (lo : Int) (n : Nat) : List D := (List.range n).map fun i => .int (lo + (i : Nat))
theorem it_rng {lo : Int} {n : Nat} : ItOk K p (Itr lo n) G (rng lo n) := by
  intro i c G' H' e w
  refine ⟨fun d hd => ?_, fun hi => by have hi' : (rng lo n).length ≤ i := hi; simp [rng] at hi'; exact hi'⟩
  unfold rng at hd
  rw [List.getElem?_map] at hd
  cases q : (List.range n)[i]? with
  | none => rw [q] at hd; cases hd
  | some j =>
    rw [q] at hd
    have hj := List.getElem?_eq_some_iff.mp q
    obtain ⟨h1, h2⟩ := hj
    have h3 : i < n := by simpa using h1
    rw [List.getElem_range] at h2
    subst h2
    have hd' : D.int (lo + (i : Nat)) = d := Option.some.inj hd
    refine ⟨h3, fun x H'' y => ?_⟩
    obtain ⟨y1, y2⟩ := y
    subst y1; subst y2
    rw [← hd']
    exact ⟨G', .refl, w, .int _⟩
def mRng1 (ma : DL) : DL := fun xe ρ c Q => ma xe ρ c fun ds c1 => match ds with | [.int n] => (-1000000000 ≤ n ∧ n ≤ 1000000000) ∧ Q (rng 0 n.toNat) c1 | _ => False
def mRng2 (ma : DL) : DL := fun xe ρ c Q => ma xe ρ c fun ds c1 => match ds with | [.int m, .int n] => (-1000000000 ≤ m ∧ m ≤ 1000000000 ∧ -1000000000 ≤ n ∧ n ≤ 1000000000) ∧ Q (rng m (n - m).toNat) c1 | _ => False
theorem RpL.one {xs : List V} {d : D} (r : RpL K p G xs [d]) : ∃ v, xs = [v] ∧ Rp K p G v d := by
  cases r with
  | cons h1 h2 => cases h2; exact ⟨_, rfl, h1⟩
theorem RpL.two {xs : List V} {d e : D} (r : RpL K p G xs [d, e]) : ∃ v u, xs = [v, u] ∧ Rp K p G v d ∧ Rp K p G u e := by
  cases r with
  | cons h1 h2 => obtain ⟨u, rfl, h3⟩ := h2.one; exact ⟨_, _, rfl, h1, h3⟩
theorem sim_rng1 {ta : TA} {ma : DL} (h : SimA K W ta ma) : SimI K W (iRng1 ta) (mRng1 ma) := by
  intro p G0 H0 c G H σ ρ xe R post ws xc m k
  refine h p G0 H0 c G H σ ρ xe _ _ ws xc m fun ds c1 vs G1 H1 m1 g1 w1 r1 => ?_
  split at m1
  · rename_i n
    obtain ⟨v, rfl, r⟩ := r1.one
    cases r
    exact ⟨n, rfl, by omega, by omega, k _ c1 _ G1 H1 m1.2 g1 w1 it_rng⟩
  · exact m1.elim
theorem sim_rng2 {ta : TA} {ma : DL} (h : SimA K W ta ma) : SimI K W (iRng2 ta) (mRng2 ma) := by
  intro p G0 H0 c G H σ ρ xe R post ws xc m k
  refine h p G0 H0 c G H σ ρ xe _ _ ws xc m fun ds c1 vs G1 H1 m1 g1 w1 r1 => ?_
  split at m1
  · rename_i a b
    obtain ⟨v, u, rfl, r, r'⟩ := r1.two
    cases r; cases r'
    exact ⟨a, b, rfl, ⟨by omega, by omega, by omega, by omega⟩, k _ c1 _ G1 H1 m1.2 g1 w1 it_rng⟩
  · exact m1.elim

/-! ### for, while -/
def mFor (mi : DL) (tg : DG) (body : DS) : DS := fun xe E ρ c => mi xe ρ c fun ds c1 => ∃ I : Nat → Ro → Nat → Prop, I 0 ρ c1 ∧
  (∀ i d ρ c, ds[i]? = some d → I i ρ c → tg d ρ fun ρ' => body xe { E with nx := I (i + 1), ct := I (i + 1), bk := E.nx } ρ' c) ∧ ∀ ρ c, I ds.length ρ c → E.nx ρ c
theorem sim_for {wi : TI} {mi : DL} {g : TG} {tg : DG} {tb : TS} {body : DS} (hi : SimI K W wi mi) (hg : SimG K g tg) (hb : SimS K W tb body) : SimS K W (tFor wi g tb) (mFor mi tg body) := by
  intro p G0 H0 c G H σ ρ xe N E ws xc er m
  refine hi p G0 H0 c G H σ ρ xe _ _ ws xc m fun ds c1 J G1 H1 m1 g1 w1 it => ?_
  obtain ⟨I, i0, is, ie⟩ := m1
  have ws1 := ws.grow g1 w1
  have er1 : ∀ σ ρ c G H, WS K p G1 H0 c G H σ ρ → WS K p G0 H0 c G H σ ρ := fun _ _ _ _ _ h => h.rebase ws1.gr
  refine ⟨fun i m σ H => ∃ ρ c G, WS K p G1 H0 c G H σ ρ ∧ m = ds.length - i ∧ i ≤ ds.length ∧ I i ρ c, ⟨ds.length, ρ, c1, G1, ws1.at1, by simp, Nat.zero_le _, i0⟩, ?_⟩
  rintro i m σ2 H2 ⟨ρ2, c2, G2, ws2, rfl, hi, q⟩
  by_cases hlt : i < ds.length
  · right
    obtain ⟨i1, _⟩ := it i c2 G2 H2 ws2.gr.ex ws2.wd
    obtain ⟨go, y⟩ := i1 ds[i] (List.getElem?_eq_getElem hlt)
    have q1 := is i ds[i] ρ2 c2 (List.getElem?_eq_getElem hlt) q
    refine ⟨go, fun σ' H' => ∃ ρ c G, WS K p G1 H0 c G H' σ' ρ ∧ I (i + 1) ρ c, fun σ' H' ⟨ρ3, c3, G3, ws3, q3⟩ => ⟨ds.length - (i + 1), by omega, ρ3, c3, G3, ws3, rfl, hlt, q3⟩, fun x H3 hy => ?_⟩
    obtain ⟨G3, g3, w3, r3⟩ := y x H3 hy
    refine hg p G1 H0 c2 G3 H3 σ2 ρ2 x ds[i] _ _ (ws2.grow g3 w3) r3 q1 fun σ4 ρ4 q4 ws4 => ?_
    refine hb p G1 H0 c2 G3 H3 σ4 ρ4 xe _ { E with nx := I (i + 1), ct := I (i + 1), bk := E.nx } ws4 (xc.rebase ws1.gr) ⟨fun σ ρ c G H ws' q' => ⟨ρ, c, G, ws', q'⟩, fun σ ρ c G H ws' q' => er.nx _ _ _ _ _ (er1 _ _ _ _ _ ws') q', fun σ ρ c G H ws' q' => ⟨ρ, c, G, ws', q'⟩, fun v d c G H gr wd rp q' => er.rt v d c G H (ws1.gr.rebase gr) wd rp q', fun v d c F G H gr wd hf rp q' => er.rtN v d c F G H (ws1.gr.rebase gr) wd hf rp q'⟩ q4
  · have e : i = ds.length := by omega
    subst e
    exact .inl ⟨(it ds.length c2 G2 H2 ws2.gr.ex ws2.wd).2 (Nat.le_refl _), er.nx _ _ _ _ _ (er1 _ _ _ _ _ ws2) (ie _ _ q)⟩
/-- turn by turn -/
def mForL (tg : DG) (body : DS) (xe : XP) (E : DEnds) : List D → Ro → Nat → Prop
  | [], ρ, c => E.nx ρ c
  | d :: ds, ρ, c => tg d ρ fun ρ' => body xe { E with nx := fun ρ2 c2 => mForL tg body xe E ds ρ2 c2, ct := fun ρ2 c2 => mForL tg body xe E ds ρ2 c2, bk := E.nx } ρ' c
theorem for_unroll {tg : DG} {body : DS} {xe : XP} {E : DEnds} {ds : List D} {ρ : Ro} {c : Nat} (h : mForL tg body xe E ds ρ c) : ∃ I : Nat → Ro → Nat → Prop, I 0 ρ c ∧
    (∀ i d ρ c, ds[i]? = some d → I i ρ c → tg d ρ fun ρ' => body xe { E with nx := I (i + 1), ct := I (i + 1), bk := E.nx } ρ' c) ∧ ∀ ρ c, I ds.length ρ c → E.nx ρ c := by
  refine ⟨fun i ρ c => mForL tg body xe E (ds.drop i) ρ c, by simpa using h, fun i d ρ c hd q => ?_, fun ρ c q => ?_⟩
  · obtain ⟨hi, e⟩ := List.getElem?_eq_some_iff.mp hd
    have q : mForL tg body xe E (ds.drop i) ρ c := q
    rw [List.drop_eq_getElem_cons hi, e] at q
    exact q
  · have q : mForL tg body xe E (ds.drop ds.length) ρ c := q
    rw [List.drop_length] at q; exact q
def mWhile (mt : DT) (body : DS) : DS := fun xe E ρ c => ∃ V : Nat → Ro → Nat → Prop, (∃ m, V m ρ c) ∧ ∀ m ρ c, V m ρ c →
  mt xe ρ c fun b c1 => if b = true then body xe { E with nx := fun ρ' c' => ∃ m', m' < m ∧ V m' ρ' c', ct := fun ρ' c' => ∃ m', m' < m ∧ V m' ρ' c', bk := E.nx } ρ c1 else E.nx ρ c1
theorem sim_while {t : TT} {mt : DT} {tb : TS} {body : DS} (ht : SimT K W t mt) (hb : SimS K W tb body) : SimS K W (tWhile t tb) (mWhile mt body) := by
  intro p G0 H0 c G H σ ρ xe N E ws xc er m
  obtain ⟨Vv, ⟨m0, v0⟩, turn⟩ := m
  refine ⟨fun m σ H => ∃ ρ c G, WS K p G0 H0 c G H σ ρ ∧ Vv m ρ c, ⟨m0, ρ, c, G, ws, v0⟩, ?_⟩
  rintro m σ2 H2 ⟨ρ2, c2, G2, ws2, v2⟩
  refine ht p G0 H0 c2 G2 H2 σ2 ρ2 xe _ _ ws2 xc (turn m ρ2 c2 v2) fun b c3 G3 H3 q g3 w3 => ?_
  have ws3 := ws2.grow g3 w3
  cases b with
  | true =>
    show ∃ N', _ ∧ _
    refine ⟨fun σ' H' => ∃ m', m' < m ∧ ∃ ρ c G, WS K p G0 H0 c G H' σ' ρ ∧ Vv m' ρ c, fun σ' H' ⟨m', h1, h2⟩ => ⟨m', h1, h2⟩, ?_⟩
    refine hb p G0 H0 c3 G3 H3 σ2 ρ2 xe _ { E with nx := fun ρ' c' => ∃ m', m' < m ∧ Vv m' ρ' c', ct := fun ρ' c' => ∃ m', m' < m ∧ Vv m' ρ' c', bk := E.nx } ws3 xc ⟨fun σ ρ c G H ws' ⟨m', h1, h2⟩ => ⟨m', h1, ρ, c, G, ws', h2⟩, fun σ ρ c G H ws' q' => er.nx _ _ _ _ _ ws' q', fun σ ρ c G H ws' ⟨m', h1, h2⟩ => ⟨m', h1, ρ, c, G, ws', h2⟩, er.rt, er.rtN⟩ q
  | false => exact er.nx _ _ _ _ _ ws3 q

/-! ### comprehensions -/
def wipeR (ρ : Ro) : List Nat → Ro
  | [] => ρ
  | v :: vs => (wipeR ρ vs).set v .no
theorem EnvR.wipe (h : EnvR K p H0 G H σ ρ) : ∀ vs : List Nat, EnvR K p H0 G H (wipe σ vs) (wipeR ρ vs)
  | [] => h
  | v :: vs => by
    show EnvR K p H0 G H ((L2.wipe σ vs).set v none) ((wipeR ρ vs).set v .no)
    exact (EnvR.wipe h vs).setNo
theorem wipe_get (σ : St) (i : Nat) : ∀ vs : List Nat, (wipe σ vs)[i]? = if i ∈ vs then (σ[i]?).map (fun _ => none) else σ[i]?
  | [] => by simp [wipe]
  | v :: vs => by
    show ((L2.wipe σ vs).set v none)[i]? = _
    by_cases e : v = i
    · subst e
      rw [if_pos List.mem_cons_self]
      by_cases hl : v < σ.length
      · rw [List.getElem?_set_self (by rw [wipe_length]; exact hl), List.getElem?_eq_getElem hl]; rfl
      · rw [List.getElem?_eq_none_iff.mpr (by rw [List.length_set, wipe_length]; omega), List.getElem?_eq_none_iff.mpr (by omega)]; rfl
    · rw [List.getElem?_set_ne e, wipe_get σ i vs]
      have : (i ∈ v :: vs) ↔ i ∈ vs := by
        rw [List.mem_cons]
        exact ⟨fun h => h.elim (fun z => absurd z.symm e) id, .inr⟩
      simp only [this]
theorem wipe_set {j : Nat} {vs : List Nat} (hj : j ∈ vs) (σ : St) (x : Option V) : wipe ((wipe σ vs).set j x) vs = wipe σ vs := by
  apply List.ext_getElem?
  intro i
  rw [wipe_get, wipe_get]
  by_cases h : i ∈ vs
  · rw [if_pos h, if_pos h]
    by_cases e : j = i
    · subst e
      by_cases hl : j < σ.length
      · rw [List.getElem?_set_self (by rw [wipe_length]; exact hl), List.getElem?_eq_getElem hl]; rfl
      · rw [List.getElem?_eq_none_iff.mpr (by rw [List.length_set, wipe_length]; omega), List.getElem?_eq_none_iff.mpr (by omega)]
    · rw [List.getElem?_set_ne e, wipe_get, if_pos h]
      cases σ[i]? <;> rfl
  · rw [if_neg h, if_neg h]
    have e : j ≠ i := fun z => h (z ▸ hj)
    rw [List.getElem?_set_ne e, wipe_get, if_neg h]
/-- a comprehension's target: it stores to slots of vs alone -/
def SimGw (K : Cz) (vs : List Nat) (g : TG) (mg : DG) : Prop := ∀ (p : Addr) (G0 H0 : Hp) (c : Nat) (G H : Hp) (σ σ0 : St) (ρ : Ro) (v : V) (d : D) (Q : St → Hp → Prop) (post : Ro → Prop), WS K p G0 H0 c G H σ ρ → wipe σ vs = wipe σ0 vs → Rp K p G v d → mg d ρ post →
  (∀ σ' ρ', post ρ' → WS K p G0 H0 c G H σ' ρ' → wipe σ' vs = wipe σ0 vs → Q σ' H) → g v σ H Q
theorem wipe_set' {j : Nat} {vs : List Nat} (hj : j ∈ vs) (σ : St) (x : Option V) : wipe (σ.set j x) vs = wipe σ vs := by
  apply List.ext_getElem?
  intro i
  rw [wipe_get, wipe_get]
  by_cases h : i ∈ vs
  · rw [if_pos h, if_pos h]
    by_cases e : j = i
    · subst e
      by_cases hl : j < σ.length
      · rw [List.getElem?_set_self hl, List.getElem?_eq_getElem hl]; rfl
      · rw [List.getElem?_eq_none_iff.mpr (by rw [List.length_set]; omega), List.getElem?_eq_none_iff.mpr (by omega)]
    · rw [List.getElem?_set_ne e]
  · rw [if_neg h, if_neg h]
    have e : j ≠ i := fun z => h (z ▸ hj)
    rw [List.getElem?_set_ne e]
theorem wipe_wipe (σ : St) (vs : List Nat) : wipe (wipe σ vs) vs = wipe σ vs := by
  apply List.ext_getElem?
  intro i
  rw [wipe_get, wipe_get]
  split
  · cases σ[i]? <;> rfl
  · rfl
theorem sim_gnw {i : Nat} {vs : List Nat} (hi : i ∈ vs := by decide) : SimGw K vs (gName i) (gN i) := fun p G0 H0 c G H σ σ0 ρ v d Q post ws hw r m k => k _ _ m (ws.setSh r) (by rw [wipe_set' hi]; exact hw)
def SimGsw (K : Cz) (vs : List Nat) (g : TGs) (mg : List D → Ro → (Ro → Prop) → Prop) : Prop := ∀ (p : Addr) (G0 H0 : Hp) (c : Nat) (G H : Hp) (σ σ0 : St) (ρ : Ro) (us : List V) (ds : List D) (Q : St → Hp → Prop) (post : Ro → Prop), WS K p G0 H0 c G H σ ρ → wipe σ vs = wipe σ0 vs → RpL K p G us ds → mg ds ρ post →
  (∀ σ' ρ', post ρ' → WS K p G0 H0 c G H σ' ρ' → wipe σ' vs = wipe σ0 vs → Q σ' H) → g us σ H Q
theorem sim_gsnw {vs : List Nat} : SimGsw K vs gNil gsN := by
  intro p G0 H0 c G H σ σ0 ρ us ds Q post ws hw r m k
  cases r with
  | nil => exact ⟨rfl, k _ _ m ws hw⟩
  | cons => exact m.elim
theorem sim_gscw {vs : List Nat} {g : TG} {mg : DG} {gr : TGs} {mr : List D → Ro → (Ro → Prop) → Prop} (h : SimGw K vs g mg) (hr : SimGsw K vs gr mr) : SimGsw K vs (gCons g gr) (gsC mg mr) := by
  intro p G0 H0 c G H σ σ0 ρ us ds Q post ws hw r m k
  cases r with
  | nil => exact m.elim
  | cons r1 r2 =>
    refine ⟨_, _, rfl, h p G0 H0 c G H σ σ0 ρ _ _ _ _ ws hw r1 m fun σ' ρ' m' ws' hw' => ?_⟩
    exact hr p G0 H0 c G H σ' σ0 ρ' _ _ _ _ ws' hw' r2 m' k
theorem sim_gtw {vs : List Nat} {n : Nat} {g : TGs} {mg : List D → Ro → (Ro → Prop) → Prop} (h : SimGsw K vs g mg) : SimGw K vs (gTup K.K n g) (gT n mg) := by
  intro p G0 H0 c G H σ σ0 ρ v d Q post ws hw r m k
  cases r with
  | tup h1 h2 => exact ⟨_, _, rfl, st_of (ws.wd.sub _ _ h1), by rw [h2.len]; exact m.1, h p G0 H0 c G H σ σ0 ρ _ _ _ _ ws hw h2 m.2 k⟩
  | _ => exact m.elim
def mYes : DT := fun _ _ c Q => Q true c
def mLc (mi : DL) (tg : DG) (mt : DT) (me : DE) (vs : List Nat) : DL := fun xe ρ c Q => mi xe ρ c fun ds c1 => ds.length ≤ 1000000 ∧ ∃ I : Nat → List D → Nat → Prop, I 0 [] c1 ∧
  (∀ i d acc c, ds[i]? = some d → I i acc c → tg d (wipeR ρ vs) fun ρ' => mt xe ρ' c fun b c1 => if b = true then me xe ρ' c1 fun x c2 => I (i + 1) (acc ++ [x]) c2 else I (i + 1) acc c1) ∧ ∀ acc c, I ds.length acc c → Q acc c
theorem sim_lc {wi : TI} {mi : DL} {g : TG} {tg : DG} {tt : TT} {mt : DT} {te : TE} {me : DE} {vs : List Nat} (hi : SimI K W wi mi) (hg : SimGw K vs g tg) (ht : SimT K W tt mt) (he : SimE K W te me) : SimO K W (tLc wi g tt te vs) (mLc mi tg mt me vs) := by
  intro p G0 H0 c G H σ ρ xe Q post ws xc m k
  refine hi p G0 H0 c G H σ ρ xe _ _ ws xc m fun ds c1 J G1 H1 m1 g1 w1 it a ha => ?_
  obtain ⟨mlen, I, i0, is, ie⟩ := m1
  have ws1 := ws.grow g1 w1
  obtain ⟨np, n0, hg1⟩ := ws1.fresh0 ha
  have haH : H a = none := by
    cases q : H a with
    | none => rfl
    | some o => rw [g1.keep a o np q] at ha; cases ha
  have wsw : WS K p G0 H0 c1 G1 H1 (wipe σ vs) (wipeR ρ vs) := ⟨ws1.gr, ws1.wd, ws1.en.wipe vs⟩
  refine ⟨fun i m H' => ∃ acc xs c2 G2, Grow p G1 H1 G2 H' ∧ Wd K p c2 G2 H' ∧ G2 a = none ∧ H' a = some (.lst xs) ∧ RpL K p G2 xs acc ∧ m = ds.length - i ∧ i ≤ ds.length ∧ acc.length ≤ i ∧ I i acc c2,
    ⟨ds.length, [], [], c1, G1, Grow.laidO ha, w1.laidO ha, hg1, upd_same, .nil, by simp, Nat.zero_le _, Nat.zero_le _, i0⟩, ?_⟩
  rintro i m H2 ⟨acc, xs, c2, G2, g2, w2, hga, hha, ra, rfl, hil, hacc, q⟩
  by_cases hlt : i < ds.length
  · right
    have q1 := is i ds[i] acc c2 (List.getElem?_eq_getElem hlt) q
    obtain ⟨i1, _⟩ := it i c2 G2 H2 g2.ex w2
    obtain ⟨go, y⟩ := i1 ds[i] (List.getElem?_eq_getElem hlt)
    refine ⟨go, fun H' => ∃ acc xs c2 G2, Grow p G1 H1 G2 H' ∧ Wd K p c2 G2 H' ∧ G2 a = none ∧ H' a = some (.lst xs) ∧ RpL K p G2 xs acc ∧ acc.length ≤ i + 1 ∧ I (i + 1) acc c2,
      fun H' ⟨acc, xs, c2, G2, a1, a2, a3, a4, a5, a6, a7⟩ => ⟨ds.length - (i + 1), by omega, acc, xs, c2, G2, a1, a2, a3, a4, a5, rfl, hlt, a6, a7⟩, fun x H3 hy => ?_⟩
    obtain ⟨G3, g3, w3, r3⟩ := y x H3 hy
    have stay : ∀ {Ga Ha Gb Hb : Hp} {zs : List V}, Ga a = none → Ha a = some (.lst zs) → Grow p Ga Ha Gb Hb → Gb a = none ∧ Hb a = some (.lst zs) := fun {Ga Ha Gb Hb zs} q1 q2 g => by
      refine ⟨?_, g.keep a _ np q2⟩
      cases q : Gb a with
      | none => rfl
      | some o =>
        rcases g.new a o q with z | z
        · rw [q1] at z; cases z
        · rw [q2] at z; cases z
    have g13 := g2.tr g3 w3
    have ws3 := wsw.grow g13 w3
    obtain ⟨hga3, hha3⟩ := stay hga hha g3
    refine hg p G0 H0 c2 G3 H3 (wipe σ vs) σ (wipeR ρ vs) x ds[i] _ _ ws3 (wipe_wipe _ _) r3 q1 fun σ4 ρ4 q4 ws4 hw4 => ⟨hw4, ?_⟩
    refine ht p G0 H0 c2 G3 H3 σ4 ρ4 xe _ _ ws4 xc q4 fun b c5 G5 H5 q5 g5 w5 => ?_
    obtain ⟨hga5, hha5⟩ := stay hga3 hha3 g5
    cases b with
    | true =>
      refine he p G0 H0 c5 G5 H5 σ4 ρ4 xe _ _ (ws4.grow g5 w5) xc q5 fun d c6 u G6 H6 q6 g6 w6 r6 => ?_
      obtain ⟨hga6, hha6⟩ := stay hga5 hha5 g6
      have g16 := (g13.tr g5 w5).tr g6 w6
      have ra6 : RpL K p G6 xs acc := ((ra.up g3.ex).up g5.ex).up g6.ex
      refine ⟨xs, hha6, by rw [ra6.len]; exact Nat.lt_of_lt_of_le (by omega : acc.length < 1000000) Grow.sz, acc ++ [d], xs ++ [u], c6, G6, ⟨g16.ex, g16.new, fun b o hb z => by rw [upd_ne (ne_of_none z ha)]; exact g16.keep b o hb z, fun zs z => by rw [upd_ne np.symm]; exact g16.pc zs z⟩, ⟨fun b o z => by rw [upd_ne (ne_of_none z hga6)]; exact w6.sub b o z, w6.gp, w6.pl.of (Ex.refl _) fun o z => by rw [upd_ne np.symm]; exact z⟩, hga6, upd_same, ra6.append (.cons r6 .nil), by simp; omega, q6⟩
    | false =>
      exact ⟨acc, xs, c5, G5, g13.tr g5 w5, w5, hga5, hha5, (ra.up g3.ex).up g5.ex, by omega, q5⟩
  · have e : i = ds.length := by omega
    subst e
    exact .inl ⟨(it ds.length c2 G2 H2 g2.ex w2).2 (Nat.le_refl _), k acc c2 a xs G2 H2 (ie _ _ q) (g1.tr g2 w2) w2 haH hga hha ra⟩
theorem sim_yes : SimT K W tYes mYes := fun p G0 H0 c G H σ ρ xe Q post ws xc m k => k true c G H m .refl ws.wd
end

/-! ### a def -/
section
variable {P : Program} {w : World} {K : PySem.W.Frag} {mg : Str → Option Value} {base : Heap}
def ro0 (N : List Str) (ds : List D) : Ro := ds.map S.sh ++ List.replicate (N.length - ds.length) S.no
theorem env_start {K : Cz} {p : Addr} {H0 G H : Hp} {N : List Str} {vs : List V} {ds : List D} (r : RpL K p G vs ds) : EnvR K p H0 G H (L2.start N vs) (ro0 N ds) := by
  have hl := r.len
  have shape : ∀ (i : Nat) (s : S), (ro0 N ds)[i]? = some s → (∃ d, s = .sh d ∧ ds[i]? = some d) ∨ s = .no := fun i s b => by
    unfold ro0 at b
    by_cases hi : i < ds.length
    · rw [List.getElem?_append_left (by simpa using hi), List.getElem?_map, List.getElem?_eq_getElem hi] at b
      exact .inl ⟨ds[i], (Option.some.inj b).symm, List.getElem?_eq_getElem hi⟩
    · rw [List.getElem?_append_right (by simpa using Nat.le_of_not_lt hi)] at b
      obtain ⟨q1, q2⟩ := List.getElem?_eq_some_iff.mp b
      rw [List.getElem_replicate] at q2
      exact .inr q2.symm
  refine ⟨by simp [L2.start, ro0, hl], fun i o s a b => ?_, fun i j o o' s s' n _ e1 _ _ b z => ?_⟩
  · rcases shape i s b with ⟨d, rfl, hd⟩ | rfl
    · obtain ⟨v, h1, h2⟩ := r.get hd
      have hi : i < vs.length := (List.getElem?_eq_some_iff.mp h1).1
      unfold L2.start at a
      rw [List.getElem?_append_left (by simpa using hi), List.getElem?_map, h1] at a
      have a' : some v = o := Option.some.inj a
      subst a'
      exact .sh h2
    · exact .no
  · rcases shape i s e1 with ⟨d, rfl, _⟩ | rfl
    · exact absurd z reg_sh
    · exact absurd z reg_no
/-- what is new, frozen -/
theorem melt_ends {K : Cz} {p : Addr} {G H F G' H' : Hp} {c : Nat} (g : Grow p G H G' H') (w : Wd K p c G' H') (hf : ∀ a o, F a = some o → G' a = none ∧ H a = none ∧ a ≠ p ∧ H' a = some o) : Grow p G H (mrg G' F) H' ∧ Wd K p c (mrg G' F) H' := by
  have ex : Ex G' (mrg G' F) := mg_ex fun a o q => (hf a o q).1
  have inv : ∀ a o, mrg G' F a = some o → F a = some o ∨ G' a = some o := fun a o q => by
    unfold mrg at q
    cases z : F a with
    | none => rw [z] at q; exact .inr q
    | some u => rw [z] at q; exact .inl q
  refine ⟨⟨g.ex.trans ex, fun a o q => (inv a o q).elim (fun z => .inr (hf a o z).2.1) (g.new a o), g.keep, g.pc⟩, fun a o q => (inv a o q).elim (fun z => (hf a o z).2.2.2) (w.sub a o), ?_, w.pl.of ex fun _ q => q⟩
  cases q : mrg G' F p with
  | none => rfl
  | some o =>
    rcases inv p o q with z | z
    · exact absurd rfl (hf p o z).2.2.1
    · rw [w.gp] at z; cases z
/-- a def that lets nothing out -/
theorem fnS0 {x qual : Str} {st : Stmt} {f : Addr} {fd : FuncData} {N ps : List Str} {k : Nat} {mf : DF} {mb : DS} (F : Fun K x qual st f fd) (S : FnScope N ps (defScope st))
    (hb : ∀ (cdv : Value) (A : Around) (outer : List Env) (s : Shared) (H : Hp) (E : XK), Room k (A.deeper (envOfC qual (defScope st) s.heap.objs.size f cdv)) →
      ∃ t, PSs (cxOf CX0 P w K mg base N qual (defScope st) f cdv A outer s H E).nox (defBody st) t ∧ SimS ⟨K, mg⟩ (fun _ _ _ _ => False) t mb)
    (hm : ∀ ds c xe rt, mf xe ds c rt → ds.length = ps.length ∧ mb (fun _ _ _ => False) { nx := fun _ c' => rt .non c', rt := rt, rtN := rt } (ro0 N ds) c) : FnOk P w K mg base CX0 (k + 1) f fd ps (spS ⟨K, mg⟩ mf) := by
  refine F.ok S (fun vs H Q E h => ?_) (fun cdv A outer s H vs Q E hr h => ?_)
  · obtain ⟨p, G, c, ds, xe, rt, w1, r, q, _⟩ := h
    rw [r.len]; exact (hm ds c xe rt q).1
  · obtain ⟨p, G, c, ds, xe, rt, w1, r, q, k1, k2⟩ := h
    obtain ⟨t, h1, h2⟩ := hb cdv A outer s H E hr
    refine ⟨t, h1, h2 p G H c G H _ _ (fun _ _ _ => False) _ { nx := fun _ c' => rt .non c', rt := rt, rtN := rt } ⟨.refl, w1, env_start r⟩ (fun _ _ _ _ _ _ _ _ _ _ z => z) ⟨fun σ ρ c G' H' ws z => k1 _ _ _ _ _ z ws.gr ws.wd .non, fun σ ρ c G' H' ws z => z, fun σ ρ c G' H' ws z => z, fun v d c G' H' gr wd rp z => k1 _ _ _ _ _ z gr wd rp, fun v d c F G' H' gr wd hf rp z => let m := melt_ends gr wd hf; k1 _ _ _ _ _ z m.1 m.2 rp.rp⟩ (hm ds c xe rt q).2⟩
/-- a def that errors may leave -/
theorem fnSX {x qual : Str} {st : Stmt} {f : Addr} {fd : FuncData} {N ps : List Str} {k : Nat} {mf : DF} {mb : DS} (F : Fun K x qual st f fd) (S : FnScope N ps (defScope st))
    (hb : ∀ (cdv : Value) (A : Around) (outer : List Env) (s : Shared) (H : Hp) (E : XK), Room k (A.deeper (envOfC qual (defScope st) s.heap.objs.size f cdv)) →
      ∃ t, PSs (cxOf (L2.CX P w) P w K mg base N qual (defScope st) f cdv A outer s H E) (defBody st) t ∧ SimS ⟨K, mg⟩ (fun cls d _ H => E cls d H) t mb)
    (hm : ∀ ds c xe rt, mf xe ds c rt → ds.length = ps.length ∧ mb (fun e _ c' => xe e c') { nx := fun _ c' => rt .non c', rt := rt, rtN := rt } (ro0 N ds) c) : FnOk P w K mg base (L2.CX P w) (k + 1) f fd ps (spS ⟨K, mg⟩ mf) := by
  refine F.okX S (fun vs H Q E h => ?_) (fun cdv A outer s H vs Q E hr h => ?_)
  · obtain ⟨p, G, c, ds, xe, rt, w1, r, q, _⟩ := h
    rw [r.len]; exact (hm ds c xe rt q).1
  · obtain ⟨p, G, c, ds, xe, rt, w1, r, q, k1, k2⟩ := h
    obtain ⟨t, h1, h2⟩ := hb cdv A outer s H E hr
    refine ⟨t, h1, h2 p G H c G H _ _ (fun e _ c' => xe e c') _ { nx := fun _ c' => rt .non c', rt := rt, rtN := rt } ⟨.refl, w1, env_start r⟩ (fun e ρ c σ G' H' cls d ws er z => k2 e c cls d G' H' z ws.gr ws.wd er) ⟨fun σ ρ c G' H' ws z => k1 _ _ _ _ _ z ws.gr ws.wd .non, fun σ ρ c G' H' ws z => z, fun σ ρ c G' H' ws z => z, fun v d c G' H' gr wd rp z => k1 _ _ _ _ _ z gr wd rp, fun v d c F G' H' gr wd hf rp z => let m := melt_ends gr wd hf; k1 _ _ _ _ _ z m.1 m.2 rp.rp⟩ (hm ds c xe rt q).2⟩
/-- a def whose answer is new -/
def spF (K : Cz) (f : DF) : Sp := fun vs H Q E => ∃ (p : Addr) (G : Hp) (c : Nat) (ds : List D) (xe : Err → Nat → Prop) (rt : D → Nat → Prop), Wd K p c G H ∧ RpL K p G vs ds ∧ f xe ds c rt ∧
  (∀ d c' v F G' H', rt d c' → Grow p G H G' H' → Wd K p c' G' H' → (∀ a o, F a = some o → G' a = none ∧ H a = none ∧ a ≠ p ∧ H' a = some o) → RpN K p G' F v d → Q v H') ∧ (∀ e c' cls dd G' H', xe e c' → Grow p G H G' H' → Wd K p c' G' H' → ErrR K p G' cls dd e → E cls dd H')
theorem spF_imp {K : Cz} {f : DF} : ∀ vs H Q E, spS K f vs H Q E → spF K f vs H Q E := fun vs H Q E ⟨p, G, c, ds, xe, rt, w1, r, q, k1, k2⟩ =>
  ⟨p, G, c, ds, xe, rt, w1, r, q, fun d c' v F G' H' z gr wd hf rp => let m := melt_ends gr wd hf; k1 d c' v _ H' z m.1 m.2 rp.rp, k2⟩
theorem fnF0 {x qual : Str} {st : Stmt} {f : Addr} {fd : FuncData} {N ps : List Str} {k : Nat} {mf : DF} {mb : DS} (F : Fun K x qual st f fd) (S : FnScope N ps (defScope st))
    (hb : ∀ (cdv : Value) (A : Around) (outer : List Env) (s : Shared) (H : Hp) (E : XK), Room k (A.deeper (envOfC qual (defScope st) s.heap.objs.size f cdv)) →
      ∃ t, PSs (cxOf CX0 P w K mg base N qual (defScope st) f cdv A outer s H E).nox (defBody st) t ∧ SimS ⟨K, mg⟩ (fun _ _ _ _ => False) t mb)
    (hm : ∀ ds c xe rt, mf xe ds c rt → ds.length = ps.length ∧ mb (fun _ _ _ => False) { nx := fun _ c' => rt .non c', rt := fun _ _ => False, rtN := rt } (ro0 N ds) c) : FnOk P w K mg base CX0 (k + 1) f fd ps (spF ⟨K, mg⟩ mf) := by
  refine F.ok S (fun vs H Q E h => ?_) (fun cdv A outer s H vs Q E hr h => ?_)
  · obtain ⟨p, G, c, ds, xe, rt, w1, r, q, _⟩ := h
    rw [r.len]; exact (hm ds c xe rt q).1
  · obtain ⟨p, G, c, ds, xe, rt, w1, r, q, k1, k2⟩ := h
    obtain ⟨t, h1, h2⟩ := hb cdv A outer s H E hr
    refine ⟨t, h1, h2 p G H c G H _ _ (fun _ _ _ => False) _ { nx := fun _ c' => rt .non c', rt := fun _ _ => False, rtN := rt } ⟨.refl, w1, env_start r⟩ (fun _ _ _ _ _ _ _ _ _ _ z => z) ⟨fun σ ρ c G' H' ws z => k1 _ _ _ (fun _ => none) _ _ z ws.gr ws.wd (fun _ _ q => nomatch q) .non, fun σ ρ c G' H' ws z => z, fun σ ρ c G' H' ws z => z, fun v d c G' H' gr wd rp z => z.elim, fun v d c F G' H' gr wd hf rp z => k1 _ _ _ _ _ _ z gr wd hf rp⟩ (hm ds c xe rt q).2⟩
end

/-! ### new answers: expressions -/
section
variable {K : Cz} {W : WX}
variable {p : Addr} {G0 H0 G H G' H' : Hp} {c c' : Nat} {σ : St} {ρ : Ro}
def SimF (K : Cz) (W : WX) (te : TE) (me : DE) : Prop := ∀ (p : Addr) (G0 H0 : Hp) (c : Nat) (G H : Hp) (σ : St) (ρ : Ro) (xe : XP) (Q : VK) (post : D → Nat → Prop), WS K p G0 H0 c G H σ ρ → Xc K p G0 H0 xe W → me xe ρ c post →
  (∀ d c' v F G' H', post d c' → Grow p G H G' H' → Wd K p c' G' H' → (∀ a o, F a = some o → G' a = none ∧ H0 a = none ∧ a ≠ p ∧ H' a = some o) → RpN K p G' F v d → Q v H') → te σ H Q
def SimAF (K : Cz) (W : WX) (te : TA) (me : DL) : Prop := ∀ (p : Addr) (G0 H0 : Hp) (c : Nat) (G H : Hp) (σ : St) (ρ : Ro) (xe : XP) (Q : List V → Hp → Prop) (post : List D → Nat → Prop), WS K p G0 H0 c G H σ ρ → Xc K p G0 H0 xe W → me xe ρ c post →
  (∀ ds c' vs F G' H', post ds c' → Grow p G H G' H' → Wd K p c' G' H' → (∀ a o, F a = some o → G' a = none ∧ H0 a = none ∧ a ≠ p ∧ H' a = some o) → vs.length = ds.length → (∀ (i : Nat) (v : V) (d : D), vs[i]? = some v → ds[i]? = some d → RpN K p G' F v d) → Q vs H') → te σ H Q
theorem sim_FO {te : TE} {mo : DL} (h : SimO K W te mo) : SimF K W te (mFrz mo) := by
  intro p G0 H0 c G H σ ρ xe Q post ws xc m k
  refine h p G0 H0 c G H σ ρ xe _ _ ws xc m fun l c1 a xs G1 H1 m1 g1 w1 ha hg hh r => ?_
  obtain ⟨np, n0, _⟩ := ws.fresh0 ha
  refine k _ c1 _ (one a (.lst xs)) G1 H1 m1 g1 w1 (fun b o q => ?_) (.lst (if_pos rfl) (r.up (mg_ex fun b o q => ?_)))
  · obtain ⟨rfl, rfl⟩ := one_at q; exact ⟨hg, n0, np, hh⟩
  · obtain ⟨rfl, rfl⟩ := one_at q; exact hg
/-- an own list, handed out -/
def mVarO (i : Nat) : DE := fun _ ρ c Q => match ρ[i]? with | some (.own l) => Q (.lst l) c | _ => False
theorem sim_varO {i : Nat} : SimF K W (tVar i) (mVarO i) := by
  intro p G0 H0 c G H σ ρ xe Q post ws xc m k
  unfold mVarO at m
  split at m
  · rename_i l e
    obtain ⟨a, xs, e2, np, n0, hg, hh, r⟩ := ws.en.own e
    refine ⟨_, e2, k _ c _ (one a (.lst xs)) G H m .refl ws.wd (fun b o q => ?_) (.lst (if_pos rfl) (r.up (mg_ex fun b o q => ?_)))⟩
    · obtain ⟨rfl, rfl⟩ := one_at q; exact ⟨hg, n0, np, hh⟩
    · obtain ⟨rfl, rfl⟩ := one_at q; exact hg
  · exact m.elim
/-- a number, a text, none, a truth value -/
def D.scal : D → Bool | .non | .bl _ | .int _ | .str _ => true | _ => false
def mSc (me : DE) : DE := fun xe ρ c Q => me xe ρ c fun d c1 => d.scal = true ∧ Q d c1
theorem sim_FE {te : TE} {me : DE} (h : SimE K W te me) : SimF K W te (mSc me) := by
  intro p G0 H0 c G H σ ρ xe Q post ws xc m k
  refine h p G0 H0 c G H σ ρ xe _ _ ws xc m fun d c1 v G1 H1 m1 g1 w1 r => ?_
  have r' : RpN K p G1 (fun _ => none) v d := by
    cases r with
    | non => exact .non
    | bl b => exact .bl b
    | int b => exact .int b
    | str b => exact .str b
    | _ => simp [D.scal] at m1
  exact k _ c1 _ (fun _ => none) G1 H1 m1.2 g1 w1 (fun _ _ q => nomatch q) r'
theorem sim_nilF : SimAF K W tNil mNil := fun p G0 H0 c G H σ ρ xe Q post ws xc m k => k [] c [] (fun _ => none) G H m .refl ws.wd (fun _ _ q => nomatch q) rfl fun i v d a _ => by simp at a
def uF (F1 F2 : Hp) : Hp := fun a => match F1 a with | some o => some o | none => F2 a
theorem RpN.more {F F' : Hp} {v : V} {d : D} (h : RpN K p G F v d) (e : Ex F F') (e2 : Ex (mrg G F) (mrg G' F')) : RpN K p G' F' v d := by
  induction h with
  | lst h1 h2 => exact .lst (e _ _ h1) (h2.up e2)
  | tup h1 h2 _ ih => exact .tup (e _ _ h1) h2 ih
  | non => exact .non
  | bl b => exact .bl b
  | int b => exact .int b
  | str b => exact .str b
theorem sim_consF {ta : TE} {ma : DE} {tr : TA} {mr : DL} (ha : SimF K W ta ma) (hr : SimAF K W tr mr) : SimAF K W (tCons ta tr) (mCons ma mr) := by
  intro p G0 H0 c G H σ ρ xe Q post ws xc m k
  refine ha p G0 H0 c G H σ ρ xe _ _ ws xc m fun d c1 v F1 G1 H1 m1 g1 w1 f1 r1 => ?_
  refine hr p G0 H0 c1 G1 H1 σ ρ xe _ _ (ws.grow g1 w1) xc m1 fun es c2 us F2 G2 H2 m2 g2 w2 f2 l2 r2 => ?_
  have f1' : ∀ a o, F1 a = some o → G2 a = none ∧ H0 a = none ∧ a ≠ p ∧ H2 a = some o := fun a o q => by
    obtain ⟨q1, q2, q3, q4⟩ := f1 a o q
    obtain ⟨z1, z2⟩ := g2.stay q1 q4 q3
    exact ⟨z1, q2, q3, z2⟩
  have ef1 : Ex F1 (uF F1 F2) := fun a o q => by unfold uF; rw [q]
  have ef2 : Ex F2 (uF F1 F2) := fun a o q => by
    unfold uF
    cases z : F1 a with
    | none => exact q
    | some u =>
      have y1 := (f1' a u z).2.2.2
      have y2 := (f2 a o q).2.2.2
      rw [y1] at y2
      exact y2
  have fu : ∀ a o, uF F1 F2 a = some o → G2 a = none ∧ H0 a = none ∧ a ≠ p ∧ H2 a = some o := fun a o q => by
    unfold uF at q
    cases z : F1 a with
    | none => rw [z] at q; exact f2 a o q
    | some u => rw [z] at q; exact f1' a o (z.trans q)
  have em : ∀ {F : Hp} {Ga : Hp}, Ex F (uF F1 F2) → Ex Ga G2 → Ex (mrg Ga F) (mrg G2 (uF F1 F2)) := fun {F Ga} e1 e2 a o q => by
    unfold mrg at q
    cases z : F a with
    | some u => rw [z] at q; rw [mg_at (e1 a u z)]; exact q
    | none =>
      rw [z] at q
      exact mg_ex (fun b u y => (fu b u y).1) a o (e2 a o q)
  refine k (d :: es) c2 (v :: us) (uF F1 F2) G2 H2 m2 (g1.tr g2 w2) w2 fu (by simp [l2]) fun i x y a b => ?_
  cases i with
  | zero => cases a; cases b; exact r1.more ef1 (em ef1 g2.ex)
  | succ i => exact (r2 i x y (by simpa using a) (by simpa using b)).more ef2 (em ef2 (Ex.refl _))
theorem sim_tupF {ta : TA} {ma : DL} (ha : SimAF K W ta ma) : SimF K W (tTup ta) (mTup ma) := by
  intro p G0 H0 c G H σ ρ xe Q post ws xc m k
  refine ha p G0 H0 c G H σ ρ xe _ _ ws xc m fun ds c1 vs F G1 H1 m1 g1 w1 f1 l1 r1 => ?_
  refine ⟨by rw [l1]; exact Nat.le_trans m1.1 Grow.sz, fun a ha => ?_⟩
  have ws1 := ws.grow g1 w1
  obtain ⟨np, n0, hg⟩ := ws1.fresh0 ha
  have hFa : F a = none := by
    cases q : F a with
    | none => rfl
    | some u => have := (f1 a u q).2.2.2; rw [ha] at this; cases this
  have e1 : Ex F (upd F a (.tup vs)) := Ex.new hFa
  have e2 : Ex (mrg G1 F) (mrg G1 (upd F a (.tup vs))) := fun b o q => by
    unfold mrg at q
    cases z : F b with
    | some u => rw [z] at q; rw [mg_at (e1 b u z)]; exact q
    | none =>
      rw [z] at q
      have nb : b ≠ a := fun y => by subst y; rw [hg] at q; cases q
      unfold mrg
      rw [upd_ne nb, z]
      exact q
  have g2 : Grow p G1 H1 G1 (upd H1 a (.tup vs)) := Grow.laidO ha
  have w2 := w1.laidO (o := .tup vs) ha
  refine k _ c1 _ (upd F a (.tup vs)) _ _ m1.2 (g1.tr g2 w2) w2 (fun b o q => ?_) (.tup upd_same l1 fun i v d x y => (r1 i v d x y).more e1 e2)
  by_cases z : b = a
  · subst z; rw [upd_same] at q; cases q; exact ⟨hg, n0, np, upd_same⟩
  · rw [upd_ne z] at q
    obtain ⟨q1, q2, q3, q4⟩ := f1 b o q
    exact ⟨q1, q2, q3, by rw [upd_ne z]; exact q4⟩
def mRetF (me : DE) : DS := fun xe E ρ c => me xe ρ c fun d c1 => E.rtN d c1
theorem sim_retF {te : TE} {me : DE} (h : SimF K W te me) : SimS K W (tRet te) (mRetF me) := by
  intro p G0 H0 c G H σ ρ xe D E ws xc er m
  exact h p G0 H0 c G H σ ρ xe _ _ ws xc m fun d c1 v F G1 H1 m1 g1 w1 f1 r1 => er.rtN v d c1 F G1 H1 (ws.gr.trans w1.gp g1) w1 f1 r1 m1
/-- x = f(..), the answer new -/
def mAsgF (f : DF) (ma : DL) (i : Nat) : DS := fun xe E ρ c => ma xe ρ c fun ds c1 => f (fun _ _ => False) ds c1 fun d c2 => ∀ F, E.nx (ρ.set i (.frs F d)) c2
theorem sim_asgF {f : DF} {ta : TA} {ma : DL} {i : Nat} (ha : SimA K W ta ma) : SimS K W (tAsg (tCall (spF K f) [] E0 ta) (gName i)) (mAsgF f ma i) := by
  intro p G0 H0 c G H σ ρ xe N E ws xc er m
  refine ha p G0 H0 c G H σ ρ xe _ _ ws xc m fun ds c1 vs G1 H1 m1 g1 w1 r1 => ?_
  rw [List.append_nil]
  have ws1 := ws.grow g1 w1
  refine ⟨p, G1, c1, ds, _, _, w1, r1, m1, fun d c2 v F G2 H2 m2 g2 w2 f2 r2 => ?_, fun e c2 cls dd G2 H2 m2 g2 w2 r2 => m2⟩
  have ws2 := ws1.grow g2 w2
  refine er.nx _ _ _ _ _ ⟨ws2.gr, ws2.wd, ws2.en.put (.frs (fun a o q => ?_) r2) fun j o s' ne e1 e2 b z y => ?_⟩ (m2 F)
  · obtain ⟨q1, q2, q3, q4⟩ := f2 a o q
    exact ⟨q1, (ws1.fresh0 q2).2.1, q3, q4⟩
  · obtain ⟨u, hu⟩ := (ws1.en.sl j o s' e1 e2).reg_in y
    have z' : F b ≠ none := by cases v <;> exact z
    cases q : F b with
    | none => exact z' q
    | some u' => rw [(f2 b u' q).2.1] at hu; cases hu
/-- a change in what a slot has of its own; the slot is forgotten -/
theorem WS.spoil {i : Nat} {v : V} {F : Hp} {d : D} {a : Addr} {o u : HO} (h : WS K p G0 H0 c G H σ ρ) (e2 : σ[i]? = some (some v)) (e : ρ[i]? = some (.frs F d)) (ha : F a = some o) : WS K p G0 H0 c G (upd H a u) σ (ρ.set i .no) := by
  have il : i < ρ.length := (List.getElem?_eq_some_iff.mp e).1
  obtain ⟨v', e2', hf, r⟩ := h.en.frs e
  rw [e2] at e2'; cases e2'
  obtain ⟨hg, n0, np, hh⟩ := hf a o ha
  have ra : (S.frs F d).reg (some v) a := by
    have : F a ≠ none := by rw [ha]; exact nofun
    cases v <;> exact this
  have no_of : ∀ (j : Nat) (s : S), (ρ.set i .no)[j]? = some s → (j = i ∧ s = .no) ∨ (j ≠ i ∧ ρ[j]? = some s) := fun j s q => by
    by_cases z : i = j
    · subst z; rw [List.getElem?_set_self il] at q; cases q; exact .inl ⟨rfl, rfl⟩
    · rw [List.getElem?_set_ne z] at q; exact .inr ⟨Ne.symm z, q⟩
  refine ⟨⟨h.gr.ex, h.gr.new, fun b w hb q => ?_, fun zs q => ?_⟩, ⟨fun b w q => ?_, h.wd.gp, h.wd.pl.of (Ex.refl _) fun w q => by rw [upd_ne np.symm]; exact q⟩, by simp [h.en.len], fun j o' s q1 q2 => ?_, fun j k o1 o2 s s' ne q1 q2 q3 q4 b z y => ?_⟩
  · rw [upd_ne (ne_of_none q n0)]; exact h.gr.keep b w hb q
  · obtain ⟨us, h1, h2⟩ := h.gr.pc zs q
    exact ⟨us, by rw [upd_ne np.symm]; exact h1, h2⟩
  · rw [upd_ne (ne_of_none q hg)]; exact h.wd.sub b w q
  · rcases no_of j s q2 with ⟨_, rfl⟩ | ⟨nj, q2⟩
    · exact .no
    · exact (h.en.sl j o' s q1 q2).apart fun y => h.en.dis i j _ o' _ s (Ne.symm nj) e2 e q1 q2 a ra y
  · rcases no_of j s q2 with ⟨_, rfl⟩ | ⟨_, q2⟩
    · exact reg_no z
    · rcases no_of k s' q4 with ⟨_, rfl⟩ | ⟨_, q4⟩
      · exact reg_no y
      · exact h.en.dis j k o1 o2 s s' ne q1 q2 q3 q4 b z y
/-- told.append(e), told new and not looked at again -/
def mSpoil (i : Nat) (me : DE) : DS := fun xe E ρ c => match ρ[i]? with | some (.frs _ (.lst l)) => l.length < 1000000 ∧ me xe ρ c fun _ c1 => E.nx (ρ.set i .no) c1 | _ => False
theorem sim_spoil {i : Nat} {te : TE} {me : DE} (h : SimE K W te me) : SimS K W (tDrop (tBM K.K "list" rAppend (tVar i) (tCons te tNil))) (mSpoil i me) := by
  intro p G0 H0 c G H σ ρ xe N E ws xc er m
  unfold mSpoil at m
  split at m
  · rename_i F l e
    obtain ⟨v, e2, hf, r⟩ := ws.en.frs e
    cases r with
    | lst h1 h2 =>
      refine ⟨_, e2, Or.inl ⟨rfl, _, sq_of (hf _ _ h1).2.2.2⟩, ?_⟩
      refine h p G0 H0 c G H σ ρ xe _ _ ws xc m.2 fun d c1 v G1 H1 m1 g1 w1 r1 => ?_
      have ws1 := ws.grow g1 w1
      obtain ⟨v', e2', hf', r'⟩ := ws1.en.frs e
      rw [e2] at e2'; cases e2'
      refine ⟨_, _, v, rfl, rfl, (hf' _ _ h1).2.2.2, by rw [h2.len]; exact Nat.lt_of_lt_of_le m.1 Grow.sz, ?_⟩
      exact er.nx _ _ _ _ _ (ws1.spoil e2 e h1) m1
  · exact m.elim
/-- x = told[k]; x.append(e), told new and neither looked at again -/
def mSpoilK (i j : Nat) (k : Int) (me : DE) (m3 : DS) : DS := fun xe E ρ c => match ρ[i]? with
  | some (.frs _ (.tup l)) => (match atI l k with
    | some (.lst l') => (l'.length < 1000000 ∧ i ≠ j ∧ j < ρ.length) ∧ me xe (ρ.set j .no) c fun _ c1 => m3 xe E ((ρ.set j .no).set i .no) c1
    | _ => False)
  | _ => False
theorem sim_spoilK {i j : Nat} {k : Int} {te : TE} {me : DE} {t3 : TS} {m3 : DS} (h : SimE K W te me) (h3 : SimS K W t3 m3) :
    SimS K W (tSeq (tAsg (tOp (rIx K.K) (tVar i) (tC (.int k))) (gName j)) (tSeq (tDrop (tBM K.K "list" rAppend (tVar j) (tCons te tNil))) t3)) (mSpoilK i j k me m3) := by
  intro p G0 H0 c G H σ ρ xe N E ws xc er m
  unfold mSpoilK at m
  split at m
  · rename_i F l e
    split at m
    · rename_i l' hk
      obtain ⟨⟨m0, nij, hj0⟩, m⟩ := m
      obtain ⟨v, e2, hf, r⟩ := ws.en.frs e
      cases r with
      | @tup a xs _ h1 h2 h3' =>
        -- the item
        have hx : ∃ u, atI xs k = some u ∧ RpN K p G F u (.lst l') := by
          unfold atI at hk ⊢
          rw [h2]
          cases q : ixN l.length k with
          | none => rw [q] at hk; cases hk
          | some n =>
            rw [q] at hk
            have hn : n < l.length := (List.getElem?_eq_some_iff.mp hk).1
            have hn' : n < xs.length := by rw [h2]; exact hn
            exact ⟨xs[n], List.getElem?_eq_getElem hn', h3' n _ _ (List.getElem?_eq_getElem hn') hk⟩
        obtain ⟨u, hu, ru⟩ := hx
        cases ru with
        | @lst b ys _ y1 y2 =>
          refine ⟨_, e2, .inr (.inl ⟨a, xs, k, .ref b, rfl, rfl, st_of (hf _ _ h1).2.2.2, hu, ?_⟩)⟩
          -- x holds it
          have jl : ∀ (hj : j < σ.length), (σ.set j (some (.ref b)))[j]? = some (some (.ref b)) := fun hj => List.getElem?_set_self hj
          have hj : j < σ.length := by rw [ws.en.len]; exact hj0
          · refine ⟨.ref b, jl hj, Or.inl ⟨rfl, _, sq_of (hf _ _ y1).2.2.2⟩, ?_⟩
            have ws1 : WS K p G0 H0 c G H (σ.set j (some (.ref b))) (ρ.set j .no) := ws.setNo
            refine h p G0 H0 c G H _ _ xe _ _ ws1 xc m fun d c1 v G1 H1 m1 g1 w1 r1 => ?_
            have ws2 := ws1.grow g1 w1
            have e' : (ρ.set j .no)[i]? = some (.frs F (.tup l)) := by rw [List.getElem?_set_ne (Ne.symm nij)]; exact e
            have e2' : (σ.set j (some (.ref b)))[i]? = some (some (.ref a)) := by rw [List.getElem?_set_ne (Ne.symm nij)]; exact e2
            obtain ⟨v', q1, hf', r'⟩ := ws2.en.frs e'
            refine ⟨_, _, v, rfl, rfl, (hf' _ _ y1).2.2.2, by rw [y2.len]; exact Nat.lt_of_lt_of_le m0 Grow.sz, ?_⟩
            exact h3 p G0 H0 c1 G1 _ _ _ xe N E (ws2.spoil e2' e' y1) xc er m1
    · exact m.elim
  · exact m.elim
end
end Dm

namespace Dm
open PySem L2 Evl

/-! ### == of data -/
mutual
def D.eqv : D → D → Bool
  | .non, .non => true
  | .bl a, .bl b => a == b
  | .bl a, .int j => (if a then 1 else 0) == j
  | .int i, .bl b => i == (if b then 1 else 0)
  | .int i, .int j => i == j
  | .str x, .str y => x == y
  | .lst xs, .lst ys => D.eqvL xs ys
  | .tup xs, .tup ys => D.eqvL xs ys
  | _, _ => false
def D.eqvL : List D → List D → Bool
  | [], [] => true
  | x :: xs, y :: ys => D.eqv x y && D.eqvL xs ys
  | _, _ => false
end
mutual
/-- none, bools, ints, texts, lists and tuples of them, at most n deep -/
def D.ok : Nat → D → Bool
  | _, .non | _, .bl _ | _, .int _ => true
  | _, .str x => PyData.strOk x
  | 0, .lst _ | 0, .tup _ => false
  | n + 1, .lst l | n + 1, .tup l => D.okL n l
  | _, .ins _ _ | _, .pool => false
def D.okL : Nat → List D → Bool
  | _, [] => true
  | n, d :: ds => D.ok n d && D.okL n ds
end
mutual
def py : D → PyData
  | .non => .none
  | .bl b => .bool b
  | .int i => .int i
  | .str x => .str x
  | .lst l => .list (pyL l)
  | .tup l => .tuple (pyL l)
  | _ => .none
def pyL : List D → List PyData
  | [] => []
  | d :: ds => py d :: pyL ds
end
section
variable {K : Cz} {W : WX} {p : Addr} {G H : Hp} {c : Nat}
mutual
theorem dp_of (w : Ex G H) : ∀ (n : Nat) (d : D) (v : V), D.ok n d = true → Rp K p G v d → Dp K.K H v (py d)
  | n, .non, _, _, h => by cases h; exact .non
  | n, .bl _, _, _, h => by cases h; exact .bl _
  | n, .int _, _, _, h => by cases h; exact .int _
  | n, .str _, _, _, h => by cases h; exact .str _
  | 0, .lst l, _, o, h => by simp [D.ok] at o
  | 0, .tup l, _, o, h => by simp [D.ok] at o
  | n + 1, .lst l, _, o, h => by
    cases h with
    | lst h1 h2 => exact .lst (sq_of (w _ _ h1)) (dpL_of w n l _ (by simpa [D.ok] using o) h2)
  | n + 1, .tup l, _, o, h => by
    cases h with
    | tup h1 h2 => exact .tup (st_of (w _ _ h1)) (dpL_of w n l _ (by simpa [D.ok] using o) h2)
  | n, .ins _ _, _, o, _ => by cases n <;> simp [D.ok] at o
  | n, .pool, _, o, _ => by cases n <;> simp [D.ok] at o
theorem dpL_of (w : Ex G H) : ∀ (n : Nat) (ds : List D) (vs : List V), D.okL n ds = true → RpL K p G vs ds → DpAll K.K H vs (pyL ds)
  | n, [], _, _, h => by cases h; exact .nil
  | n, d :: ds, _, o, h => by
    rw [D.okL, Bool.and_eq_true] at o
    cases h with
    | cons h1 h2 => exact .cons (dp_of w n d _ o.1 h1) (dpL_of w n ds _ o.2 h2)
end
mutual
theorem lay_of : ∀ (n : Nat) (d : D), D.ok n d = true → PyData.canLay0 (py d) = true ∧ (py d).depth ≤ n
  | n, .non, _ => by simp [py, PyData.canLay0, PyData.depth]
  | n, .bl _, _ => by simp [py, PyData.canLay0, PyData.depth]
  | n, .int _, _ => by simp [py, PyData.canLay0, PyData.depth]
  | n, .str _, o => by cases n <;> simpa [py, PyData.canLay0, PyData.depth, D.ok] using o
  | 0, .lst l, o => by simp [D.ok] at o
  | 0, .tup l, o => by simp [D.ok] at o
  | n + 1, .lst l, o => by
    obtain ⟨a, b⟩ := layL_of n l (by simpa [D.ok] using o)
    refine ⟨by simpa [py, PyData.canLay0] using a, ?_⟩
    simp only [py, PyData.depth]; omega
  | n + 1, .tup l, o => by
    obtain ⟨a, b⟩ := layL_of n l (by simpa [D.ok] using o)
    refine ⟨by simpa [py, PyData.canLay0] using a, ?_⟩
    simp only [py, PyData.depth]; omega
  | n, .ins _ _, o => by cases n <;> simp [D.ok] at o
  | n, .pool, o => by cases n <;> simp [D.ok] at o
theorem layL_of : ∀ (n : Nat) (ds : List D), D.okL n ds = true → PyData.canLayAll0 (pyL ds) = true ∧ PyData.depthAll (pyL ds) ≤ n
  | n, [], _ => by simp [pyL, PyData.canLayAll0, PyData.depthAll]
  | n, d :: ds, o => by
    rw [D.okL, Bool.and_eq_true] at o
    obtain ⟨a1, a2⟩ := lay_of n d o.1
    obtain ⟨b1, b2⟩ := layL_of n ds o.2
    refine ⟨by simp [pyL, PyData.canLayAll0, a1, b1], ?_⟩
    simp only [pyL, PyData.depthAll]; omega
end
mutual
theorem eqv_py : ∀ (n m : Nat) (d e : D), D.ok n d = true → D.ok m e = true → PyData.eqv (py d) (py e) = D.eqv d e
  | n + 1, m + 1, .lst l, .lst l', o, o' => by
    simp only [py, PyData.eqv, D.eqv]; exact eqvL_py n m l l' (by simpa [D.ok] using o) (by simpa [D.ok] using o')
  | n + 1, m + 1, .tup l, .tup l', o, o' => by
    simp only [py, PyData.eqv, D.eqv]; exact eqvL_py n m l l' (by simpa [D.ok] using o) (by simpa [D.ok] using o')
  | 0, m, .lst l, e, o, o' => by simp [D.ok] at o
  | 0, m, .tup l, e, o, o' => by simp [D.ok] at o
  | n, 0, d, .lst l, o, o' => by simp [D.ok] at o'
  | n, 0, d, .tup l, o, o' => by simp [D.ok] at o'
  | n, m, .ins _ _, _, o, o' => by cases n <;> simp [D.ok] at o
  | n, m, .pool, _, o, o' => by cases n <;> simp [D.ok] at o
  | n, m, _, .ins _ _, o, o' => by cases m <;> simp [D.ok] at o'
  | n, m, _, .pool, o, o' => by cases m <;> simp [D.ok] at o'
  | n, m, .non, .non, o, o' | n, m, .non, .bl _, o, o' | n, m, .non, .int _, o, o' | n, m, .non, .str _, o, o' | n, m, .non, .lst _, o, o' | n, m, .non, .tup _, o, o' => by simp [py, PyData.eqv, D.eqv]
  | n, m, .bl _, .non, o, o' | n, m, .bl _, .bl _, o, o' | n, m, .bl _, .int _, o, o' | n, m, .bl _, .str _, o, o' | n, m, .bl _, .lst _, o, o' | n, m, .bl _, .tup _, o, o' => by simp [py, PyData.eqv, D.eqv]
  | n, m, .int _, .non, o, o' | n, m, .int _, .bl _, o, o' | n, m, .int _, .int _, o, o' | n, m, .int _, .str _, o, o' | n, m, .int _, .lst _, o, o' | n, m, .int _, .tup _, o, o' => by simp [py, PyData.eqv, D.eqv]
  | n, m, .str _, .non, o, o' | n, m, .str _, .bl _, o, o' | n, m, .str _, .int _, o, o' | n, m, .str _, .str _, o, o' | n, m, .str _, .lst _, o, o' | n, m, .str _, .tup _, o, o' => by simp [py, PyData.eqv, D.eqv]
  | n, m, .lst _, .non, o, o' | n, m, .lst _, .bl _, o, o' | n, m, .lst _, .int _, o, o' | n, m, .lst _, .str _, o, o' | n, m, .lst _, .tup _, o, o' => by simp [py, PyData.eqv, D.eqv]
  | n, m, .tup _, .non, o, o' | n, m, .tup _, .bl _, o, o' | n, m, .tup _, .int _, o, o' | n, m, .tup _, .str _, o, o' | n, m, .tup _, .lst _, o, o' => by simp [py, PyData.eqv, D.eqv]
theorem eqvL_py : ∀ (n m : Nat) (ds es : List D), D.okL n ds = true → D.okL m es = true → PyData.eqvAll (pyL ds) (pyL es) = D.eqvL ds es
  | _, _, [], [], _, _ => by simp [pyL, PyData.eqvAll, D.eqvL]
  | _, _, [], _ :: _, _, _ => by simp [pyL, PyData.eqvAll, D.eqvL]
  | _, _, _ :: _, [], _, _ => by simp [pyL, PyData.eqvAll, D.eqvL]
  | n, m, d :: ds, e :: es, o, o' => by
    rw [D.okL, Bool.and_eq_true] at o o'
    simp only [pyL, PyData.eqvAll, D.eqvL]
    rw [eqv_py n m d e o.1 o'.1, eqvL_py n m ds es o.2 o'.2]
end
theorem shaped_of {d : D} (o : D.ok 60 d = true) : SeqAt.shaped (py d) = true := by
  obtain ⟨a, b⟩ := lay_of 60 d o
  unfold SeqAt.shaped
  rw [a, Bool.true_and]
  exact decide_eq_true (Nat.le_trans b (by decide))
def dEq : DR2 := fun x y Q => (D.ok 60 x = true ∧ D.ok 60 y = true) ∧ Q (.bl (D.eqv x y))
def dNe : DR2 := fun x y Q => (D.ok 60 x = true ∧ D.ok 60 y = true) ∧ Q (.bl (!D.eqv x y))
theorem sr_eq : SimR2 K (rEqD K.K) dEq := fun p c G H x y d e Q post w r1 r2 m k =>
  ⟨py d, py e, dp_of w.sub 60 d x m.1.1 r1, dp_of w.sub 60 e y m.1.2 r2, shaped_of m.1.1, shaped_of m.1.2, by rw [eqv_py 60 60 d e m.1.1 m.1.2]; exact k _ _ G H m.2 .refl w (.bl _)⟩
theorem sr_ne : SimR2 K (rNeD K.K) dNe := fun p c G H x y d e Q post w r1 r2 m k =>
  ⟨py d, py e, dp_of w.sub 60 d x m.1.1 r1, dp_of w.sub 60 e y m.1.2 r2, shaped_of m.1.1, shaped_of m.1.2, by rw [eqv_py 60 60 d e m.1.1 m.1.2]; exact k _ _ G H m.2 .refl w (.bl _)⟩

/-! ### numbers -/
def dI (C : Int → Int → Prop) (g : Int → Int → Int) : DR2 := fun x y Q => match x, y with | .int i, .int j => C i j ∧ Q (.int (g i j)) | _, _ => False
def dI0 (g : Int → Int → Int) : DR2 := fun x y Q => match x, y with | .int i, .int j => Q (.int (g i j)) | _, _ => False
def dB0 (g : Int → Int → Bool) : DR2 := fun x y Q => match x, y with | .int i, .int j => Q (.bl (g i j)) | _, _ => False
def dU (g : Int → Int) : DR1 := fun x Q => match x with | .int i => Q (.int (g i)) | _ => False
theorem sr_I {C : Int → Int → Prop} {g : Int → Int → Int} : SimR2 K (rI C fun i j => .int (g i j)) (dI C g) := by
  intro p c G H x y d e Q post w r1 r2 m k
  unfold dI at m
  split at m
  · cases r1; cases r2; exact ⟨_, _, rfl, rfl, m.1, k _ _ G H m.2 .refl w (.int _)⟩
  · exact m.elim
theorem sr_I0 {g : Int → Int → Int} : SimR2 K (rI0 fun i j => .int (g i j)) (dI0 g) := by
  intro p c G H x y d e Q post w r1 r2 m k
  unfold dI0 at m
  split at m
  · cases r1; cases r2; exact ⟨_, _, rfl, rfl, k _ _ G H m .refl w (.int _)⟩
  · exact m.elim
theorem sr_B0 {g : Int → Int → Bool} : SimR2 K (rI0 fun i j => .bl (g i j)) (dB0 g) := by
  intro p c G H x y d e Q post w r1 r2 m k
  unfold dB0 at m
  split at m
  · cases r1; cases r2; exact ⟨_, _, rfl, rfl, k _ _ G H m .refl w (.bl _)⟩
  · exact m.elim
theorem sr_U {g : Int → Int} : SimR1 K (rU fun i => .int (g i)) (dU g) := by
  intro p c G H x d Q post w r1 m k
  unfold dU at m
  split at m
  · cases r1; exact ⟨_, rfl, k _ _ G H m .refl w (.int _)⟩
  · exact m.elim
/-- // by a number that is not 0, below 2 ^ 9000 in size -/
def CDivG (_ j : Int) : Prop := j ≠ 0 ∧ j.natAbs.log2 < 9000
theorem op_fdivG {X : Cx} : OpR X (binaryOp .FloorDiv) (rI CDivG fun i j => .int (i.fdiv j)) := opI fun i j _ _ _ _ _ hc q =>
  PyProof.Rows.floordiv_int hc.1 q (.inl (PyProof.noPylong_of_log2 hc.2))
/-- + of numbers, of texts, of lists -/
theorem opr_or {X : Cx} {f : Value → Value → Sem Value} {r r' : R2} (h : OpR X f r) (h' : OpR X f r') : OpR X f (fun x y H Q => r x y H Q ∨ r' x y H Q) :=
  fun pins s σ H x y v u Q I rx ry q => q.elim (h pins s σ H x y v u Q I rx ry) (h' pins s σ H x y v u Q I rx ry)
abbrev rAddI : R2 := rI0 fun i j => .int (i + j)
abbrev rAddS : R2 := fun x y H Q => ∃ i j, x = .str i ∧ y = .str j ∧ i.length + j.length ≤ sizeLine ∧ Q (.str (i ++ j)) H
def rAddG : R2 := fun x y H Q => rAddI x y H Q ∨ rAddS x y H Q ∨ rCat x y H Q
theorem op_addG {X : Cx} : OpR X (binaryOp .Add) rAddG := opr_or op_add (opr_or op_add_str op_cat)
def dAdd : DR2 := fun x y Q => match x, y with
  | .int i, .int j => Q (.int (i + j))
  | .str a, .str b => a.length + b.length ≤ 1000000 ∧ Q (.str (a ++ b))
  | .lst a, .lst b => a.length + b.length ≤ 1000000 ∧ Q (.lst (a ++ b))
  | _, _ => False
theorem sr_add : SimR2 K rAddG dAdd := by
  intro p c G H x y d e Q post w r1 r2 m k
  unfold dAdd at m
  split at m
  · cases r1; cases r2; exact .inl ⟨_, _, rfl, rfl, k _ _ G H m .refl w (.int _)⟩
  · cases r1; cases r2; exact .inr (.inl ⟨_, _, rfl, rfl, Nat.le_trans m.1 Grow.sz, k _ _ G H m.2 .refl w (.str _)⟩)
  · cases r1 with
    | lst h1 h2 =>
      cases r2 with
      | lst h3 h4 =>
        refine .inr (.inr ⟨_, _, _, _, rfl, rfl, w.sub _ _ h1, w.sub _ _ h3, by rw [h2.len, h4.len]; exact Nat.le_trans m.1 Grow.sz, fun a ha => ?_⟩)
        exact k _ _ _ _ m.2 (Grow.laid ha w.sub) (w.laid ha) (.lst upd_same ((h2.append h4).up (Grow.laid (p := p) ha w.sub).ex))
  · exact m.elim

/-! ### items, lengths, new lists and tuples -/
def dIx : DR2 := fun x y Q => match x, y with
  | .lst l, .int i => (match atI l i with | some v => Q v | none => False)
  | .tup l, .int i => (match atI l i with | some v => Q v | none => False)
  | .str z, .int i => z.length ≤ 1000000 ∧ (match atI z.cps.toList i with | some k => Q (.str ⟨#[k]⟩) | none => False)
  | _, _ => False
theorem atI_rp {xs : List V} {ds : List D} {i : Int} {d : D} (r : RpL K p G xs ds) (h : atI ds i = some d) : ∃ v, atI xs i = some v ∧ Rp K p G v d := by
  unfold atI at h ⊢
  rw [r.len]
  cases q : ixN ds.length i with
  | none => rw [q] at h; cases h
  | some n => rw [q] at h; exact r.get h
theorem sr_ix : SimR2 K (rIx K.K) dIx := by
  intro p c G H x y d e Q post w r1 r2 m k
  unfold dIx at m
  split at m
  · split at m
    · rename_i q
      cases r2
      cases r1 with
      | lst h1 h2 =>
        obtain ⟨u, hu, ru⟩ := atI_rp h2 q
        exact .inl ⟨_, _, _, u, rfl, rfl, sq_of (w.sub _ _ h1), hu, k _ _ G H m .refl w ru⟩
    · exact m.elim
  · split at m
    · rename_i q
      cases r2
      cases r1 with
      | tup h1 h2 =>
        obtain ⟨u, hu, ru⟩ := atI_rp h2 q
        exact .inr (.inl ⟨_, _, _, u, rfl, rfl, st_of (w.sub _ _ h1), hu, k _ _ G H m .refl w ru⟩)
    · exact m.elim
  · obtain ⟨m0, m⟩ := m
    split at m
    · rename_i q
      cases r2; cases r1
      exact .inr (.inr ⟨_, _, _, rfl, rfl, Nat.le_trans m0 Grow.sz, q, k _ _ G H m .refl w (.str _)⟩)
    · exact m.elim
  · exact m.elim
/-- an item of an own list of slot i -/
def mIxO (i : Nat) (mj : DE) : DE := fun xe ρ c Q => match ρ[i]? with
  | some (.own l) => mj xe ρ c fun j c1 => (match j with | .int k => (match atI l k with | some v => Q v c1 | none => False) | _ => False)
  | _ => False
theorem sim_ixO {i : Nat} {tj : TE} {mj : DE} (hj : SimE K W tj mj) : SimE K W (tOp (rIx K.K) (tVar i) tj) (mIxO i mj) := by
  intro p G0 H0 c G H σ ρ xe Q post ws xc m k
  unfold mIxO at m
  split at m
  · rename_i l e
    obtain ⟨a, xs, e2, np, n0, hg, hh, r⟩ := ws.en.own e
    refine ⟨.ref a, e2, ?_⟩
    refine hj p G0 H0 c G H σ ρ xe _ _ ws xc m fun j c1 u G1 H1 m1 g1 w1 r1 => ?_
    split at m1
    · split at m1
      · rename_i q
        cases r1
        have ws1 := ws.grow g1 w1
        obtain ⟨a', xs', e2', np', n0', hg', hh', r'⟩ := ws1.en.own e
        rw [e2] at e2'; cases e2'
        obtain ⟨u, hu, ru⟩ := atI_rp r' q
        exact .inl ⟨_, _, _, u, rfl, rfl, sq_of hh', hu, k _ _ _ _ _ m1 g1 w1 ru⟩
      · exact m1.elim
    · exact m1.elim
  · exact m.elim
abbrev rLenG (K : PySem.W.Frag) : List V → Hp → VK → Prop := fun xs H Q => ∃ x n, xs = [x] ∧ LenV K x H n ∧ Q (.int n) H
def dLen : DRL := fun ds Q => match ds with | [.lst l] => Q (.int l.length) | [.tup l] => Q (.int l.length) | [.str z] => z.length ≤ 1000000 ∧ Q (.int z.length) | _ => False
theorem srl_len : SimRL K (rLenG K.K) dLen := by
  intro p c G H xs ds Q post w r m k
  unfold dLen at m
  split at m
  · obtain ⟨v, rfl, r1⟩ := r.one
    cases r1 with
    | lst h1 h2 => exact ⟨_, _, rfl, .inl ⟨_, sq_of (w.sub _ _ h1), h2.len.symm⟩, k _ _ G H m .refl w (.int _)⟩
  · obtain ⟨v, rfl, r1⟩ := r.one
    cases r1 with
    | tup h1 h2 => exact ⟨_, _, rfl, .inr ⟨_, st_of (w.sub _ _ h1), h2.len.symm⟩, k _ _ G H m .refl w (.int _)⟩
  · obtain ⟨v, rfl, r1⟩ := r.one
    cases r1
    rename_i z
    exact ⟨_, z.length, rfl, (⟨Nat.le_trans m.1 Grow.sz, rfl⟩ : z.length ≤ sizeLine ∧ z.length = z.length), k _ _ G H m.2 .refl w (.int _)⟩
  · exact m.elim
def dList : DRL := fun ds Q => match ds with | [.lst l] => Q (.lst l) | [.tup l] => Q (.lst l) | _ => False
def dTuple : DRL := fun ds Q => match ds with | [.lst l] => Q (.tup l) | [.tup l] => Q (.tup l) | _ => False
theorem srl_list : SimRL K (fun xs H Q => ∃ p ys, xs = [.ref p] ∧ (SqL K.K H p ys ∨ SqT K.K H p ys) ∧ ∀ l, H l = none → Q (.ref l) (upd H l (.lst ys))) dList := by
  intro p c G H xs ds Q post w r m k
  unfold dList at m
  split at m
  · obtain ⟨v, rfl, r1⟩ := r.one
    cases r1 with
    | lst h1 h2 => exact ⟨_, _, rfl, .inl (sq_of (w.sub _ _ h1)), fun a ha => k _ _ _ _ m (Grow.laid ha w.sub) (w.laid ha) (.lst upd_same (h2.up (Grow.laid (p := p) ha w.sub).ex))⟩
  · obtain ⟨v, rfl, r1⟩ := r.one
    cases r1 with
    | tup h1 h2 => exact ⟨_, _, rfl, .inr (st_of (w.sub _ _ h1)), fun a ha => k _ _ _ _ m (Grow.laid ha w.sub) (w.laid ha) (.lst upd_same (h2.up (Grow.laid (p := p) ha w.sub).ex))⟩
  · exact m.elim
theorem srl_tuple : SimRL K (fun xs H Q => ∃ p ys, xs = [.ref p] ∧ ((SqL K.K H p ys ∧ ∀ l, H l = none → Q (.ref l) (upd H l (.tup ys))) ∨ (SqT K.K H p ys ∧ Q (.ref p) H))) dTuple := by
  intro p c G H xs ds Q post w r m k
  unfold dTuple at m
  split at m
  · obtain ⟨v, rfl, r1⟩ := r.one
    cases r1 with
    | lst h1 h2 => exact ⟨_, _, rfl, .inl ⟨sq_of (w.sub _ _ h1), fun a ha => k _ _ _ _ m (Grow.laid ha w.sub) (w.laid ha) (.tup upd_same (h2.up (Grow.laid (p := p) ha w.sub).ex))⟩⟩
  · obtain ⟨v, rfl, r1⟩ := r.one
    cases r1 with
    | tup h1 h2 => exact ⟨_, _, rfl, .inr ⟨st_of (w.sub _ _ h1), k _ _ G H m .refl w (.tup h1 h2)⟩⟩
  · exact m.elim
/-- list(xs), xs a new list of one's own -/
def mCBO (f : List D → (List D → Prop) → Prop) (ma : DL) : DL := fun xe ρ c Q => ma xe ρ c fun ds c1 => f ds fun z => Q z c1
def dListO : List D → (List D → Prop) → Prop := fun ds Q => match ds with | [.lst l] => Q l | [.tup l] => Q l | _ => False
theorem sim_listO {ta : TA} {ma : DL} (ha : SimA K W ta ma) : SimO K W (tCB (fun xs H Q => ∃ p ys, xs = [.ref p] ∧ (SqL K.K H p ys ∨ SqT K.K H p ys) ∧ ∀ l, H l = none → Q (.ref l) (upd H l (.lst ys))) ta) (mCBO dListO ma) := by
  intro p G0 H0 c G H σ ρ xe Q post ws xc m k
  refine ha p G0 H0 c G H σ ρ xe _ _ ws xc m fun ds c1 vs G1 H1 m1 g1 w1 r1 => ?_
  have ws1 := ws.grow g1 w1
  have fin : ∀ (l : List D) (ys : List V) (a : Addr), post l c1 → RpL K p G1 ys l → H1 a = none → Q (.ref a) (upd H1 a (.lst ys)) := fun l ys a q r hn => by
    have hg := (ws1.fresh0 hn).2.2
    refine k l c1 a ys G1 _ q (g1.tr (Grow.laidO hn) (w1.laidO hn)) (w1.laidO hn) ?_ hg upd_same r
    cases z : H a with
    | none => rfl
    | some o => rw [g1.keep a o (ws1.fresh0 hn).1 z] at hn; cases hn
  unfold dListO at m1
  split at m1
  · obtain ⟨v, rfl, r⟩ := r1.one
    cases r with
    | lst h1 h2 => exact ⟨_, _, rfl, .inl (sq_of (w1.sub _ _ h1)), fun a hn => fin _ _ a m1 h2 hn⟩
  · obtain ⟨v, rfl, r⟩ := r1.one
    cases r with
    | tup h1 h2 => exact ⟨_, _, rfl, .inr (st_of (w1.sub _ _ h1)), fun a hn => fin _ _ a m1 h2 hn⟩
  · exact m1.elim

/-! ### built-ins of numbers -/
def dMax2 : DRL := fun ds Q => match ds with | [.int i, .int j] => Q (.int (if j > i then j else i)) | _ => False
theorem srl_max2 : SimRL K (fun xs H Q => ∃ i j, xs = [.int i, .int j] ∧ Q (.int (if j > i then j else i)) H) dMax2 := by
  intro p c G H xs ds Q post w r m k
  unfold dMax2 at m
  split at m
  · obtain ⟨v, u, rfl, r1, r2⟩ := r.two
    cases r1; cases r2
    exact ⟨_, _, rfl, k _ _ G H m .refl w (.int _)⟩
  · exact m.elim
def dAbs : DRL := fun ds Q => match ds with | [.int i] => Q (.int (if i < 0 then -i else i)) | _ => False
theorem srl_abs : SimRL K (fun xs H Q => ∃ i, xs = [.int i] ∧ Q (.int (if i < 0 then -i else i)) H) dAbs := by
  intro p c G H xs ds Q post w r m k
  unfold dAbs at m
  split at m
  · obtain ⟨v, rfl, r1⟩ := r.one
    cases r1
    exact ⟨_, rfl, k _ _ G H m .refl w (.int _)⟩
  · exact m.elim
def dInt1 : DRL := fun ds Q => match ds with | [.int i] => Q (.int i) | [.bl b] => Q (.int (if b then 1 else 0)) | _ => False
theorem srl_int1 : SimRL K (fun xs H Q => (∃ i, xs = [.int i] ∧ Q (.int i) H) ∨ ∃ k, xs = [.bl k] ∧ Q (.int (if k then 1 else 0)) H) dInt1 := by
  intro p c G H xs ds Q post w r m k
  unfold dInt1 at m
  split at m
  · obtain ⟨v, rfl, r1⟩ := r.one
    cases r1
    exact .inl ⟨_, rfl, k _ _ G H m .refl w (.int _)⟩
  · obtain ⟨v, rfl, r1⟩ := r.one
    cases r1
    exact .inr ⟨_, rfl, k _ _ G H m .refl w (.int _)⟩
  · exact m.elim
def dGcd : DRL := fun ds Q => match ds with | [.int a, .int b] => Q (.int ((Nat.gcd a.natAbs b.natAbs : Nat) : Int)) | _ => False
theorem srl_gcd : SimRL K rGcd dGcd := by
  intro p c G H xs ds Q post w r m k
  unfold dGcd at m
  split at m
  · obtain ⟨v, u, rfl, r1, r2⟩ := r.two
    cases r1; cases r2
    exact ⟨_, _, rfl, k _ _ G H m .refl w (.int _)⟩
  · exact m.elim
def rLcm : List V → Hp → VK → Prop := fun vs H Q => ∃ a b : Int, vs = [.int a, .int b] ∧ (a.natAbs < 2 ^ 9000 ∧ b.natAbs < 2 ^ 9000) ∧ Q (.int ((Nat.lcm a.natAbs b.natAbs : Nat) : Int)) H
theorem cr_lcm {X : Cx} : CallR X (.builtin "math.lcm") rLcm := by
  intro pins s σ H vs us Q I r h
  obtain ⟨a, b, rfl, ⟨ha, hb⟩, q⟩ := h
  obtain ⟨t, u, rfl⟩ := Vals.int2 r
  have h1 : (max 1 a.natAbs).log2 ≤ 8999 := PySem.W.mg_log (by
    show max 1 a.natAbs < 2 ^ 9000
    rcases Nat.le_total 1 a.natAbs with z | z
    · rw [Nat.max_eq_right z]; exact ha
    · rw [Nat.max_eq_left z]; exact Nat.one_lt_two_pow (by decide))
  have h2 : (max a.natAbs b.natAbs).log2 ≤ 8999 := PySem.W.mg_log (by
    show max a.natAbs b.natAbs < 2 ^ 9000
    rcases Nat.le_total a.natAbs b.natAbs with z | z
    · rw [Nat.max_eq_right z]; exact hb
    · rw [Nat.max_eq_left z]; exact ha)
  have e1 : (Nat.lcm 1 a.natAbs).lcm b.natAbs = a.natAbs.lcm b.natAbs := by rw [Nat.lcm_one_left]
  have hle : a.natAbs.lcm b.natAbs ≤ a.natAbs * b.natAbs := by
    unfold Nat.lcm
    exact Nat.div_le_self _ _
  have h3 : a.natAbs.lcm b.natAbs < 2 ^ 18000 := by
    refine Nat.lt_of_le_of_lt hle ?_
    rw [show (18000 : Nat) = 9000 + 9000 from rfl, Nat.pow_add]
    exact Nat.mul_lt_mul'' ha hb
  have h4 : ((((Nat.lcm 1 a.natAbs).lcm b.natAbs : Nat) : Int)).natAbs.log2 < bitsLine := by
    rw [e1, Int.natAbs_natCast]
    have z : (a.natAbs.lcm b.natAbs).log2 ≤ 17999 := PySem.W.mg_log h3
    exact Nat.lt_of_le_of_lt z (by decide)
  have g := PySem.W.mg_run_lcm a t b u (by omega) (by omega) h4
  refine PySem.call_function_meets PySem.W.MGF.kind_lcm PySem.W.MGF.plain_lcm PySem.W.MGF.entry_lcm (PySem.W.MGF.args_lcm _ _) g.meets ?_
  rw [e1]
  exact ⟨.int _, H, I.tok _, ⟨_, rfl⟩, q⟩
def dLcm : DRL := fun ds Q => match ds with | [.int a, .int b] => (a.natAbs < 2 ^ 9000 ∧ b.natAbs < 2 ^ 9000) ∧ Q (.int ((Nat.lcm a.natAbs b.natAbs : Nat) : Int)) | _ => False
theorem srl_lcm : SimRL K rLcm dLcm := by
  intro p c G H xs ds Q post w r m k
  unfold dLcm at m
  split at m
  · obtain ⟨v, u, rfl, r1, r2⟩ := r.two
    cases r1; cases r2
    exact ⟨_, _, rfl, m.1, k _ _ G H m.2 .refl w (.int _)⟩
  · exact m.elim

/-! ### isinstance with a built-in class, is None -/
def tyName : D → String
  | .non => "NoneType" | .bl _ => "bool" | .int _ => "int" | .str _ => "str" | .lst _ => "list" | .tup _ => "tuple" | _ => ""
def dIsN (T t : String) : Bool := t == T || (T == "int" && t == "bool")
def dIsi (T : String) (x : D) : Bool := dIsN T (tyName x)
def mIsi (T : String) (ma : DE) : DE := fun xe ρ c Q => ma xe ρ c fun d c1 => match d with | .ins _ _ => False | .pool => False | _ => Q (.bl (dIsi T d)) c1
def BasicT (T : String) : Bool := T == "int" || T == "bool" || T == "tuple" || T == "list" || T == "str"
theorem kitB_basic {T : String} (hT0 : BasicT T = true) : kitB "NoneType" T = some (dIsN T "NoneType") ∧ kitB "bool" T = some (dIsN T "bool") ∧ kitB "int" T = some (dIsN T "int") ∧ kitB "str" T = some (dIsN T "str") ∧ kitB "list" T = some (dIsN T "list") ∧ kitB "tuple" T = some (dIsN T "tuple") := by
  have hT : T = "int" ∨ T = "bool" ∨ T = "tuple" ∨ T = "list" ∨ T = "str" := by simpa [BasicT, or_assoc] using hT0
  rcases hT with rfl | rfl | rfl | rfl | rfl <;> decide +kernel
theorem sim_isi {T : String} {ta : TE} {ma : DE} (hT : BasicT T = true) (ha : SimE K W ta ma) : SimE K W (tCB (rIsi K.K) (tCons ta (tCons (tC (.ty T)) tNil))) (mIsi T ma) := by
  intro p G0 H0 c G H σ ρ xe Q post ws xc m k
  refine ha p G0 H0 c G H σ ρ xe _ _ ws xc m fun d c1 v G1 H1 m1 g1 w1 r1 => ?_
  show rIsi K.K [v, .ty T] H1 Q
  obtain ⟨b1, b2, b3, b4, b5, b6⟩ := kitB_basic hT
  cases r1 with
  | non => exact ⟨_, _, _, _, _, rfl, .ty _, .base .non, kit_ty b1, k _ c1 _ G1 H1 m1 g1 w1 (.bl _)⟩
  | bl b => exact ⟨_, _, _, _, _, rfl, .ty _, .base (.bl _), kit_ty b2, k _ c1 _ G1 H1 m1 g1 w1 (.bl _)⟩
  | int i => exact ⟨_, _, _, _, _, rfl, .ty _, .base (.int _), kit_ty b3, k _ c1 _ G1 H1 m1 g1 w1 (.bl _)⟩
  | str i => exact ⟨_, _, _, _, _, rfl, .ty _, .base (.str _), kit_ty b4, k _ c1 _ G1 H1 m1 g1 w1 (.bl _)⟩
  | lst h1 h2 => exact ⟨_, _, _, _, _, rfl, .ty _, .base (.lst (w1.sub _ _ h1)), kit_ty b5, k _ c1 _ G1 H1 m1 g1 w1 (.bl _)⟩
  | tup h1 h2 => exact ⟨_, _, _, _, _, rfl, .ty _, .base (.tup (w1.sub _ _ h1)), kit_ty b6, k _ c1 _ G1 H1 m1 g1 w1 (.bl _)⟩
  | ins => exact m1.elim
  | pool => exact m1.elim
def dNon : D → Bool | .non => true | _ => false
def mIsN (ma : DE) : DE := fun xe ρ c Q => ma xe ρ c fun d c1 => Q (.bl (dNon d)) c1
def mNotN (ma : DE) : DE := fun xe ρ c Q => ma xe ρ c fun d c1 => Q (.bl (!dNon d)) c1
theorem Rp.nonIff {v : V} {d : D} (r : Rp K p G v d) : decide (v = .non) = dNon d := by cases r <;> rfl
theorem sim_isN {ta : TE} {ma : DE} (ha : SimE K W ta ma) : SimE K W (tIsN ta) (mIsN ma) := by
  intro p G0 H0 c G H σ ρ xe Q post ws xc m k
  refine ha p G0 H0 c G H σ ρ xe _ _ ws xc m fun d c1 v G1 H1 m1 g1 w1 r1 => ?_
  rw [r1.nonIff]
  exact k _ c1 _ G1 H1 m1 g1 w1 (.bl _)
theorem sim_notN {ta : TE} {ma : DE} (ha : SimE K W ta ma) : SimE K W (tNotN ta) (mNotN ma) := by
  intro p G0 H0 c G H σ ρ xe Q post ws xc m k
  refine ha p G0 H0 c G H σ ρ xe _ _ ws xc m fun d c1 v G1 H1 m1 g1 w1 r1 => ?_
  rw [r1.nonIff]
  exact k _ c1 _ G1 H1 m1 g1 w1 (.bl _)
end
end Dm

namespace Dm
open PySem L2 Evl
/-- a def of the module's top that keeps its word on data and lets nothing out -/
def OkS (sp : Sp) (P : Program) (w : World) (K : PySem.W.Frag) (mg : Str → Option Value) (base : Heap) (k : Nat) (x : Str) (ps : List Str) : Prop :=
  ∃ f fd, mg x = some (.ref f) ∧ PySem.W.keepIn K (.ref f) = true ∧ Binds K fd ps [] ∧ FnOk P w K mg base CX0 k f fd ps sp
abbrev Ok0 (P : Program) (w : World) (K : PySem.W.Frag) (mg : Str → Option Value) (base : Heap) (k : Nat) (x : Str) (ps : List Str) (mf : DF) : Prop := OkS (spS ⟨K, mg⟩ mf) P w K mg base k x ps
abbrev OkF (P : Program) (w : World) (K : PySem.W.Frag) (mg : Str → Option Value) (base : Heap) (k : Nat) (x : Str) (ps : List Str) (mf : DF) : Prop := OkS (spF ⟨K, mg⟩ mf) P w K mg base k x ps
theorem OkS.ok0 {P : Program} {w : World} {K : PySem.W.Frag} {mg : Str → Option Value} {base : Heap} {k : Nat} {x : Str} {ps : List Str} {mf : DF} (o : OkF P w K mg base k x ps mf) : Ok0 P w K mg base k x ps mf :=
  let ⟨f, fd, a, b, c, d⟩ := o
  ⟨f, fd, a, b, c, d.imp spF_imp⟩
section
variable {X : Cx} {k j : Nat} {x : Str} {ps : List Str} {sp : Sp} {p pos : Pos} {e : Expr} {es : List Expr} {t : TA}
theorem pe_callO (o : OkS sp X.prog X.w X.K X.mg X.base k x ps) (hr : Room j X.A) (hk : k ≤ j) (ha : PA X (e :: es) t) (hg : Gl X x := by rfl) (hdb : (x == ("__debug__" : Str)) = false := by decide)
    (he : starEach (e :: es) X.env = (false, eval e X.env) :: starEach es X.env := by rfl) (hpl : (backTo pos (starEach es X.env)).any (·.1) = false := by rfl) : PE X (.Call (.Name x p) (e :: es) [] pos) (tCall sp [] E0 t) := by
  obtain ⟨f, fd, hm, hkp, hb, F⟩ := o
  exact pe_call F (hr.mono hk) hg hm hkp hb .nil pass0 ha hdb he hpl
end
/-! ### the pool -/
/-- a new pool of a script -/
def spPool (K : PySem.W.Frag) : Sp := fun vs H Q _ => ∃ (a : Addr) (ns : List Int), vs = [.ref a] ∧ SqL K H a (ns.map V.int) ∧
  ∀ (p cs : Addr) (H' : Hp), cs ≠ p → H' p = some (.lst [.int 0, .int 0, .ref cs]) → H' cs = some (.lst (ns.map V.int)) → Q (.ref p) H'
/-- a draw: some number below many -/
def fTake : DF := fun _ ds c rt => ∃ n : Int, ds = [.pool, .int n] ∧ 0 < n ∧ n.natAbs.log2 < 9000 ∧ c < 1000000000 ∧ ∀ k : Int, 0 ≤ k → k < n → rt (.int k) (c + 1)
/-- a law's body behind the making of the pool -/
theorem law_run {K : Cz} {t : TS} {m : DS} {Q : VK} {p cs a : Addr} {ns : List Int} {H' : Hp} {n : Nat} {g : St → Hp → Prop} (h : SimS K (fun _ _ _ _ => False) t m) (hq : ∀ H, Q (.bl true) H) (h63 : ns.length ≤ 63) (hne : cs ≠ p)
    (h1 : H' p = some (.lst [.int 0, .int 0, .ref cs])) (h2 : H' cs = some (.lst (ns.map V.int)))
    (hm : m (fun _ _ _ => False) { nx := fun _ _ => False, rt := fun d _ => d = .bl true } (.no :: .sh .pool :: List.replicate n .no) 0) : t { nx := g, rt := Q } (some (.ref a) :: some (.ref p) :: List.replicate n none) H' := by
  have sub : Ex (one cs (.lst (ns.map V.int))) H' := fun b o q => by
    obtain ⟨rfl, rfl⟩ := one_at q; exact h2
  have w : Wd K p 0 (one cs (.lst (ns.map V.int))) H' := by
    refine ⟨sub, if_neg (Ne.symm hne), ?_⟩
    refine ⟨0, 0, cs, ns, h1, if_pos rfl, h63, Int.le_refl 0, Int.le_refl 0⟩
  have rep : ∀ (i : Nat) (s : S), (List.replicate n S.no)[i]? = some s → s = .no := fun i s q => by
    obtain ⟨_, q2⟩ := List.getElem?_eq_some_iff.mp q
    rw [List.getElem_replicate] at q2
    exact q2.symm
  have shape : ∀ (i : Nat) (s : S), (S.no :: S.sh D.pool :: List.replicate n S.no)[i]? = some s → s = .no ∨ (i = 1 ∧ s = .sh .pool) := fun i s q => by
    match i with
    | 0 => cases q; exact .inl rfl
    | 1 => cases q; exact .inr ⟨rfl, rfl⟩
    | i + 2 => exact .inl (rep i s (by simpa using q))
  have en : EnvR K p H' (one cs (.lst (ns.map V.int))) H' (some (.ref a) :: some (.ref p) :: List.replicate n none) (.no :: .sh .pool :: List.replicate n .no) := by
    refine ⟨by simp, fun i o s e1 e2 => ?_, fun i j o o' s s' nij e1 e2 e3 e4 b z => ?_⟩
    · rcases shape i s e2 with rfl | ⟨rfl, rfl⟩
      · exact .no
      · cases e1; exact .sh .pool
    · rcases shape i s e2 with rfl | ⟨rfl, rfl⟩
      · exact absurd z reg_no
      · exact absurd z reg_sh
  have ws : WS K p (one cs (.lst (ns.map V.int))) H' 0 (one cs (.lst (ns.map V.int))) H' _ _ := ⟨.refl, w, en⟩
  refine h p _ H' 0 _ H' _ _ (fun _ _ _ => False) { nx := g, rt := Q } { nx := fun _ _ => False, rt := fun d _ => d = .bl true } ws (fun _ _ _ _ _ _ _ _ _ _ z => z) ⟨fun _ _ _ _ _ _ z => z.elim, fun _ _ _ _ _ _ z => z, fun _ _ _ _ _ _ z => z, fun v d c G H _ _ r z => ?_, fun _ _ _ _ _ _ _ _ _ _ z => z.elim⟩ hm
  have z' : d = .bl true := z
  subst z'; cases r; exact hq H
/-- law's promise: a list of at most 63 ints is handed in, True comes out -/
def spLaw (K : PySem.W.Frag) : Sp := fun vs H Q _ => ∃ (a : Addr) (ns : List Int), vs = [.ref a] ∧ SqL K H a (ns.map V.int) ∧ ns.length ≤ 63 ∧ ∀ H', Q (.bl true) H'
theorem fnLaw {P : Program} {w : World} {K : PySem.W.Frag} {mg : Str → Option Value} {base : Heap} {x qual : Str} {st : Stmt} {f : Addr} {fd : FuncData} {N : List Str} {y : Str} {k n : Nat} {m : DS} (F : Fun K x qual st f fd) (S : FnScope N [y] (defScope st)) (hN : N.length = n + 2)
    (hb : ∀ (cdv : Value) (A : Around) (outer : List Env) (s : Shared) (H : Hp) (E : XK), Room k (A.deeper (PyProof.Rows.envOfC qual (defScope st) s.heap.objs.size f cdv)) →
      ∃ t, PSs (cxOf CX0 P w K mg base N qual (defScope st) f cdv A outer s H E).nox (defBody st) (tSeq (tAsg (tCall (spPool K) [] E0 (tCons (tVar 0) tNil)) (gName 1)) t) ∧ SimS ⟨K, mg⟩ (fun _ _ _ _ => False) t m)
    (hm : m (fun _ _ _ => False) { nx := fun _ _ => False, rt := fun d _ => d = .bl true } (.no :: .sh .pool :: List.replicate n .no) 0) : FnOk P w K mg base CX0 (k + 1) f fd [y] (spLaw K) := by
  refine F.ok S (fun vs H Q E h => ?_) (fun cdv A outer s H vs Q E hr h => ?_)
  · obtain ⟨a, ns, rfl, _⟩ := h
    rfl
  · obtain ⟨a, ns, rfl, hS, h63, hq⟩ := h
    obtain ⟨t, h1, h2⟩ := hb cdv A outer s H E hr
    have e0 : L2.start N [.ref a] = some (.ref a) :: none :: List.replicate n none := by
      unfold L2.start
      rw [hN]
      show some (V.ref a) :: List.replicate (n + 1) none = _
      rw [List.replicate_succ]
    refine ⟨_, h1, ?_⟩
    rw [e0]
    refine ⟨_, rfl, a, ns, rfl, hS, fun p cs H' hne q1 q2 => ?_⟩
    exact law_run (t := t) h2 hq h63 hne q1 q2 hm
end Dm

namespace Dm
open PySem L2 Evl
/-! ### facts of data -/
theorem ok_non (n : Nat) : D.ok n .non = true := by cases n <;> simp [D.ok]
theorem ok_bl (n : Nat) (b : Bool) : D.ok n (.bl b) = true := by cases n <;> simp [D.ok]
theorem ok_int (n : Nat) (i : Int) : D.ok n (.int i) = true := by cases n <;> simp [D.ok]
theorem ok_lst (n : Nat) (l : List D) : D.ok (n + 1) (.lst l) = D.okL n l := by simp [D.ok]
theorem ok_tup (n : Nat) (l : List D) : D.ok (n + 1) (.tup l) = D.okL n l := by simp [D.ok]
theorem okL_nil (n : Nat) : D.okL n [] = true := by simp [D.okL]
theorem okL_cons (n : Nat) (d : D) (l : List D) : D.okL n (d :: l) = (D.ok n d && D.okL n l) := by simp [D.okL]
theorem okL_all {n : Nat} : ∀ {l : List D}, (∀ d ∈ l, D.ok n d = true) → D.okL n l = true
  | [], _ => okL_nil n
  | d :: l, h => by rw [okL_cons, h d List.mem_cons_self, okL_all fun e he => h e (List.mem_cons_of_mem _ he)]; rfl
theorem okL_ints (n : Nat) (l : List Int) : D.okL n (l.map D.int) = true := okL_all fun d h => by
  obtain ⟨i, _, rfl⟩ := List.mem_map.mp h
  exact ok_int n i
theorem ok_mono : ∀ (n : Nat) (d : D), D.ok n d = true → D.ok (n + 1) d = true := by
  intro n
  induction n with
  | zero => intro d h; cases d <;> simp_all [D.ok]
  | succ n ih =>
    intro d h
    have all : ∀ l : List D, D.okL n l = true → D.okL (n + 1) l = true := fun l => by
      induction l with
      | nil => intro _; exact okL_nil _
      | cons e l il =>
        intro q
        rw [okL_cons, Bool.and_eq_true] at q
        rw [okL_cons, ih e q.1, il q.2]; rfl
    cases d with
    | lst l => rw [ok_lst] at h ⊢; exact all l h
    | tup l => rw [ok_tup] at h ⊢; exact all l h
    | _ => simp_all [D.ok]
theorem ok_le {n m : Nat} {d : D} (h : D.ok n d = true) (e : n ≤ m) : D.ok m d = true := by
  induction e with
  | refl => exact h
  | step _ ih => exact ok_mono _ _ ih
mutual
theorem eqv_refl : ∀ (n : Nat) (d : D), D.ok n d = true → D.eqv d d = true
  | _, .non, _ => by simp [D.eqv]
  | _, .bl _, _ => by simp [D.eqv]
  | _, .int _, _ => by simp [D.eqv]
  | _, .str _, _ => by simp [D.eqv]
  | 0, .lst _, h => by simp [D.ok] at h
  | 0, .tup _, h => by simp [D.ok] at h
  | n + 1, .lst l, h => by rw [D.eqv]; exact eqvL_refl n l (by rw [ok_lst] at h; exact h)
  | n + 1, .tup l, h => by rw [D.eqv]; exact eqvL_refl n l (by rw [ok_tup] at h; exact h)
  | n, .ins _ _, h => by cases n <;> simp [D.ok] at h
  | n, .pool, h => by cases n <;> simp [D.ok] at h
theorem eqvL_refl : ∀ (n : Nat) (l : List D), D.okL n l = true → D.eqvL l l = true
  | _, [], _ => by simp [D.eqvL]
  | n, d :: l, h => by
    rw [okL_cons, Bool.and_eq_true] at h
    rw [D.eqvL, eqv_refl n d h.1, eqvL_refl n l h.2]; rfl
end
theorem eqv_int (i j : Int) : D.eqv (.int i) (.int j) = (i == j) := by simp [D.eqv]
theorem eqvL_ints : ∀ a b : List Int, D.eqvL (a.map D.int) (b.map D.int) = decide (a = b)
  | [], [] => by simp [D.eqvL]
  | [], _ :: _ => by simp [D.eqvL]
  | _ :: _, [] => by simp [D.eqvL]
  | x :: a, y :: b => by
    rw [List.map_cons, List.map_cons, D.eqvL, eqv_int, eqvL_ints a b]
    by_cases h : x = y
    · subst h; simp
    · simp [h]
theorem isi_tup (l : List D) : dIsi "tuple" (.tup l) = true := by show dIsN "tuple" "tuple" = true; decide +kernel
theorem isi_int (i : Int) : dIsi "int" (.int i) = true := by show dIsN "int" "int" = true; decide +kernel
theorem isi_intb (i : Int) : dIsi "bool" (.int i) = false := by show dIsN "bool" "int" = false; decide +kernel
theorem isi_lst (l : List D) : dIsi "list" (.lst l) = true := by show dIsN "list" "list" = true; decide +kernel
/-! ### loops on data -/
theorem lc_map {tg : DG} {me : DE} {xe : XP} {ρ : Ro} {vs : List Nat} {c : Nat} {ds : List D} {Q : List D → Nat → Prop} (f : D → D) (hl : ds.length ≤ 1000000)
    (h : ∀ d ∈ ds, ∀ post : D → Nat → Prop, post (f d) c → tg d (wipeR ρ vs) fun ρ' => me xe ρ' c post) (hq : Q (ds.map f) c) :
    ds.length ≤ 1000000 ∧ ∃ I : Nat → List D → Nat → Prop, I 0 [] c ∧
      (∀ i d acc c, ds[i]? = some d → I i acc c → tg d (wipeR ρ vs) fun ρ' => mYes xe ρ' c fun b c1 => if b = true then me xe ρ' c1 fun x c2 => I (i + 1) (acc ++ [x]) c2 else I (i + 1) acc c1) ∧ ∀ acc c, I ds.length acc c → Q acc c := by
  refine ⟨hl, fun i acc c' => c' = c ∧ acc = (ds.take i).map f, ⟨rfl, by simp⟩, fun i d acc c' hd ⟨h1, h2⟩ => ?_, fun acc c' ⟨h1, h2⟩ => ?_⟩
  · subst h1
    refine h d (List.mem_of_getElem? hd) _ ⟨rfl, ?_⟩
    obtain ⟨hi, e⟩ := List.getElem?_eq_some_iff.mp hd
    rw [h2, List.take_add_one, hd]
    simp
  · subst h1
    rw [h2, List.take_length]; exact hq
/-- with draws: each new item is of a kind, each turn draws k times -/
theorem lc_draw {tg : DG} {me : DE} {xe : XP} {ρ : Ro} {vs : List Nat} {c k : Nat} {ds : List D} {Q : List D → Nat → Prop} (P : D → Prop) (hl : ds.length ≤ 1000000)
    (h : ∀ d ∈ ds, ∀ c', c' ≤ c + k * ds.length → ∀ post : D → Nat → Prop, (∀ x c2, P x → c2 ≤ c' + k → post x c2) → tg d (wipeR ρ vs) fun ρ' => me xe ρ' c' post)
    (hq : ∀ l c', l.length = ds.length → (∀ x ∈ l, P x) → c' ≤ c + k * ds.length → Q l c') :
    ds.length ≤ 1000000 ∧ ∃ I : Nat → List D → Nat → Prop, I 0 [] c ∧
      (∀ i d acc c, ds[i]? = some d → I i acc c → tg d (wipeR ρ vs) fun ρ' => mYes xe ρ' c fun b c1 => if b = true then me xe ρ' c1 fun x c2 => I (i + 1) (acc ++ [x]) c2 else I (i + 1) acc c1) ∧ ∀ acc c, I ds.length acc c → Q acc c := by
  refine ⟨hl, fun i acc c' => c' ≤ c + k * i ∧ acc.length = i ∧ ∀ x ∈ acc, P x, ⟨by omega, rfl, fun x hx => nomatch hx⟩, fun i d acc c' hd ⟨h1, h2, h3⟩ => ?_, fun acc c' ⟨h1, h2, h3⟩ => hq acc c' h2 h3 h1⟩
  have hi : i < ds.length := (List.getElem?_eq_some_iff.mp hd).1
  have hk : k * i ≤ k * ds.length := Nat.mul_le_mul_left k (Nat.le_of_lt hi)
  refine h d (List.mem_of_getElem? hd) c' (by omega) _ fun x c2 hx hc => ⟨?_, by simp [h2], fun y hy => ?_⟩
  · have : k * (i + 1) = k * i + k := Nat.mul_succ k i
    omega
  · rcases List.mem_append.mp hy with z | z
    · exact h3 y z
    · cases List.mem_singleton.mp z; exact hx
/-! ### numbers -/
def gcdL (ns : List Int) : Nat := ns.foldl (fun g n => Nat.gcd g n.natAbs) 0
theorem gcdL_succ {ns : List Int} {i : Nat} {n : Int} (h : ns[i]? = some n) : gcdL (ns.take (i + 1)) = Nat.gcd (gcdL (ns.take i)) n.natAbs := by
  unfold gcdL
  rw [List.take_add_one, h, List.foldl_append]
  rfl
theorem gcd_fold_le : ∀ (ns : List Int) (g N : Nat), g < N → (∀ n ∈ ns, n.natAbs < N) → ns.foldl (fun g n => Nat.gcd g n.natAbs) g < N
  | [], g, N, h, _ => h
  | n :: ns, g, N, h, h2 => by
    refine gcd_fold_le ns _ N ?_ fun m hm => h2 m (List.mem_cons_of_mem _ hm)
    have hn := h2 n List.mem_cons_self
    show Nat.gcd g n.natAbs < N
    by_cases e : g = 0
    · subst e; rw [Nat.gcd_zero_left]; exact hn
    · exact Nat.lt_of_le_of_lt (Nat.gcd_le_left _ (Nat.pos_of_ne_zero e)) h
theorem gcdL_lt {ns : List Int} {N : Nat} (h0 : 0 < N) (h : ∀ n ∈ ns, n.natAbs < N) : gcdL ns < N := gcd_fold_le ns 0 N h0 h
theorem log2_of_lt {n k : Nat} (h : n < 2 ^ k) (hk : 0 < k) : n.log2 < k := PySem.Flt.log2_lt_of hk h
end Dm

namespace Dm
open PySem L2 Evl
/-! ### try .. several except clauses, with or without a name -/
/-- a clause: the class named, the slot and name of «as», the suite's reading -/
structure Hd where
  c : Value
  nm : Option (Nat × Str)
  ts : Addr → Value → Option Addr → TS
/-- behind a suite the name of «as» is gone -/
def endsNm (nm : Option (Nat × Str)) (N : Ends) : Ends := match nm with
  | none => N
  | some (i, _) => { nx := fun σ H => N.nx (σ.set i none) H, rt := N.rt, bk := fun σ H => N.bk (σ.set i none) H, ct := fun σ H => N.ct (σ.set i none) H }
def setNm (nm : Option (Nat × Str)) (a : Addr) (σ : St) : St := match nm with
  | none => σ
  | some (i, _) => σ.set i (some (.ref a))
def wHds (K : PySem.W.Frag) (Wout : WX) (N : Ends) : List Hd → WX
  | [] => Wout
  | h :: r => fun cls d σ H => ∃ b, PySem.W.exmOne K cls h.c = some b ∧ (b = true → ∀ a, H a = none → h.ts a cls d (endsNm h.nm N) (setNm h.nm a σ) H) ∧ (b = false → wHds K Wout N r cls d σ H)
inductive HdsR (X : Cx) : List ExceptHandler → List Hd → Prop
  | nil : HdsR X [] []
  | plain {x : Str} {c : Value} {ts : Addr → Value → Option Addr → TS} {b : Stmt} {bs : List Stmt} {p q : Pos} {hs : List ExceptHandler} {l : List Hd} (hc : Names X x c)
      (hb : ∀ (a : Addr) (o : Obj) (cls : Value) (d : Option Addr) (pn : List (Addr × Obj)), Zc cls d o → (∃ vs, o.data = .fields vs) → PSs (X.suite a ((a, o) :: pn)) (b :: bs) (ts a cls d)) (r : HdsR X hs l) :
      HdsR X (.ExceptHandler (some (.Name x p)) none (b :: bs) q :: hs) (⟨c, none, ts⟩ :: l)
  | named {x n : Str} {i : Nat} {c : Value} {ts : Addr → Value → Option Addr → TS} {b : Stmt} {bs : List Stmt} {p q : Pos} {hs : List ExceptHandler} {l : List Hd} (hc : Names X x c) (hN : X.N.Nodup) (hi : X.N[i]? = some n) (hl : X.env.kindOf n = some .local)
      (hb : ∀ (a : Addr) (o : Obj) (cls : Value) (d : Option Addr) (pn : List (Addr × Obj)), Zc cls d o → (∃ vs, o.data = .fields vs) → PSs (X.suite a ((a, o) :: pn)) (b :: bs) (ts a cls d)) (r : HdsR X hs l) :
      HdsR X (.ExceptHandler (some (.Name x p)) (some n) (b :: bs) q :: hs) (⟨c, some (i, n), ts⟩ :: l)
/-- an exception that a try has met: where it is, what is known of it -/
structure Met (X : Cx) (pins : List (Addr × Obj)) (B : Heap) (a : Addr) (cls : Value) (d : Option Addr) (σ : St) (H : Hp) (sI s : Shared) (h : Heap) : Prop where
  inv : Inv X pins σ H sI
  nb : ∀ b o, sI.heap.get? b = some o → b ∉ frs X.stack → B.get? b = some o
  up : sI.heap.UpToSlots h
  fl : HandSPX.FlyingZ B (X.env :: X.outer) a (Zc cls d) h
  na : H a = none
  os : s.os = sI.os
  ag : PyProof.Rows.AllBare s.gens
section
variable {X : Cx} {pins : List (Addr × Obj)} {B : Heap} {a : Addr} {cls : Value} {d : Option Addr} {σ : St} {H : Hp} {sI s : Shared} {h : Heap}
theorem Met.far (m : Met X pins B a cls d σ H sI s h) (hf : X.env.frame = some X.env.locals) : a ≠ X.env.locals ∧ a ∉ X.fs := by
  obtain ⟨o, vs, ho, _, hd⟩ := m.fl.there
  have out : a ∉ frs (X.env :: X.outer) := fun y => by
    obtain ⟨_, o', ho', n⟩ := m.fl.2.2.1.mem y
    rw [ho] at ho'
    cases ho'
    exact n _ hd
  exact ⟨fun z => out (List.mem_filterMap.mpr ⟨X.env, List.mem_cons_self, hf.trans (congrArg some z.symm)⟩), fun z => by
    obtain ⟨e, he, q⟩ := List.mem_filterMap.mp z
    exact out (List.mem_filterMap.mpr ⟨e, List.mem_cons_of_mem _ he, q⟩)⟩
theorem Met.here (m : Met X pins B a cls d σ H sI s h) : Inv X pins σ H { s with heap := h } := m.inv.landed (s' := { s with heap := h }) m.nb m.fl.1 m.up m.os m.ag
theorem names_eval {x : Str} {c : Value} {p : Pos} {pn : List (Addr × Obj)} {ps : List (Addr × Obj)} {s : Shared} {σ : St} (hc : Names X x c) (I : Inv (X.suite a pn) ps σ H s) {Q E : Value → Shared → Prop} (q : Q c s) :
    wpAny (model X.prog X.w) (X.A.mark (some (.ref a))) (eval (.Name x p) X.env) Q E s := by
  rcases hc with ⟨g, db, m | ⟨m, v, n⟩⟩
  · exact ld_glob (X := X.suite a pn) I g m q db
  · exact ld_blt (X := X.suite a pn) I g m v q n db
theorem handle_all {Wout : WX} {N : Ends} (hfr : X.A.frames = some (X.env :: X.outer)) (hs : X.stack = X.env :: X.outer) (hf : X.env.frame = some X.env.locals) (tk : Takes X Wout) (m : Met X pins B a cls d σ H sI s h) :
    ∀ {hs' : List ExceptHandler} {l : List Hd}, HdsR X hs' l → wHds X.K Wout N l cls d σ H → wpAny (model X.prog X.w) X.A (handleBy (.ref a) X.env hs') (SP X pins N) X.xe { s with heap := h } := by
  obtain ⟨nl, nf⟩ := m.far hf
  intro hs' l k
  induction k with
  | nil =>
    intro hw
    refine wpAny_handleBy_nil ?_
    obtain ⟨_, _, _, o, vs, T, _, _, ho, _, hd, h1, _⟩ := id m.fl
    unfold PySem.passOn
    have ne : ¬ ((Value.ref T == Value.none) = true) := by simp
    refine wpAny_bind (wpAny_field ho hd h1 ?_)
    rw [if_neg ne]
    have go : wpAny (model X.prog X.w) X.A (setFlight (.ref a) X.env.frame) (fun _ s4 => wpAny (model X.prog X.w) X.A (throw (.ref a) : Sem Flow) (SP X pins N) X.xe s4) X.xe { s with heap := h } := by
      rw [hf]
      exact HandSPX.setFlight_upZ m.fl fun h4 hh u => wpAny_throw (tk _ _ ⟨a, B, sI, pins, σ, H, cls, d, rfl, m.inv, m.nb, m.up.trans u, .inr (.inr (by rw [hs]; exact hh)), m.na, m.os, m.ag, hw⟩)
    first
      | exact wpAny_bind (wpAny_pure (wpAny_bind go))
      | exact wpAny_bind go
  | @plain x c ts b bs p q hs2 l2 hc hb r ih =>
    rintro ⟨v, hv, yes, no⟩
    obtain ⟨o, vs, ho, hz, hd⟩ := m.fl.there
    have I1 := m.here.suite ho hd m.na nl nf
    refine wpAny_handleBy_cons (codeAny_handlers_test ?_) nofun
    have look : PySem.W.Looks (model X.prog X.w) h (typeOf (.ref a)) cls := fun A Q E s k q => wpAny_typeOf_ref (k _ _ ho) (by rw [hz.1]; exact q)
    refine names_eval hc I1 ((PySem.W.exm_one (M := model X.prog X.w) m.here.kIn look hv).here ?_)
    cases v with
    | false => exact ih (no rfl)
    | true =>
      refine codeAny_handlers_suite (HandSPX.lands_againZ m.fl fun h4 fl4 u4 => ?_)
      have m4 : Met X pins B a cls d σ H sI s h4 := ⟨m.inv, m.nb, m.up.trans u4, fl4, m.na, m.os, m.ag⟩
      obtain ⟨o4, vs4, ho4, hz4, hd4⟩ := fl4.there
      have I4 := m4.here.suite ho4 hd4 m.na nl nf
      refine wpAny_mono ((hb a o4 cls d (X.pn ++ pins) hz4 ⟨_, hd4⟩).run [] _ _ H _ I4 (yes rfl a m.na)) (fun f s6 y => ?_) (fun _ _ z => z.elim)
      cases f with
      | ret u => obtain ⟨v6, σ6, H6, S6, r6, q6⟩ := y; exact ⟨v6, σ6, H6, S6.unsuite m.inv.ok, r6, q6⟩
      | _ => obtain ⟨σ6, H6, S6, q6⟩ := y; exact ⟨σ6, H6, S6.unsuite m.inv.ok, q6⟩
  | @named x n i c ts b bs p q hs2 l2 hc hN hi hl hb r ih =>
    rintro ⟨v, hv, yes, no⟩
    obtain ⟨o, vs, ho, hz, hd⟩ := m.fl.there
    have I1 := m.here.suite ho hd m.na nl nf
    refine wpAny_handleBy_cons (codeAny_handlers_test ?_) nofun
    have look : PySem.W.Looks (model X.prog X.w) h (typeOf (.ref a)) cls := fun A Q E s k q => wpAny_typeOf_ref (k _ _ ho) (by rw [hz.1]; exact q)
    refine names_eval hc I1 ((PySem.W.exm_one (M := model X.prog X.w) m.here.kIn look hv).here ?_)
    cases v with
    | false => exact ih (no rfl)
    | true =>
      refine codeAny_handlers_suite_as (HandSPX.lands_againZ m.fl fun h4 fl4 u4 => ?_)
      have m4 : Met X pins B a cls d σ H sI s h4 := ⟨m.inv, m.nb, m.up.trans u4, fl4, m.na, m.os, m.ag⟩
      obtain ⟨o4, vs4, ho4, hz4, hd4⟩ := fl4.there
      have I4 := m4.here.suite ho4 hd4 m.na nl nf
      have hloc : Loc X.env.scope n := .inl hl
      refine store_ok (X := X.suite a ((a, o4) :: (X.pn ++ pins))) (v := .ref a) I4 hN hi hloc rfl (fun s5 I5 => ?_) (.inr hl)
      refine wpAny_mono ((hb a o4 cls d (X.pn ++ pins) hz4 ⟨_, hd4⟩).run [] s5 _ H _ I5 (yes rfl a m.na)) (fun f s6 y => ?_) (fun _ _ z => z.elim)
      cases f with
      | ret u => obtain ⟨v6, σ6, H6, S6, r6, q6⟩ := y; exact gone_ok (S6.unsuite m.inv.ok) hN hi hl fun s7 J => ⟨_, _, _, J, r6, q6⟩
      | _ => obtain ⟨σ6, H6, S6, q6⟩ := y; exact gone_ok (S6.unsuite m.inv.ok) hN hi hl fun s7 J => ⟨_, _, J, q6⟩
end
theorem ps_tryH {X : Cx} {body : List Stmt} {h₀ : ExceptHandler} {hds : List ExceptHandler} {l : List Hd} {pos : Pos} {tb : WX → TS} {Wout : WX} (hs : X.stack = X.env :: X.outer) (hf : X.env.frame = some X.env.locals) (tk : Takes X Wout)
    (hb : ∀ (W : WX) (pn : List (Addr × Obj)) (xe : Value → Shared → Prop), Takes (X.tr pn xe) W → PassesOwn (model X.prog X.w) X.A X.env xe → PSs (X.tr pn xe) body (tb W)) (hh : HdsR X (h₀ :: hds) l) :
    PS X (.Try body (h₀ :: hds) [] [] pos) (fun N σ H => tb (wHds X.K Wout N l) N σ H) := by
  constructor
  intro pins s σ H N I hw
  have ok := I.ok
  have hfr : X.A.frames = some (X.env :: X.outer) := ok.frames.trans (congrArg some hs)
  refine wpAny_Try_except ?_
  have B0 := hb (wHds X.K Wout N l) (X.pn ++ pins) (fun e s₁ => wpAny (model X.prog X.w) X.A (noteFrame e X.env) (fun _ s₂ => wpAny (model X.prog X.w) X.A (setFlight e none) (fun _ s₃ => wpAny (model X.prog X.w) X.A (handleBy e X.env (h₀ :: hds)) (SP X pins N) X.xe s₃) X.xe s₂) X.xe s₁)
    (fun u s' xx => by
      obtain ⟨a, B, sI, pins', σ', H', cls, d, rfl, J2, nb, up, high, na, os, ag, w⟩ := xx
      have sk : Sky B (X.env :: X.outer) a (Zc cls d) X.env.locals s'.heap := hs ▸ high
      exact Sky.land Zc.steady hfr hf sk fun h3 fl3 up3 => handle_all hfr hs hf tk ⟨J2.ofTry ok, nb, up.trans up3, fl3, na, os, ag⟩ hh w) PassesOwn.looking
  refine wpAny_mono (B0.run [] s σ H N (I.toTry _) hw) (fun f s1 y => ?_) (fun _ _ z => z)
  cases f with
  | next => obtain ⟨σ', H', J, q⟩ := y; exact wpAny_execs_nil ⟨σ', H', J.ofTry ok, q⟩
  | ret u => obtain ⟨v, σ', H', J, r, q⟩ := y; exact ⟨v, σ', H', J.ofTry ok, r, q⟩
  | brk => obtain ⟨σ', H', J, q⟩ := y; exact ⟨σ', H', J.ofTry ok, q⟩
  | cont => obtain ⟨σ', H', J, q⟩ := y; exact ⟨σ', H', J.ofTry ok, q⟩
end Dm

namespace Dm
open PySem L2 Evl
/-! ### errors are made and raised -/
abbrev DMk := XP → Ro → Nat → (Err → Nat → Prop) → Prop
def SimMk (K : Cz) (W : WX) (t : St → Hp → XK → Prop) (m : DMk) : Prop := ∀ (p : Addr) (G0 H0 : Hp) (c : Nat) (G H : Hp) (σ : St) (ρ : Ro) (xe : XP) (Q : XK) (post : Err → Nat → Prop), WS K p G0 H0 c G H σ ρ → Xc K p G0 H0 xe W → m xe ρ c post →
  (∀ e c' cls d G' H', post e c' → Grow p G H G' H' → Wd K p c' G' H' → ErrR K p G' cls d e → Q cls d H') → t σ H Q
def mRaise (m : DMk) : DS := fun xe _ ρ c => m xe ρ c fun e c' => xe e ρ c'
theorem sim_raise {K : Cz} {W : WX} {t : St → Hp → XK → Prop} {m : DMk} (h : SimMk K W t m) : SimS K W (fun _ σ H => t σ H fun cls d H' => W cls d σ H') (mRaise m) := by
  intro p G0 H0 c G H σ ρ xe N E ws xc er q
  exact h p G0 H0 c G H σ ρ xe _ _ ws xc q fun e c' cls d G' H' y g w r => xc e ρ c' σ G' H' cls d (ws.grow g w) r y
/-- E(x), E a class with an __init__ that keeps x under f -/
def tMkE (mg : Str → Option Value) (nm f : Str) (te : TE) : St → Hp → XK → Prop := fun σ H Q => te σ H fun y H1 => ∀ C, mg nm = some (.ref C) → ∀ d, H1 d = none → Q (.ref C) (some d) (upd H1 d (.xd [(f, y)]))
/-- E(), E a class without one -/
def tMk0 (mg : Str → Option Value) (nm : Str) : St → Hp → XK → Prop := fun _ H Q => ∀ C, mg nm = some (.ref C) → Q (.ref C) none H
def mMkE (nm f : Str) (me : DE) : DMk := fun xe ρ c Q => me xe ρ c fun d c1 => Q ⟨nm, some (f, d)⟩ c1
def mMk0 (nm : Str) : DMk := fun _ _ c Q => Q ⟨nm, none⟩ c
section
variable {K : Cz} {W : WX}
theorem sim_mkE {nm f : Str} {te : TE} {me : DE} (h : SimE K W te me) : SimMk K W (tMkE K.mg nm f te) (mMkE nm f me) := by
  intro p G0 H0 c G H σ ρ xe Q post ws xc m k
  refine h p G0 H0 c G H σ ρ xe _ _ ws xc m fun d c1 v G1 H1 m1 g1 w1 r1 => ?_
  intro C hC dd hd
  have g2 : Grow p G1 H1 (upd G1 dd (.xd [(f, v)])) (upd H1 dd (.xd [(f, v)])) := Grow.laid hd w1.sub
  have w2 := w1.laid (o := .xd [(f, v)]) hd
  refine k _ c1 _ _ _ _ m1 (g1.tr g2 w2) w2 ⟨C, hC, rfl, fun f' x' z => ?_⟩
  cases z
  exact ⟨dd, v, rfl, upd_same, r1.up g2.ex⟩
theorem sim_mk0 {nm : Str} : SimMk K W (tMk0 K.mg nm) (mMk0 nm) := fun p G0 H0 c G H σ ρ xe Q post ws xc m k C hC =>
  k _ c _ _ G H m .refl ws.wd ⟨C, hC, rfl, fun _ _ z => nomatch z⟩
end
/-- the promise of such an __init__ -/
def spInitE (C : Addr) (f : Str) : Sp := fun vs H Q _ => ∃ (a : Addr) (y : V), vs = [.ref a, y] ∧ H a = some (exo a C none) ∧ ∀ dx, H dx = none → dx ≠ a → Q .non (upd (upd H dx (exd dx [(f, y)])) a (exo a C (some dx)))
/-- what is known of an own error class with such an __init__ -/
def OkErr (P : Program) (w : World) (K : PySem.W.Frag) (mg : Str → Option Value) (base : Heap) (nm f : Str) : Prop :=
  ∃ C fI fd, mg nm = some (.ref C) ∧ OexC K C ∧ PySem.W.findIn K (.ref C) "__init__" = some (some (.ref fI)) ∧ PySem.W.typeIn K (.ref fI) = some (.type "function") ∧ Binds K fd ["self", f] [] ∧ FnOk P w K mg base CX0 1 fI fd ["self", f] (spInitE C f)
/-- a reading may ask less -/
def tUp (te : TE) : TE := fun σ H Q => ∃ R : VK, te σ H R ∧ ∀ v H', R v H' → Q v H'
theorem pe_up {X : Cx} {e : Expr} {te : TE} (h : PE X e te) : PE X e (tUp te) := ⟨fun pins s σ H Q I ⟨R, hR, k⟩ => thn (h.run pins s σ H R I hR) fun u s1 ⟨v, H', I', r, q⟩ => ⟨v, H', I', r, k v H' q⟩⟩
theorem pmk_E {X : Cx} {nm f : Str} {j : Nat} {p pos : Pos} {e : Expr} {te : TE} (o : OkErr X.prog X.w X.K X.mg X.base nm f) (hr : Room j X.A) (hj : 2 ≤ j) (he : PE X e te) (hg : Gl X nm := by rfl) (hdb : (nm == ("__debug__" : Str)) = false := by decide)
    (hs : starEach [e] X.env = (false, eval e X.env) :: starEach [] X.env := by rfl) (hpl : (backTo pos (starEach [] X.env)).any (·.1) = false := by rfl) : PMk X (.Call (.Name nm p) [e] [] pos) (tMkE X.mg nm f te) := by
  obtain ⟨C, fI, fd, hm, T, iC, tI, hb, F⟩ := o
  intro pins s σ H Q I h
  refine pmk_oex (p := p) (pos := pos) T iC tI F (hr.mono hj) hb .nil (pass0 (X := X)) hg hm (pa_cons (pe_up he) pa_nil hs) hdb hs hpl pins s σ H Q I ⟨_, h, fun y H1 q => ?_⟩
  have q' := q C hm
  refine ⟨(by show 1 ≤ 1000; decide), fun a ha => ⟨a, y, rfl, upd_same, fun dx hdx hne => ?_⟩⟩
  have hd1 : H1 dx = none := by rw [upd_ne hne] at hdx; exact hdx
  refine ⟨rfl, dx, [(f, y)], upd_same, by rw [upd_ne hne]; exact upd_same, hd1, ?_⟩
  have e : upd (del (upd (upd (upd H1 a (exo a C none)) dx (exd dx [(f, y)])) a (exo a C (some dx))) a) dx (.xd [(f, y)]) = upd H1 dx (.xd [(f, y)]) := by
    funext b
    by_cases e1 : b = dx
    · subst e1; rw [upd_same, upd_same]
    · rw [upd_ne e1, upd_ne e1]
      by_cases e2 : b = a
      · subst e2; rw [del_same, ha]
      · rw [del_ne e2, upd_ne e2, upd_ne e1, upd_ne e2]
  rw [e]
  exact q' dx hd1
/-- an own error class without an __init__ -/
def OkErr0 (P : Program) (w : World) (K : PySem.W.Frag) (mg : Str → Option Value) (base : Heap) (nm : Str) : Prop :=
  ∃ C bmB, mg nm = some (.ref C) ∧ PySem.W.excIn K C bmB "ValueError.__new__" = true ∧ bmB = [.type "ValueError", .type "Exception", .type "BaseException", .type "object"] ∧ PySem.W.keepIn K (.ref C) = true ∧ PySem.W.subIn K (.ref C) (.type "BaseException") = some true ∧ PySem.W.typeIn K (.ref C) = some (.type "type")
/-- a call of a def that may raise -/
def OkX (sp : Sp) (P : Program) (w : World) (K : PySem.W.Frag) (mg : Str → Option Value) (base : Heap) (k : Nat) (x : Str) (ps : List Str) : Prop :=
  ∃ f fd, mg x = some (.ref f) ∧ PySem.W.keepIn K (.ref f) = true ∧ Binds K fd ps [] ∧ FnOk P w K mg base (L2.CX P w) k f fd ps sp
theorem pe_callX {X : Cx} {W : WX} {k j : Nat} {x : Str} {ps : List Str} {sp : Sp} {p pos : Pos} {e : Expr} {es : List Expr} {t : TA} (o : OkX sp X.prog X.w X.K X.mg X.base k x ps) (hr : Room j X.A) (hk : k ≤ j) (tk : Takes X W) (ha : PA X (e :: es) t) (hg : Gl X x := by rfl) (hdb : (x == ("__debug__" : Str)) = false := by decide)
    (he : starEach (e :: es) X.env = (false, eval e X.env) :: starEach es X.env := by rfl) (hpl : (backTo pos (starEach es X.env)).any (·.1) = false := by rfl) : PE X (.Call (.Name x p) (e :: es) [] pos) (tCallS sp (WE W) t) := by
  obtain ⟨f, fd, hm, hkp, hb, F⟩ := o
  exact pe_callS F (hr.mono hk) hg hm hkp hb (fun σ => passAt tk σ) ha hdb he hpl
theorem sim_callX {K : Cz} {W : WX} {f : DF} {ta : TA} {ma : DL} (ha : SimA K W ta ma) : SimE K W (tCallS (spS K f) (WE W) ta) (mCall f ma) := by
  intro p G0 H0 c G H σ ρ xe Q post ws xc m k
  refine ha p G0 H0 c G H σ ρ xe _ _ ws xc m fun ds c1 vs G1 H1 m1 g1 w1 r1 => ?_
  refine ⟨p, G1, c1, ds, _, post, w1, r1, m1, fun d c2 v G2 H2 m2 g2 w2 r2 => k d c2 v G2 H2 m2 (g1.tr g2 w2) w2 r2, fun e c2 cls dd G2 H2 m2 g2 w2 r2 => ?_⟩
  exact xc e ρ c2 σ G2 H2 cls dd (ws.grow (g1.tr g2 w2) w2) r2 m2
/-! ### try -/
structure DHd where
  nm : Str
  slot : Option Nat
  ts : Addr → Value → Option Addr → DS
/-- which class is caught by which -/
abbrev Tab := List (Str × Str × Bool)
def Tab.get (T : Tab) (a b : Str) : Option Bool := (T.find? fun x => x.1 == a && x.2.1 == b).map (·.2.2)
def Tab.Ok (K : Cz) (T : Tab) : Prop := ∀ a b v, T.get a b = some v → ∀ Ca Cb, K.mg a = some (.ref Ca) → K.mg b = some (.ref Cb) → PySem.W.exmOne K.K (.ref Ca) (.ref Cb) = some v
def dEnds (sl : Option Nat) (E : DEnds) : DEnds := match sl with
  | none => E
  | some i => { E with nx := fun ρ c => E.nx (ρ.set i .no) c, bk := fun ρ c => E.bk (ρ.set i .no) c, ct := fun ρ c => E.ct (ρ.set i .no) c }
def dSet (sl : Option Nat) (a : Addr) (cls : Value) (d : Option Addr) (e : Err) (ρ : Ro) : Ro := match sl with
  | none => ρ
  | some i => ρ.set i (.exc a cls d e)
def hOf (T : Tab) (xe : XP) (E : DEnds) : List DHd → XP
  | [] => xe
  | h :: r => fun e ρ c => match T.get e.nm h.nm with
    | some true => ∀ a cls d, h.ts a cls d (fun _ _ _ => False) (dEnds h.slot E) (dSet h.slot a cls d e ρ) c
    | some false => hOf T xe E r e ρ c
    | none => False
inductive HR (K : Cz) : List Hd → List DHd → Prop
  | nil : HR K [] []
  | plain {C : Addr} {nm : Str} {ts : Addr → Value → Option Addr → TS} {ms : Addr → Value → Option Addr → DS} {l : List Hd} {l' : List DHd} (h : K.mg nm = some (.ref C)) (s : ∀ a cls d, SimS K (fun _ _ _ _ => False) (ts a cls d) (ms a cls d)) (r : HR K l l') : HR K (⟨.ref C, none, ts⟩ :: l) (⟨nm, none, ms⟩ :: l')
  | named {C : Addr} {nm n : Str} {i : Nat} {ts : Addr → Value → Option Addr → TS} {ms : Addr → Value → Option Addr → DS} {l : List Hd} {l' : List DHd} (h : K.mg nm = some (.ref C)) (s : ∀ a cls d, SimS K (fun _ _ _ _ => False) (ts a cls d) (ms a cls d)) (r : HR K l l') : HR K (⟨.ref C, some (i, n), ts⟩ :: l) (⟨nm, some i, ms⟩ :: l')
def mTry (T : Tab) (mb : DS) (hs : List DHd) : DS := fun xe E ρ c => mb (hOf T xe E hs) E ρ c
theorem EnvR.setExc {K : Cz} {p : Addr} {H0 G H : Hp} {σ : St} {ρ : Ro} {i : Nat} {a : Addr} {cls : Value} {d : Option Addr} {e : Err} (h : EnvR K p H0 G H σ ρ) (r : ErrR K p G cls d e) : EnvR K p H0 G H (σ.set i (some (.ref a))) (ρ.set i (.exc a cls d e)) := h.put (.exc r) fun _ _ _ _ _ _ _ z => absurd z reg_exc
theorem sim_try {K : Cz} {Wout : WX} {T : Tab} (hT : T.Ok K) {tb : WX → TS} {mb : DS} {l : List Hd} {l' : List DHd} (hb : ∀ W, SimS K W (tb W) mb) (hh : HR K l l') : SimS K Wout (fun N σ H => tb (wHds K.K Wout N l) N σ H) (mTry T mb l') := by
  intro p G0 H0 c G H σ ρ xe N E ws xc er m
  refine hb _ p G0 H0 c G H σ ρ _ N E ws ?_ er m
  clear m ws hb
  induction hh with
  | nil => exact xc
  | @plain C nm ts ms l l' hC s r ih =>
    intro e ρ' c' σ' G' H' cls d ws' re q
    obtain ⟨Ce, h1, h2, h3⟩ := id re
    simp only [hOf] at q
    split at q
    · rename_i ht
      refine ⟨true, by rw [h2]; exact hT _ _ _ ht _ _ h1 hC, fun _ a ha => ?_, (fun z => (nomatch z))⟩
      exact s a cls d p G0 H0 c' G' H' σ' ρ' _ N E ws' (fun _ _ _ _ _ _ _ _ _ _ z => z.elim) er (q a cls d)
    · rename_i ht
      exact ⟨false, by rw [h2]; exact hT _ _ _ ht _ _ h1 hC, (fun z => (nomatch z)), fun _ => ih e ρ' c' σ' G' H' cls d ws' re q⟩
    · exact q.elim
  | @named C nm n i ts ms l l' hC s r ih =>
    intro e ρ' c' σ' G' H' cls d ws' re q
    obtain ⟨Ce, h1, h2, h3⟩ := id re
    simp only [hOf] at q
    split at q
    · rename_i ht
      refine ⟨true, by rw [h2]; exact hT _ _ _ ht _ _ h1 hC, fun _ a ha => ?_, (fun z => (nomatch z))⟩
      refine s a cls d p G0 H0 c' G' H' (σ'.set i (some (.ref a))) (ρ'.set i (.exc a cls d e)) _ _ (dEnds (some i) E) ⟨ws'.gr, ws'.wd, ws'.en.setExc re⟩ (fun _ _ _ _ _ _ _ _ _ _ z => z.elim) ⟨fun σ ρ c G H y z => er.nx _ _ _ _ _ y.setNo z, fun σ ρ c G H y z => er.bk _ _ _ _ _ y.setNo z, fun σ ρ c G H y z => er.ct _ _ _ _ _ y.setNo z, er.rt, er.rtN⟩ (q a cls d)
    · rename_i ht
      exact ⟨false, by rw [h2]; exact hT _ _ _ ht _ _ h1 hC, (fun z => (nomatch z)), fun _ => ih e ρ' c' σ' G' H' cls d ws' re q⟩
    · exact q.elim
/-- e.f, e the handled error -/
def mXf (nm f : Str) (a : Addr) (cls : Value) (d : Option Addr) (i : Nat) : DE := fun _ ρ c Q => match ρ[i]? with
  | some (.exc a' cls' d' e) => (a' = a ∧ cls' = cls ∧ d' = d ∧ e.nm = nm) ∧ (match e.arg with | some (g, x) => g = f ∧ Q x c | none => False)
  | _ => False
theorem sim_xf {K : Cz} {W : WX} {nm f : Str} {C a : Addr} {cls : Value} {d : Option Addr} {i : Nat} (hC : K.mg nm = some (.ref C)) : SimE K W (tXf a cls d C f (tVar i)) (mXf nm f a cls d i) := by
  intro p G0 H0 c G H σ ρ xe Q post ws xc m k
  unfold mXf at m
  split at m
  · rename_i a' cls' d' e he
    obtain ⟨⟨rfl, rfl, rfl, hn⟩, m⟩ := m
    obtain ⟨o, h1, h2⟩ := ws.en.get he
    cases h2 with
    | exc re =>
      obtain ⟨Ce, q1, q2, q3⟩ := re
      rw [hn, hC] at q1
      cases q1
      split at m
      · rename_i g x hx
        obtain ⟨rfl, m⟩ := m
        obtain ⟨dd, v, z1, z2, z3⟩ := q3 _ _ hx
        exact ⟨_, h1, rfl, q2, dd, _, v, z1, ws.wd.sub _ _ z2, by simp [List.lookup], k x c v G H m .refl ws.wd z3⟩
      · exact m.elim
  · exact m.elim
end Dm

namespace Dm
open PySem L2 Evl
open PyProof.Rows (envOfC)
/-! ### defs that are called while an exception is handled -/
structure FnC (P : Program) (w : World) (K : PySem.W.Frag) (mg : Str → Option Value) (base : Heap) (k : Nat) (f : Addr) (fd : FuncData) (ps : List Str) (sp : Sp) : Prop where
  many : ∀ vs H Q, sp vs H Q E0 → vs.length = ps.length
  goes : ∀ (B : Around) (fr : List Env) (q : Shared) (H : Hp) (us : List Value) (vs : List V) (Q : VK) (z : Addr × Obj), L2H.RoomH k B → L2H.PinOk fr H q z → Env0 P w K mg base B fr q H → BindsTo q fd ⟨us, []⟩ (ps.zip us) → Vals vs us → sp vs H Q E0 →
    codeAny (model P w) B (.call (.ref f) ⟨us, []⟩) (CR CX0 fr P w H q Q E0) q
theorem fnC {P : Program} {w : World} {K : PySem.W.Frag} {mg : Str → Option Value} {base : Heap} {x qual : Str} {st : Stmt} {f : Addr} {fd : FuncData} {N ps : List Str} {k : Nat} {mf : DF} {mb : DS} (F : Fun K x qual st f fd) (S : FnScope N ps (defScope st))
    (hb : ∀ (cdv : Value) (B : Around) (fr : List Env) (q : Shared) (H : Hp) (z : Addr × Obj), L2H.RoomH k (B.deeper (envOfC qual (defScope st) q.heap.objs.size f cdv)) →
      ∃ t, PSs (L2H.cxH CX0 P w K mg base N qual (defScope st) f cdv B fr q H E0 z).nox (defBody st) t ∧ SimS ⟨K, mg⟩ (fun _ _ _ _ => False) t mb)
    (hm : ∀ ds c xe rt, mf xe ds c rt → ds.length = ps.length ∧ mb (fun _ _ _ => False) { nx := fun _ c' => rt .non c', rt := rt, rtN := rt } (ro0 N ds) c) : FnC P w K mg base (k + 1) f fd ps (spS ⟨K, mg⟩ mf) := by
  obtain ⟨oc, od, kV, doc, pm, an, cdv, ct, osl, rfl, at1, code⟩ := F.ex
  have many : ∀ vs H Q, spS ⟨K, mg⟩ mf vs H Q E0 → vs.length = ps.length := fun vs H Q ⟨p, G, c, ds, xe, rt, w1, r, q, _⟩ => by rw [r.len]; exact (hm ds c xe rt q).1
  refine ⟨many, fun B fr q H us vs Q z room pin e0 bind vals say => ?_⟩
  have count := many _ _ _ say
  have kept : K.In q.heap := e0.mod.kin.keeps fun b o e => (e0.bs b o e).1
  have free : q.heap.NoLimit := e0.mod.nolimit.keeps fun b o e => (e0.bs b o e).1
  refine codeAny_call_function room.depth (kept _ _ at1) rfl S.co S.gen rfl (PySem.W.codeRec_of kept code) (bind _ _ _ _ ?_)
  refine wpAny_newFunctionEnv_cells S.kind (fun ⟨n, v⟩ hy => (S.par n (List.of_mem_zip hy).1).elim .inl fun y => .inr ⟨y, PySem.W.cellsFrom_some _ _ _ (.inl y)⟩) fun env he s1 y => ?_
  subst he
  refine ⟨free.keeps y.toInCall.keep, codeAny_func ?_⟩
  obtain ⟨t, run, sim⟩ := hb cdv B fr q H z (room.deeper _)
  obtain ⟨p, G, c, ds, xe, rt, w1, r, say1, k1, k2⟩ := id say
  have I := L2H.inv_startH (CX := CX0) (E := E0) (mg := mg) S pin e0 count vals y
  have go := sim p G H c G H _ _ (fun _ _ _ => False) { nx := fun _ H' => Q .non H', rt := Q } { nx := fun _ c' => rt .non c', rt := rt, rtN := rt } ⟨.refl, w1, env_start (N := N) r⟩ (fun _ _ _ _ _ _ _ _ _ _ z => z) ⟨fun σ ρ c G' H' ws z => k1 _ _ _ _ _ z ws.gr ws.wd .non, fun σ ρ c G' H' ws z => z, fun σ ρ c G' H' ws z => z, fun v d c G' H' gr wd rp z => k1 _ _ _ _ _ z gr wd rp, fun v d c F G' H' gr wd hf rp z => let m := melt_ends gr wd hf; k1 _ _ _ _ _ z m.1 m.2 rp.rp⟩ (hm ds c xe rt say1).2
  refine wpAny_mono (run.nox.run [] s1 _ H _ I go) (fun fl s2 e => ?_) fun e s2 y => y
  cases fl with
  | ret u => obtain ⟨v, σ2, H2, J, a1, a2⟩ := e; exact ⟨v, H2, J.os, J.bare, J.base, J.hok, a1, a2⟩
  | next => obtain ⟨σ2, H2, J, a2⟩ := e; exact ⟨.non, H2, J.os, J.bare, J.base, J.hok, rfl, a2⟩
  | brk => obtain ⟨_, _, _, a⟩ := e; exact a.elim
  | cont => obtain ⟨_, _, _, a⟩ := e; exact a.elim
/-- the same as a fact of a name -/
def OkC (P : Program) (w : World) (K : PySem.W.Frag) (mg : Str → Option Value) (base : Heap) (k : Nat) (x : Str) (ps : List Str) (mf : DF) : Prop :=
  ∃ f fd, mg x = some (.ref f) ∧ PySem.W.keepIn K (.ref f) = true ∧ Binds K fd ps [] ∧ FnC P w K mg base k f fd ps (spS ⟨K, mg⟩ mf)
section
variable {X : Cx} {k j : Nat} {x : Str} {ps : List Str} {mf : DF} {p pos : Pos} {e : Expr} {es : List Expr} {t : TA}
theorem pe_callC {z : Addr × Obj} (o : OkC X.prog X.w X.K X.mg X.base k x ps mf) (hr : L2H.RoomH j X.A) (hk : k ≤ j) (hz : z ∈ X.pn) (ha : PA X (e :: es) t) (hg : Gl X x := by rfl) (hdb : (x == ("__debug__" : Str)) = false := by decide)
    (he : starEach (e :: es) X.env = (false, eval e X.env) :: starEach es X.env := by rfl) (hpl : (backTo pos (starEach es X.env)).any (·.1) = false := by rfl) : PE X (.Call (.Name x p) (e :: es) [] pos) (tCall (spS ⟨X.K, X.mg⟩ mf) [] E0 t) := by
  obtain ⟨f, fd, hm, hkp, hb, F⟩ := o
  refine ⟨fun pins s σ H Q I h => wpAny_Call_Name_kw (ld_glob I hg hm ?_ hdb)⟩
  refine PySem.W.callWith_K (h₀ := X.base) I.ok.mod.kin hkp (thn (ha.run pos pins s σ H _ I h) fun us s1 ⟨vs, H1, I1, r, q⟩ => ⟨I1.kIn, ?_⟩) he hpl
  have q : spS ⟨X.K, X.mg⟩ mf vs H1 Q E0 := by have q' : spS ⟨X.K, X.mg⟩ mf (vs ++ []) H1 Q E0 := q; rwa [List.append_nil] at q'
  have count : us.length = ps.length := by rw [← r.length]; exact F.many _ _ _ q
  have bd := hb s1 us I1.kIn (by rw [List.append_nil]; exact count)
  rw [List.append_nil] at bd
  have P1 := I1.pin z (List.mem_append_left _ hz)
  have pin : L2H.PinOk X.stack H1 s1 z := ⟨P1.1, P1.2.1, fun y => (List.mem_cons.mp (I1.stkSub z.1 y)).elim P1.2.2.1 P1.2.2.2.1, P1.2.2.2.2⟩
  refine wpAny_call (codeAny_mono (F.goes X.A X.stack s1 H1 us vs Q z (hr.mono hk) pin I1.env0 bd r q) fun r s2 y => ?_)
  cases r with
  | error e => exact y.elim
  | ok fl =>
    cases fl with
    | ret u => exact I1.after y
    | next => exact y.elim
    | brk => exact y.elim
    | cont => exact y.elim
end
theorem suiteRoom {X : Cx} {k : Nat} {a : Addr} {pn : List (Addr × Obj)} (hr : Room k X.A) : L2H.RoomH k (X.suite a pn).A := ⟨hr.dp, hr.un⟩
/-! ### defs with defaults -/
theorem fnSXD {P : Program} {w : World} {K : PySem.W.Frag} {mg : Str → Option Value} {base : Heap} {x qual : Str} {st : Stmt} {f : Addr} {fd : FuncData} {N ps : List Str} {k : Nat} {mf : DF} {mb : DS} {dvs : List V} (F : FunD K x qual (defArgs st) (defBody st) (defScope st) dvs [] f fd) (S : FnScope N ps (defScope st))
    (hb : ∀ (cdv : Value) (A : Around) (outer : List Env) (s : Shared) (H : Hp) (E : XK), Room k (A.deeper (envOfC qual (defScope st) s.heap.objs.size f cdv)) →
      ∃ t, PSs (cxOf (L2.CX P w) P w K mg base N qual (defScope st) f cdv A outer s H E) (defBody st) t ∧ SimS ⟨K, mg⟩ (fun cls d _ H => E cls d H) t mb)
    (hm : ∀ ds c xe rt, mf xe ds c rt → ds.length = ps.length ∧ mb (fun e _ c' => xe e c') { nx := fun _ c' => rt .non c', rt := rt, rtN := rt } (ro0 N ds) c) : FnOk P w K mg base (L2.CX P w) (k + 1) f fd ps (spS ⟨K, mg⟩ mf) := by
  refine F.ok S (fun vs H Q E h => ?_) (fun cdv A outer s H vs Q E hr h => ?_)
  · obtain ⟨p, G, c, ds, xe, rt, w1, r, q, _⟩ := h
    rw [r.len]; exact (hm ds c xe rt q).1
  · obtain ⟨p, G, c, ds, xe, rt, w1, r, q, k1, k2⟩ := h
    obtain ⟨t, h1, h2⟩ := hb cdv A outer s H E hr
    refine ⟨t, h1, h2 p G H c G H _ _ (fun e _ c' => xe e c') _ { nx := fun _ c' => rt .non c', rt := rt, rtN := rt } ⟨.refl, w1, env_start r⟩ (fun e ρ c σ G' H' cls d ws er z => k2 e c cls d G' H' z ws.gr ws.wd er) ⟨fun σ ρ c G' H' ws z => k1 _ _ _ _ _ z ws.gr ws.wd .non, fun σ ρ c G' H' ws z => z, fun σ ρ c G' H' ws z => z, fun v d c G' H' gr wd rp z => k1 _ _ _ _ _ z gr wd rp, fun v d c F G' H' gr wd hf rp z => let m := melt_ends gr wd hf; k1 _ _ _ _ _ z m.1 m.2 rp.rp⟩ (hm ds c xe rt q).2⟩
/-- f(e), one default behind it -/
def OkXD (sp : Sp) (P : Program) (w : World) (K : PySem.W.Frag) (mg : Str → Option Value) (base : Heap) (k : Nat) (x : Str) (ps : List Str) (dvs : List V) : Prop :=
  ∃ f fd ds, mg x = some (.ref f) ∧ PySem.W.keepIn K (.ref f) = true ∧ Binds K fd ps ds ∧ Vals dvs ds ∧ FnOk P w K mg base (L2.CX P w) k f fd ps sp
/-- the reading of a call that fills up with one int -/
def tCallD (sp : Sp) (E : St → XK) (i : Int) (t : TA) : TE := fun σ H Q => t σ H fun vs H1 => sp (vs ++ [.int i]) H1 Q (E σ)
theorem pe_callXD {X : Cx} {W : WX} {k j : Nat} {x : Str} {ps : List Str} {sp : Sp} {p pos : Pos} {e : Expr} {es : List Expr} {t : TA} {i : Int} (o : OkXD sp X.prog X.w X.K X.mg X.base k x ps [.int i]) (hr : Room j X.A) (hk : k ≤ j) (tk : Takes X W) (ha : PA X (e :: es) t) (hg : Gl X x := by rfl) (hdb : (x == ("__debug__" : Str)) = false := by decide)
    (he : starEach (e :: es) X.env = (false, eval e X.env) :: starEach es X.env := by rfl) (hpl : (backTo pos (starEach es X.env)).any (·.1) = false := by rfl) : PE X (.Call (.Name x p) (e :: es) [] pos) (tCallD sp (WE W) i t) := by
  obtain ⟨f, fd, ds, hm, hkp, hb, hd, F⟩ := o
  refine ⟨fun pins s σ H Q I h => wpAny_Call_Name_kw (ld_glob I hg hm ?_ hdb)⟩
  refine PySem.W.callWith_K (h₀ := X.base) I.ok.mod.kin hkp (thn (ha.run pos pins s σ H _ I h) fun us s1 ⟨vs, H1, I1, r, q⟩ => ⟨I1.kIn, ?_⟩) he hpl
  have r2 : Vals (vs ++ [.int i]) (us ++ ds) := r.append hd
  have hl : (us ++ ds).length = ps.length := by rw [← r2.length]; exact F.len _ _ _ _ q
  refine wpAny_call (codeAny_mono (F.run X.A X.stack s1 H1 ⟨us, []⟩ (us ++ ds) _ Q _ (hr.mono hk) I1.env0 (hb s1 us I1.kIn hl) r2 q) fun r s2 y => ?_)
  cases r with
  | error e => exact passAt tk σ pins H1 s1 e s2 I1 y
  | ok fl =>
    cases fl with
    | ret u => exact I1.after y
    | next => exact y.elim
    | brk => exact y.elim
    | cont => exact y.elim
/-- f(b = .., a = ..), the parameters a, b -/
def OkXK (sp : Sp) (P : Program) (w : World) (K : PySem.W.Frag) (mg : Str → Option Value) (base : Heap) (k : Nat) (x a b : Str) : Prop :=
  ∃ f fd, mg x = some (.ref f) ∧ PySem.W.keepIn K (.ref f) = true ∧ (∀ (s : Shared) (u v : Value), K.In s.heap → BindsTo s fd ⟨[], [(b, u), (a, v)]⟩ [(a, v), (b, u)]) ∧ FnOk P w K mg base (L2.CX P w) k f fd [a, b] sp
def tCallB (sp : Sp) (E : St → XK) (t : TA) : TE := fun σ H Q => t σ H fun vs H1 => ∃ u v, vs = [u, v] ∧ sp [v, u] H1 Q (E σ)
theorem pe_callXK {X : Cx} {W : WX} {k j : Nat} {x a b : Str} {sp : Sp} {p pos : Pos} {kws : List Keyword} {t : TA} (o : OkXK sp X.prog X.w X.K X.mg X.base k x a b) (hr : Room j X.A) (hk : k ≤ j) (tk : Takes X W) (hkw : PK X kws t) (hks : (backToKw pos (keywordEach kws X.env)).filterMap (·.1) = [b, a] := by rfl) (hg : Gl X x := by rfl) (hdb : (x == ("__debug__" : Str)) = false := by decide)
    (hall : (backToKw pos (keywordEach kws X.env)).all (·.1.isSome) = true := by rfl) (hpl : ((backTo pos (starEach [] X.env)).any (·.1) || (backToKw pos (keywordEach kws X.env)).any (·.1.isNone)) = false := by rfl) : PE X (.Call (.Name x p) [] kws pos) (tCallB sp (WE W) t) := by
  obtain ⟨f, fd, hm, hkp, hb, F⟩ := o
  refine ⟨fun pins s σ H Q I h => wpAny_Call_Name_kw (ld_glob I hg hm ?_ hdb)⟩
  refine PySem.W.callWith_KW0 (h₀ := X.base) I.ok.mod.kin hkp hall (thn (hkw.run pos pins s σ H _ I h) fun ws s1 ⟨vs, H1, I1, r, u, v, e, q⟩ => ⟨I1.kIn, ?_⟩) hpl
  rw [hks]
  subst e
  cases r with
  | cons r1 r2 =>
    cases r2 with
    | cons r2 r3 =>
      cases r3
      refine wpAny_call (codeAny_mono (F.run X.A X.stack s1 H1 ⟨[], _⟩ [_, _] _ Q _ (hr.mono hk) I1.env0 (hb s1 _ _ I1.kIn) (.cons r2 (.cons r1 .nil)) q) fun r s2 y => ?_)
      cases r with
      | error e => exact passAt tk σ pins H1 s1 e s2 I1 y
      | ok fl =>
        cases fl with
        | ret u => exact I1.after y
        | next => exact y.elim
        | brk => exact y.elim
        | cont => exact y.elim
section
variable {K : Cz} {W : WX}
def mCallD (f : DF) (i : Int) (ma : DL) : DE := fun xe ρ c Q => ma xe ρ c fun ds c1 => f (fun e c2 => xe e ρ c2) (ds ++ [.int i]) c1 Q
theorem sim_callD {f : DF} {i : Int} {ta : TA} {ma : DL} (ha : SimA K W ta ma) : SimE K W (tCallD (spS K f) (WE W) i ta) (mCallD f i ma) := by
  intro p G0 H0 c G H σ ρ xe Q post ws xc m k
  refine ha p G0 H0 c G H σ ρ xe _ _ ws xc m fun ds c1 vs G1 H1 m1 g1 w1 r1 => ?_
  refine ⟨p, G1, c1, ds ++ [.int i], _, post, w1, r1.append (.cons (.int i) .nil), m1, fun d c2 v G2 H2 m2 g2 w2 r2 => k d c2 v G2 H2 m2 (g1.tr g2 w2) w2 r2, fun e c2 cls dd G2 H2 m2 g2 w2 r2 => ?_⟩
  exact xc e ρ c2 σ G2 H2 cls dd (ws.grow (g1.tr g2 w2) w2) r2 m2
def mCallB (f : DF) (ma : DL) : DE := fun xe ρ c Q => ma xe ρ c fun ds c1 => match ds with | [u, v] => f (fun e c2 => xe e ρ c2) [v, u] c1 Q | _ => False
theorem sim_callB {f : DF} {ta : TA} {ma : DL} (ha : SimA K W ta ma) : SimE K W (tCallB (spS K f) (WE W) ta) (mCallB f ma) := by
  intro p G0 H0 c G H σ ρ xe Q post ws xc m k
  refine ha p G0 H0 c G H σ ρ xe _ _ ws xc m fun ds c1 vs G1 H1 m1 g1 w1 r1 => ?_
  split at m1
  · rename_i u v
    obtain ⟨x, y, rfl, ru, rv⟩ := r1.two
    refine ⟨x, y, rfl, p, G1, c1, [v, u], _, post, w1, .cons rv (.cons ru .nil), m1, fun d c2 v G2 H2 m2 g2 w2 r2 => k d c2 v G2 H2 m2 (g1.tr g2 w2) w2 r2, fun e c2 cls dd G2 H2 m2 g2 w2 r2 => ?_⟩
    exact xc e ρ c2 σ G2 H2 cls dd (ws.grow (g1.tr g2 w2) w2) r2 m2
  · exact m1.elim
end
/-- an error class with `def __init__(self, f): self.f = f` -/
theorem okErr {P : Program} {w : World} {K : PySem.W.Frag} {mg : Str → Option Value} {base : Heap} {nm f qual : Str} {C fI : Addr} {fd : FuncData} {st : Stmt} {p1 p2 p3 p4 : Pos} (hm : mg nm = some (.ref C)) (T : OexC K C) (hno : PySem.W.findIn K (.ref C) f = some none)
    (iC : PySem.W.findIn K (.ref C) "__init__" = some (some (.ref fI))) (tI : PySem.W.typeIn K (.ref fI) = some (.type "function")) (F : Fun K "__init__" qual st fI fd) (S : FnScope ["self", f] ["self", f] (defScope st)) (hb : Binds K fd ["self", f] [])
    (hf : (f == ("__debug__" : Str)) = false) (hf2 : (f == ("__classdict__" : Str)) = false) (hv : ∀ cdv n, Vis (envOfC qual (defScope st) n fI cdv).scope "self" ∧ Vis (envOfC qual (defScope st) n fI cdv).scope f) (body : defBody st = [.Assign [.Attribute (.Name "self" p1) f p2] (.Name f p3) p4]) : OkErr P w K mg base nm f := by
  refine ⟨C, fI, fd, hm, T, iC, tI, hb, F.ok S (fun vs H Q E h => ?_) (fun cdv A outer s H vs Q E hr h => ?_)⟩
  · obtain ⟨a, y, rfl, _⟩ := h; rfl
  · obtain ⟨a, y, rfl, h1, h2⟩ := h
    rw [body]
    refine ⟨_, pss_one (ps_ost (pv 0 rfl (hv _ _).1 (by decide)) (pv 1 rfl (hv _ _).2 hf hf2)), ?_⟩
    exact ⟨y, rfl, .ref a, rfl, a, C, rfl, T, hno, .inl ⟨h1, fun dx q1 q2 => h2 dx q1 q2⟩⟩
/-- what stands for the default -/
theorem packD {P : Program} {w : World} {K : PySem.W.Frag} {mg : Str → Option Value} {base : Heap} {k : Nat} {x a b : Str} {f : Addr} {fd : FuncData} {st : Stmt} {sp : Sp} {i : Int} (F : FunD K x x (defArgs st) (defBody st) (defScope st) [.int i] [] f fd) (hm : mg x = some (.ref f)) (o : FnOk P w K mg base (L2.CX P w) k f fd [a, b] sp)
    (h2 : ∀ (T : Addr) (kV doc pm : Value) (an : Option Addr) (cdv ct : Value) (us its : List Value), us.length = 2 → its.length = 1 →
      ∃ r, PySem.bindArgs (PySem.W.fnOf x x (defArgs st) (defBody st) (defScope st) (.ref T) kV doc pm an cdv ct) ⟨us, []⟩ = seqItems? (.ref T) >>= r ∧ r (some its.toArray) = pure ([a, b].zip (us ++ its.drop 1)))
    (h1 : ∀ (T : Addr) (kV doc pm : Value) (an : Option Addr) (cdv ct : Value) (us its : List Value), us.length = 1 → its.length = 1 →
      ∃ r, PySem.bindArgs (PySem.W.fnOf x x (defArgs st) (defBody st) (defScope st) (.ref T) kV doc pm an cdv ct) ⟨us, []⟩ = seqItems? (.ref T) >>= r ∧ r (some its.toArray) = pure ([a, b].zip (us ++ its.drop 0)))
    (h0 : ∀ (T : Addr) (kV doc pm : Value) (an : Option Addr) (cdv ct u v d : Value),
      ∃ r, PySem.bindArgs (PySem.W.fnOf x x (defArgs st) (defBody st) (defScope st) (.ref T) kV doc pm an cdv ct) ⟨[], [(b, u), (a, v)]⟩ = seqItems? (.ref T) >>= r ∧ r (some #[d]) = pure [(a, v), (b, u)]) :
    OkX sp P w K mg base k x [a, b] ∧ OkXD sp P w K mg base k x [a, b] [.int i] ∧ OkXK sp P w K mg base k x a b := by
  obtain ⟨ds, v1, b1⟩ := F.binds1 (ps := [a, b]) 1 0 (by simp) (by rfl) h1
  obtain ⟨ds2, v2, b2⟩ := F.binds1 (ps := [a, b]) 2 1 (by simp) (by rfl) h2
  cases v2
  refine ⟨⟨f, fd, hm, F.kp, b2, o⟩, ⟨f, fd, ds, hm, F.kp, b1, v1, o⟩, f, fd, hm, F.kp, fun s u v X => ?_, o⟩
  obtain ⟨oc, od, dV, kV, doc, pm, an, cd1, ct, sl1, rfl, at1, code, hD, hK⟩ := F.ex
  rcases hD with ⟨e, _⟩ | ⟨_, T, oT, its, m, rfl, lT, dT, rT⟩
  · cases e
  · have l1 : its.length = 1 := rT.length.symm
    match its, l1 with
    | [d], _ =>
      obtain ⟨r, e1, e2⟩ := h0 T kV doc pm an cd1 ct u v d
      exact BindsTo.of_looks fun M => by
       rw [e1]
       exact looks_items X lT dT (.of_pure e2)
theorem tab_of {K : Cz} {T : Tab} (h : ∀ e ∈ T, ∃ Ca Cb, K.mg e.1 = some (.ref Ca) ∧ K.mg e.2.1 = some (.ref Cb) ∧ PySem.W.exmOne K.K (.ref Ca) (.ref Cb) = some e.2.2) : T.Ok K := by
  intro a b v hv Ca Cb ha hb
  unfold Tab.get at hv
  cases q : List.find? (fun x : Str × Str × Bool => x.1 == a && x.2.1 == b) T with
  | none => rw [q] at hv; cases hv
  | some e =>
    rw [q] at hv
    have hv : e.2.2 = v := Option.some.inj hv
    have he := List.find?_some q
    rw [Bool.and_eq_true, beq_iff_eq, beq_iff_eq] at he
    obtain ⟨Cx, Cy, h1, h2, h3⟩ := h e (List.mem_of_find?_eq_some q)
    rw [he.1, ha] at h1; cases h1
    rw [he.2, hb] at h2; cases h2
    rw [← hv]; exact h3
end Dm

namespace Lw
open PySem L2 Evl Dm
def top (i : Nat) : Stmt := PySem.Challenge.pw_everydecider_k11_ratios.main.body.getD i (.Pass ⟨0, 0, 0, 0⟩)
abbrev s_ratio : Stmt := top 5
abbrev s_plus : Stmt := top 6
abbrev s_minus : Stmt := top 7
abbrev s_times : Stmt := top 8
abbrev s_over : Stmt := top 9
abbrev s_compare : Stmt := top 10
abbrev s_total : Stmt := top 11
abbrev s_law_pool : Stmt := top 13
abbrev s_law_take : Stmt := top 14
abbrev s_law_is_number : Stmt := top 15
abbrev s_law_divisor : Stmt := top 16
abbrev s_law_ratio : Stmt := top 17
abbrev s_law_integer : Stmt := top 18
abbrev s_law_refused : Stmt := top 19
abbrev s_law_over : Stmt := top 20
abbrev s_law_in_terms : Stmt := top 21
abbrev s_law_two_right : Stmt := top 22
abbrev s_law : Stmt := top 23
def clsB : Stmt → List Stmt
  | .ClassDef (body := b) .. => b
  | _ => []
abbrev s_init_BadRatio : Stmt := (clsB (top 3)).getD 0 (.Pass ⟨0, 0, 0, 0⟩)
theorem sc_init_BadRatio : FnScope ["self", "bottom"] ["self", "bottom"] (defScope s_init_BadRatio) := ⟨rfl, rfl, rfl, by decide +kernel, rfl, by decide +kernel, by decide +kernel⟩
theorem sc_ratio : FnScope ["top", "bottom", "divisor"] ["top", "bottom"] (defScope s_ratio) := ⟨rfl, rfl, rfl, by decide +kernel, rfl, by decide +kernel, by decide +kernel⟩
theorem sc_plus : FnScope ["one", "other", "top", "bottom", "other_top", "other_bottom"] ["one", "other"] (defScope s_plus) := ⟨rfl, rfl, rfl, by decide +kernel, rfl, by decide +kernel, by decide +kernel⟩
theorem sc_minus : FnScope ["one", "other", "top", "bottom", "other_top", "other_bottom"] ["one", "other"] (defScope s_minus) := ⟨rfl, rfl, rfl, by decide +kernel, rfl, by decide +kernel, by decide +kernel⟩
theorem sc_times : FnScope ["one", "other", "top", "bottom", "other_top", "other_bottom"] ["one", "other"] (defScope s_times) := ⟨rfl, rfl, rfl, by decide +kernel, rfl, by decide +kernel, by decide +kernel⟩
theorem sc_over : FnScope ["one", "other", "top", "bottom", "other_top", "other_bottom"] ["one", "other"] (defScope s_over) := ⟨rfl, rfl, rfl, by decide +kernel, rfl, by decide +kernel, by decide +kernel⟩
theorem sc_compare : FnScope ["one", "other", "difference", "_"] ["one", "other"] (defScope s_compare) := ⟨rfl, rfl, rfl, by decide +kernel, rfl, by decide +kernel, by decide +kernel⟩
theorem sc_total : FnScope ["ratios", "answer", "one"] ["ratios"] (defScope s_total) := ⟨rfl, rfl, rfl, by decide +kernel, rfl, by decide +kernel, by decide +kernel⟩
theorem sc_law_pool : FnScope ["_law_script"] ["_law_script"] (defScope s_law_pool) := ⟨rfl, rfl, rfl, by decide +kernel, rfl, by decide +kernel, by decide +kernel⟩
theorem sc_law_take : FnScope ["_law_pool_here", "_law_many", "_law_digit", "_law_at", "_law_cell", "_law_mixed"] ["_law_pool_here", "_law_many"] (defScope s_law_take) := ⟨rfl, rfl, rfl, by decide +kernel, rfl, by decide +kernel, by decide +kernel⟩
theorem sc_law_is_number : FnScope ["_law_thing"] ["_law_thing"] (defScope s_law_is_number) := ⟨rfl, rfl, rfl, by decide +kernel, rfl, by decide +kernel, by decide +kernel⟩
theorem sc_law_divisor : FnScope ["_law_numbers", "_law_found", "_law_number", "_law_one", "_law_other"] ["_law_numbers"] (defScope s_law_divisor) := ⟨rfl, rfl, rfl, by decide +kernel, rfl, by decide +kernel, by decide +kernel⟩
theorem sc_law_ratio : FnScope ["_law_up", "_law_down", "_law_part"] ["_law_up", "_law_down"] (defScope s_law_ratio) := ⟨rfl, rfl, rfl, by decide +kernel, rfl, by decide +kernel, by decide +kernel⟩
theorem sc_law_integer : FnScope ["_law_pool_here", "_law_size"] ["_law_pool_here"] (defScope s_law_integer) := ⟨rfl, rfl, rfl, by decide +kernel, rfl, by decide +kernel, by decide +kernel⟩
theorem sc_law_refused : FnScope ["_law_up", "e"] ["_law_up"] (defScope s_law_refused) := ⟨rfl, rfl, rfl, by decide +kernel, rfl, by decide +kernel, by decide +kernel⟩
theorem sc_law_over : FnScope ["_law_one", "_law_other", "e"] ["_law_one", "_law_other"] (defScope s_law_over) := ⟨rfl, rfl, rfl, by decide +kernel, rfl, by decide +kernel, by decide +kernel⟩
theorem sc_law_in_terms : FnScope ["_law_one", "_law_up", "_law_down"] ["_law_one", "_law_up", "_law_down"] (defScope s_law_in_terms) := ⟨rfl, rfl, rfl, by decide +kernel, rfl, by decide +kernel, by decide +kernel⟩
theorem sc_law_two_right : FnScope ["_law_one", "_law_other", "_law_across", "_law_back", "_law_down", "_law_told"] ["_law_one", "_law_other"] (defScope s_law_two_right) := ⟨rfl, rfl, rfl, by decide +kernel, rfl, by decide +kernel, by decide +kernel⟩
theorem sc_law : FnScope ["_law_script", "_law_pool_here", "_law_made", "_law_up", "_law_down", "_law_k", "_law_given", "_law_one", "_law_pair", "_law_other"] ["_law_script"] (defScope s_law) := ⟨rfl, rfl, rfl, by decide +kernel, rfl, by decide +kernel, by decide +kernel⟩
/-! ### what each def says on data -/
def plain : D → Prop | .ins _ _ => False | .pool => False | _ => True
def isNum : D → Bool | .int _ => true | _ => false
def tab : Tab := [("BadRatio", "BadRatio", true)]
def fIsNum : DF := fun _ ds c rt => ∃ d, ds = [d] ∧ plain d ∧ rt (.bl (isNum d)) c
def fGcd : DF := fun _ ds c rt => ∃ ns : List Int, ds = [.lst (ns.map .int)] ∧ rt (.int (gcdL ns : Nat)) c
def sg (a b : Int) : Int := if b < 0 then -((gcdL [a, b] : Nat) : Int) else ((gcdL [a, b] : Nat) : Int)
def rat (a b : Int) : D := .tup [.int a, .int b]
def lowP (a b : Int) : Int × Int := (a.fdiv (sg a b), b.fdiv (sg a b))
def low (a b : Int) : D := rat (lowP a b).1 (lowP a b).2
def Sm (k : Nat) (n : Int) : Prop := n.natAbs < 2 ^ k
def fRat : DF := fun _ ds c rt => ∃ a b : Int, ds = [.int a, .int b] ∧ b ≠ 0 ∧ Sm 8000 b ∧ rt (low a b) c
def bad0 : Err := ⟨"BadRatio", some ("bottom", .int 0)⟩
def fRatio : DF := fun xe ds c rt => ∃ a b : Int, ds = [.int a, .int b] ∧ Sm 8000 b ∧ (b = 0 → xe bad0 c) ∧ (b ≠ 0 → rt (low a b) c)
def Four (k : Nat) (a b p q : Int) : Prop := Sm k a ∧ Sm k b ∧ Sm k p ∧ Sm k q ∧ b ≠ 0 ∧ q ≠ 0
def fPlus : DF := fun _ ds c rt => ∃ a b p q : Int, ds = [rat a b, rat p q] ∧ Four 3000 a b p q ∧ rt (low (a * q + p * b) (b * q)) c
def fMinus : DF := fun _ ds c rt => ∃ a b p q : Int, ds = [rat a b, rat p q] ∧ Four 3000 a b p q ∧ rt (low (a * q - p * b) (b * q)) c
def fTimes : DF := fun _ ds c rt => ∃ a b p q : Int, ds = [rat a b, rat p q] ∧ Four 3000 a b p q ∧ rt (low (a * p) (b * q)) c
def fOver : DF := fun xe ds c rt => ∃ a b p q : Int, ds = [rat a b, rat p q] ∧ Four 3000 a b p q ∧ (p = 0 → xe bad0 c) ∧ (p ≠ 0 → rt (low (a * q) (b * p)) c)
def cmp (x : Int) : Int := if x < 0 then -1 else if 0 < x then 1 else 0
def fCompare : DF := fun _ ds c rt => ∃ a b p q : Int, ds = [rat a b, rat p q] ∧ Four 3000 a b p q ∧ 0 < b ∧ 0 < q ∧ rt (.int (cmp (a * q - p * b))) c
def ratsD (rs : List (Int × Int)) : List D := rs.map fun r => rat r.1 r.2
def addP (s r : Int × Int) : Int × Int := lowP (s.1 * r.2 + r.1 * s.2) (s.2 * r.2)
def totP (rs : List (Int × Int)) : Int × Int := rs.foldl addP (0, 1)
def Rats (rs : List (Int × Int)) : Prop := rs.length ≤ 6 ∧ ∀ r ∈ rs, Sm 100 r.1 ∧ 0 < r.2 ∧ Sm 100 r.2
def fTotal : DF := fun _ ds c rt => ∃ rs, (ds = [.lst (ratsD rs)] ∨ ds = [.tup (ratsD rs)]) ∧ Rats rs ∧ rt (rat (totP rs).1 (totP rs).2) c
def fInt : DF := fun _ ds c rt => ds = [.pool] ∧ c < 1000 ∧ ∀ k : Int, Sm 97 k → rt (.int k) (c + 2)
def fRefused : DF := fun _ ds c rt => ∃ a : Int, ds = [.int a] ∧ rt (.bl true) c
def fLOver : DF := fun _ ds c rt => ∃ a b p q : Int, ds = [rat a b, rat p q] ∧ Four 3000 a b p q ∧ rt (if p = 0 then .int 0 else low (a * q) (b * p)) c
def fTerms : DF := fun _ ds c rt => ∃ a b : Int, ds = [low a b, .int a, .int b] ∧ b ≠ 0 ∧ Sm 8000 b ∧ rt (.bl true) c
def fTwo : DF := fun _ ds c rt => ∃ a b p q : Int, ds = [rat a b, rat p q] ∧ Four 3000 a b p q ∧ 0 < b ∧ 0 < q ∧ rt (.bl true) c
def b_ratio : DS := (mSeq (mIfS (mTest (mOp dEq (mVar 1) (mC (.int 0)))) (mRaise (mMkE "BadRatio" "bottom" (mVar 1))) mNext)
      (mSeq (mAsg (mCB dGcd (mCons (mVar 0) (mCons (mVar 1) mNil))) (gN 2))
      (mSeq (mIfS (mTest (mOp (dB0 fun i j => decide (i < j)) (mVar 1) (mC (.int 0)))) (mAsg (mUn (dU fun i => -i) (mVar 2)) (gN 2)) mNext)
      (mRet (mTup (mCons (mOp (dI CDivG fun i j => i.fdiv j) (mVar 0) (mVar 2)) (mCons (mOp (dI CDivG fun i j => i.fdiv j) (mVar 1) (mVar 2)) mNil)))))))
def b_plus : DS := (mSeq (mAsg (mVar 0) (gT 2 (gsC (gN 2) (gsC (gN 3) gsN))))
      (mSeq (mAsg (mVar 1) (gT 2 (gsC (gN 4) (gsC (gN 5) gsN))))
      (mRet (mCall fRatio (mCons (mOp dAdd (mOp (dI CMulW fun i j => i * j) (mVar 2) (mVar 5)) (mOp (dI CMulW fun i j => i * j) (mVar 4) (mVar 3))) (mCons (mOp (dI CMulW fun i j => i * j) (mVar 3) (mVar 5)) mNil))))))
def b_minus : DS := (mSeq (mAsg (mVar 0) (gT 2 (gsC (gN 2) (gsC (gN 3) gsN))))
      (mSeq (mAsg (mVar 1) (gT 2 (gsC (gN 4) (gsC (gN 5) gsN))))
      (mRet (mCall fRatio (mCons (mOp (dI0 fun i j => i - j) (mOp (dI CMulW fun i j => i * j) (mVar 2) (mVar 5)) (mOp (dI CMulW fun i j => i * j) (mVar 4) (mVar 3))) (mCons (mOp (dI CMulW fun i j => i * j) (mVar 3) (mVar 5)) mNil))))))
def b_times : DS := (mSeq (mAsg (mVar 0) (gT 2 (gsC (gN 2) (gsC (gN 3) gsN))))
      (mSeq (mAsg (mVar 1) (gT 2 (gsC (gN 4) (gsC (gN 5) gsN))))
      (mRet (mCall fRatio (mCons (mOp (dI CMulW fun i j => i * j) (mVar 2) (mVar 4)) (mCons (mOp (dI CMulW fun i j => i * j) (mVar 3) (mVar 5)) mNil))))))
def b_over : DS := (mSeq (mAsg (mVar 0) (gT 2 (gsC (gN 2) (gsC (gN 3) gsN))))
      (mSeq (mAsg (mVar 1) (gT 2 (gsC (gN 4) (gsC (gN 5) gsN))))
      (mRet (mCall fRatio (mCons (mOp (dI CMulW fun i j => i * j) (mVar 2) (mVar 5)) (mCons (mOp (dI CMulW fun i j => i * j) (mVar 3) (mVar 4)) mNil))))))
def b_compare : DS := (mSeq (mAsg (mCall0 fMinus (mCons (mVar 0) (mCons (mVar 1) mNil))) (gT 2 (gsC (gN 2) (gsC (gN 3) gsN))))
      (mSeq (mIfS (mTest (mOp (dB0 fun i j => decide (i < j)) (mVar 2) (mC (.int 0)))) (mRet (mUn (dU fun i => -i) (mC (.int 1)))) mNext)
      (mSeq (mIfS (mTest (mOp (dB0 fun i j => decide (j < i)) (mVar 2) (mC (.int 0)))) (mRet (mC (.int 1))) mNext)
      (mRet (mC (.int 0))))))
def b_total : DS := (mSeq (mAsg (mTup (mCons (mC (.int 0)) (mCons (mC (.int 1)) mNil))) (gN 1))
      (mSeq (mFor (mItS (mVar 0)) (gN 2) (mAsg (mCall0 fPlus (mCons (mVar 1) (mCons (mVar 2) mNil))) (gN 1)))
      (mRet (mVar 1))))
def b_law_is_number : DS := (mRet (mAndV (mIsi "int" (mVar 0)) (mNotV (mIsi "bool" (mVar 0)))))
def b_law_divisor : DS := (mSeq (mAsg (mC (.int 0)) (gN 1))
      (mSeq (mFor (mItS (mVar 0)) (gN 2) (mSeq (mAsg (mCB dAbs (mCons (mVar 2) mNil)) (gN 3))
      (mSeq (mAsg (mVar 1) (gN 4))
      (mSeq (mWhile (mTest (mOp dNe (mVar 4) (mC (.int 0)))) (mPar 3 4 (mCons (mVar 4) (mCons (mOp (dI (fun _ j => j ≠ 0) fun i j => i.fmod j) (mCB dInt1 (mCons (mVar 3) mNil)) (mVar 4)) mNil))))
      (mAsg (mVar 3) (gN 1))))))
      (mRet (mVar 1))))
def b_law_ratio : DS := (mSeq (mAsg (mCall0 fGcd (mCons (mFrz (mLst (mCons (mVar 0) (mCons (mVar 1) mNil)))) mNil)) (gN 2))
      (mSeq (mIfS (mTest (mOp (dB0 fun i j => decide (i < j)) (mVar 1) (mC (.int 0)))) (mAsg (mUn (dU fun i => -i) (mVar 2)) (gN 2)) mNext)
      (mRet (mTup (mCons (mOp (dI CDivG fun i j => i.fdiv j) (mVar 0) (mVar 2)) (mCons (mOp (dI CDivG fun i j => i.fdiv j) (mVar 1) (mVar 2)) mNil))))))
def b_law_integer : DS := (mSeq (mAsg (mOp dIx (mFrz (mLst (mCons (mC (.int 3)) (mCons (mC (.int 12)) (mCons (mC (.int 1000)) (mCons (mOp (dI CPow fun i j => i ^ j.toNat) (mC (.int 10)) (mC (.int 29))) mNil)))))) (mCall0 fTake (mCons (mVar 0) (mCons (mC (.int 4)) mNil)))) (gN 1))
      (mRet (mOp (dI0 fun i j => i - j) (mCall0 fTake (mCons (mVar 0) (mCons (mOp dAdd (mOp (dI CMulW fun i j => i * j) (mC (.int 2)) (mVar 1)) (mC (.int 1))) mNil))) (mVar 1))))
def b_law_refused : DS := (mSeq (mTry tab (mDrop (mCall fRatio (mCons (mVar 0) (mCons (mC (.int 0)) mNil)))) [⟨"BadRatio", some 1, fun a cls d => (mRet (mAndV (mCall0 fIsNum (mCons (mXf "BadRatio" "bottom" a cls d 1) mNil)) (mOp dEq (mXf "BadRatio" "bottom" a cls d 1) (mC (.int 0)))))⟩])
      (mRet (mC (.bl false))))
def b_law_over : DS := (mTry tab (mRet (mCall fOver (mCons (mVar 0) (mCons (mVar 1) mNil)))) [⟨"BadRatio", some 2, fun a cls d => (mRet (mXf "BadRatio" "bottom" a cls d 2))⟩])
def b_law_in_terms : DS := (mSeq (mIfS (mOr (mNot (mTest (mIsi "tuple" (mVar 0)))) (mOr (mTest (mOp dNe (mCB dLen (mCons (mVar 0) mNil)) (mC (.int 2)))) (mOr (mNot (mTest (mCall0 fIsNum (mCons (mOp dIx (mVar 0) (mC (.int 0))) mNil)))) (mNot (mTest (mCall0 fIsNum (mCons (mOp dIx (mVar 0) (mC (.int 1))) mNil))))))) (mRet (mC (.bl false))) mNext)
      (mRet (mOp dEq (mVar 0) (mCall0 fRat (mCons (mVar 1) (mCons (mVar 2) mNil))))))
def b_law_two_right_9 : DS := (mRet (mAndV (mCall0 fIsNum (mCons (mVar 5) mNil)) (mOp dEq (mVar 5) (mOp (dI0 fun i j => i - j) (mCB dInt1 (mCons (mOp (dB0 fun i j => decide (j < i)) (mVar 2) (mVar 3)) mNil)) (mCB dInt1 (mCons (mOp (dB0 fun i j => decide (i < j)) (mVar 2) (mVar 3)) mNil))))))
def b_law_two_right_8 : DS := mSeq (mAsg (mCall0 fCompare (mCons (mVar 0) (mCons (mVar 1) mNil))) (gN 5)) b_law_two_right_9
def b_law_two_right_7 : DS := mSeq (mIfS (mAnd (mTest (mOp dNe (mOp dIx (mVar 1) (mC (.int 0))) (mC (.int 0)))) (mNot (mTest (mCall0 fTerms (mCons (mCall fOver (mCons (mVar 0) (mCons (mVar 1) mNil))) (mCons (mVar 2) (mCons (mVar 3) mNil))))))) (mRet (mC (.bl false))) mNext) b_law_two_right_8
def b_law_two_right_6 : DS := mSeq (mIfS (mAnd (mTest (mOp dEq (mOp dIx (mVar 1) (mC (.int 0))) (mC (.int 0)))) (mTest (mOp dNe (mCall0 fLOver (mCons (mVar 0) (mCons (mVar 1) mNil))) (mC (.int 0))))) (mRet (mC (.bl false))) mNext) b_law_two_right_7
def b_law_two_right_5 : DS := mSeq (mIfS (mNot (mTest (mCall0 fTerms (mCons (mCall0 fTimes (mCons (mVar 0) (mCons (mVar 1) mNil))) (mCons (mOp (dI CMulW fun i j => i * j) (mOp dIx (mVar 0) (mC (.int 0))) (mOp dIx (mVar 1) (mC (.int 0)))) (mCons (mVar 4) mNil)))))) (mRet (mC (.bl false))) mNext) b_law_two_right_6
def b_law_two_right_4 : DS := mSeq (mIfS (mNot (mTest (mCall0 fTerms (mCons (mCall0 fMinus (mCons (mVar 0) (mCons (mVar 1) mNil))) (mCons (mOp (dI0 fun i j => i - j) (mVar 2) (mVar 3)) (mCons (mVar 4) mNil)))))) (mRet (mC (.bl false))) mNext) b_law_two_right_5
def b_law_two_right_3 : DS := mSeq (mIfS (mNot (mTest (mCall0 fTerms (mCons (mCall0 fPlus (mCons (mVar 0) (mCons (mVar 1) mNil))) (mCons (mOp dAdd (mVar 2) (mVar 3)) (mCons (mVar 4) mNil)))))) (mRet (mC (.bl false))) mNext) b_law_two_right_4
def b_law_two_right_2 : DS := mSeq (mAsg (mOp (dI CMulW fun i j => i * j) (mOp dIx (mVar 0) (mC (.int 1))) (mOp dIx (mVar 1) (mC (.int 1)))) (gN 4)) b_law_two_right_3
def b_law_two_right_1 : DS := mSeq (mAsg (mOp (dI CMulW fun i j => i * j) (mOp dIx (mVar 1) (mC (.int 0))) (mOp dIx (mVar 0) (mC (.int 1)))) (gN 3)) b_law_two_right_2
def b_law_two_right : DS := mSeq (mAsg (mOp (dI CMulW fun i j => i * j) (mOp dIx (mVar 0) (mC (.int 0))) (mOp dIx (mVar 1) (mC (.int 1)))) (gN 2)) b_law_two_right_1
def b_law_L3_7 : DS := (mAsg (mOp (dI CMulW fun i j => i * j) (mVar 4) (mIxO 8 (mC (.int 1)))) (gN 4))
def b_law_L3_6 : DS := mSeq (mAsg (mOp dAdd (mOp (dI CMulW fun i j => i * j) (mVar 3) (mIxO 8 (mC (.int 1)))) (mOp (dI CMulW fun i j => i * j) (mVar 4) (mIxO 8 (mC (.int 0))))) (gN 3)) b_law_L3_7
def b_law_L3_5 : DS := mSeq (mApp 2 (mVar 7)) b_law_L3_6
def b_law_L3_4 : DS := mSeq (mIfS (mTmpT 8 (mOr (mTest (mOp dNe (mCallB fRatio (mCons (mOp dIx (mVar 8) (mC (.int 1))) (mCons (mOp dIx (mVar 8) (mC (.int 0))) mNil))) (mVar 7))) (mNot (mTest (mCall0 fRefused (mCons (mOp dIx (mVar 8) (mC (.int 0))) mNil)))))) (mRet (mC (.bl false))) mNext) b_law_L3_5
def b_law_L3_3 : DS := mSeq (mIfS (mTmpT 8 (mOr (mNot (mTest (mCall0 fTerms (mCons (mVar 7) (mCons (mOp dIx (mVar 8) (mC (.int 0))) (mCons (mOp dIx (mVar 8) (mC (.int 1))) mNil)))))) (mNot (mTest (mCall0 fTerms (mCons (mCallD fRatio 1 (mCons (mOp dIx (mVar 8) (mC (.int 0))) mNil)) (mCons (mOp dIx (mVar 8) (mC (.int 0))) (mCons (mC (.int 1)) mNil)))))))) (mRet (mC (.bl false))) mNext) b_law_L3_4
def b_law_L3_2 : DS := mSeq (mAsg (mCall fRatio (mCons (mIxO 8 (mC (.int 0))) (mCons (mIxO 8 (mC (.int 1))) mNil))) (gN 7)) b_law_L3_3
def b_law_L3_1 : DS := mSeq (mIfS (mTmpT 8 (mTest (mOp dEq (mOp dIx (mVar 8) (mC (.int 1))) (mC (.int 0))))) (mSetI 8 (mC (.int 1)) (mOp (dI0 fun i j => i - j) (mUn (dU fun i => -i) (mC (.int 1))) (mVar 5))) mNext) b_law_L3_2
def b_law_L3 : DS := mSeq (mAsgO (mLst (mCons (mCall0 fInt (mCons (mVar 1) mNil)) (mCons (mCall0 fInt (mCons (mVar 1) mNil)) mNil))) 8) b_law_L3_1

def b_law_L5 : DS := (mFor (mItS (mOp dAdd (mVar 2) (mFrz (mLst (mCons (mTup (mCons (mC (.int 0)) (mCons (mC (.int 1)) mNil))) mNil))))) (gN 9) (mIfS (mNot (mTest (mCall0 fTwo (mCons (mVar 7) (mCons (mVar 9) mNil))))) (mRet (mC (.bl false))) mNext))

def b_law_7 : DS := (mRet (mAndV (mOp dEq (mVar 6) (mVar 2)) (mOp dEq (mCall0 fTotal (mCons (mFrz (mLst mNil)) mNil)) (mTup (mCons (mC (.int 0)) (mCons (mC (.int 1)) mNil))))))
def b_law_6 : DS := mSeq (mIfS (mOr (mNot (mTest (mCall0 fTerms (mCons (mCall0 fTotal (mCons (mVar 6) mNil)) (mCons (mVar 3) (mCons (mVar 4) mNil)))))) (mTest (mOp dNe (mCall0 fTotal (mCons (mCB dTuple (mCons (mVar 2) mNil)) mNil)) (mCall0 fTotal (mCons (mVar 6) mNil))))) (mRet (mC (.bl false))) mNext) b_law_7
def b_law_5 : DS := mSeq (mFor (mItS (mVar 2)) (gN 7) b_law_L5) b_law_6
def b_law_4 : DS := mSeq (mFreeze 2 (mAsg (mCB dList (mCons (mVar 2) mNil)) (gN 6))) b_law_5
def b_law_3 : DS := mSeq (mFor (mRng1 (mCons (mOp dAdd (mC (.int 1)) (mCall0 fTake (mCons (mVar 1) (mCons (mC (.int 6)) mNil)))) mNil)) (gN 5) b_law_L3) b_law_4
def b_law_2 : DS := mSeq (mAsg (mC (.int 1)) (gN 4)) b_law_3
def b_law_1 : DS := mSeq (mAsg (mC (.int 0)) (gN 3)) b_law_2
def b_law : DS := mSeq (mAsgO (mLst mNil) 2) b_law_1
theorem get_int {ns : List Int} {i : Nat} {d : D} (h : (ns.map D.int)[i]? = some d) : ∃ n, ns[i]? = some n ∧ d = .int n := by
  rw [List.getElem?_map] at h
  cases e : ns[i]? with
  | none => rw [e] at h; cases h
  | some n => rw [e] at h; exact ⟨n, rfl, (Option.some.inj h).symm⟩
theorem sgE (a b : Int) : sg a b = if b < 0 then -((Nat.gcd a.natAbs b.natAbs : Nat) : Int) else ((Nat.gcd a.natAbs b.natAbs : Nat) : Int) := by
  have e : gcdL [a, b] = Nat.gcd a.natAbs b.natAbs := by show Nat.gcd (Nat.gcd 0 a.natAbs) b.natAbs = _; rw [Nat.gcd_zero_left]
  unfold sg; rw [e]
theorem sg_ne {a b : Int} (h : b ≠ 0) : sg a b ≠ 0 ∧ (sg a b).natAbs ≤ b.natAbs := by
  have hp : 0 < Nat.gcd a.natAbs b.natAbs := Nat.gcd_pos_of_pos_right _ (by omega)
  have hl := Nat.gcd_le_right a.natAbs (by omega : 0 < b.natAbs)
  rw [sgE]
  split <;> omega
theorem sg_mul {k a b : Int} (hk : k ≠ 0) (hb : b ≠ 0) : sg (k * a) (k * b) = k * sg a b := by
  have e : ((Nat.gcd (k * a).natAbs (k * b).natAbs : Nat) : Int) = (k.natAbs : Int) * ((Nat.gcd a.natAbs b.natAbs : Nat) : Int) := by
    rw [Int.natAbs_mul, Int.natAbs_mul, Nat.gcd_mul_left]; push_cast; rfl
  rw [sgE, sgE, e]
  generalize ((Nat.gcd a.natAbs b.natAbs : Nat) : Int) = g
  rcases Int.lt_or_gt_of_ne hk with h1 | h1
  · have ek : (k.natAbs : Int) = -k := by omega
    rw [ek]
    rcases Int.lt_or_gt_of_ne hb with h2 | h2
    · have h3 : 0 < k * b := Int.mul_pos_of_neg_of_neg h1 h2
      rw [if_neg (by omega), if_pos h2, Int.neg_mul, Int.mul_neg]
    · have h3 : k * b < 0 := Int.mul_neg_of_neg_of_pos h1 h2
      rw [if_pos h3, if_neg (by omega), Int.neg_mul, Int.neg_neg]
  · have ek : (k.natAbs : Int) = k := by omega
    rw [ek]
    rcases Int.lt_or_gt_of_ne hb with h2 | h2
    · have h3 : k * b < 0 := Int.mul_neg_of_pos_of_neg h1 h2
      rw [if_pos h3, if_pos h2, Int.mul_neg]
    · have h3 : 0 < k * b := Int.mul_pos h1 h2
      rw [if_neg (by omega), if_neg (by omega)]
theorem lowP_spec {a b : Int} (h : b ≠ 0) : a = sg a b * (lowP a b).1 ∧ b = sg a b * (lowP a b).2 ∧ 0 < (lowP a b).2 := by
  have h0 := (sg_ne (a := a) h).1
  have da : sg a b ∣ a := by
    rw [sgE]
    have : ((Nat.gcd a.natAbs b.natAbs : Nat) : Int) ∣ a := Int.natAbs_dvd_natAbs.mp (show Nat.gcd a.natAbs b.natAbs ∣ a.natAbs from Nat.gcd_dvd_left _ _)
    split
    · exact Int.neg_dvd.mpr this
    · exact this
  have db : sg a b ∣ b := by
    rw [sgE]
    have : ((Nat.gcd a.natAbs b.natAbs : Nat) : Int) ∣ b := Int.natAbs_dvd_natAbs.mp (show Nat.gcd a.natAbs b.natAbs ∣ b.natAbs from Nat.gcd_dvd_right _ _)
    split
    · exact Int.neg_dvd.mpr this
    · exact this
  obtain ⟨x, hx⟩ := da
  obtain ⟨y, hy⟩ := db
  have e1 : (lowP a b).1 = x := by show a.fdiv (sg a b) = x; generalize sg a b = s at *; rw [hx, Int.mul_fdiv_cancel_left _ h0]
  have e2 : (lowP a b).2 = y := by show b.fdiv (sg a b) = y; generalize sg a b = s at *; rw [hy, Int.mul_fdiv_cancel_left _ h0]
  rw [e1, e2]
  refine ⟨hx, hy, ?_⟩
  have hp : 0 < Nat.gcd a.natAbs b.natAbs := Nat.gcd_pos_of_pos_right _ (by omega)
  have sgn : (b < 0 → sg a b < 0) ∧ (0 < b → 0 < sg a b) := ⟨fun q => by rw [sgE, if_pos q]; omega, fun q => by rw [sgE, if_neg (by omega)]; omega⟩
  generalize sg a b = s at *
  rcases Int.lt_or_gt_of_ne h with q | q
  · have hs := sgn.1 q
    by_cases z : 0 < y
    · exact z
    · have := Int.mul_nonneg_of_nonpos_of_nonpos (by omega : s ≤ 0) (by omega : y ≤ 0)
      omega
  · have hs := sgn.2 q
    by_cases z : 0 < y
    · exact z
    · have := Int.mul_nonpos_of_nonneg_of_nonpos (by omega : 0 ≤ s) (by omega : y ≤ 0)
      omega
theorem lowP_mul {k a b : Int} (hk : k ≠ 0) (hb : b ≠ 0) : lowP (k * a) (k * b) = lowP a b := by
  have h0 := (sg_ne (a := a) hb).1
  obtain ⟨h1, h2, _⟩ := lowP_spec (a := a) hb
  have hn : k * sg a b ≠ 0 := Int.mul_ne_zero hk h0
  have e : ∀ x : Int, (k * (sg a b * x)).fdiv (k * sg a b) = x := fun x => by rw [← Int.mul_assoc, Int.mul_fdiv_cancel_left _ hn]
  refine Prod.ext ?_ ?_
  · show (k * a).fdiv (sg (k * a) (k * b)) = _
    rw [sg_mul hk hb]
    have := e (lowP a b).1
    rwa [← h1] at this
  · show (k * b).fdiv (sg (k * a) (k * b)) = _
    rw [sg_mul hk hb]
    have := e (lowP a b).2
    rwa [← h2] at this
theorem Sm.up {k l : Nat} {n : Int} (h : Sm k n) (e : k ≤ l) : Sm l n := Nat.lt_of_lt_of_le h (Nat.pow_le_pow_right (by decide) e)
theorem Sm.mul {k l : Nat} {a b : Int} (ha : Sm k a) (hb : Sm l b) : Sm (k + l) (a * b) := by
  unfold Sm at *
  rw [Int.natAbs_mul, Nat.pow_add]
  exact Nat.mul_lt_mul'' ha hb
theorem Sm.add {k : Nat} {a b : Int} (ha : Sm k a) (hb : Sm k b) : Sm (k + 1) (a + b) := by
  unfold Sm at *
  have := Int.natAbs_add_le a b
  rw [Nat.pow_succ]; omega
theorem Sm.neg {k : Nat} {a : Int} (ha : Sm k a) : Sm k (-a) := by unfold Sm at *; rwa [Int.natAbs_neg]
theorem Sm.sub {k : Nat} {a b : Int} (ha : Sm k a) (hb : Sm k b) : Sm (k + 1) (a - b) := by rw [Int.sub_eq_add_neg]; exact ha.add hb.neg
theorem low_le {s x n : Int} (h : n = s * x) (hs : s ≠ 0) : x.natAbs ≤ n.natAbs := by
  rw [h, Int.natAbs_mul]
  exact Nat.le_mul_of_pos_left _ (by omega)
theorem Sm.low {k : Nat} {a b : Int} (hb : b ≠ 0) (h1 : Sm k a) (h2 : Sm k b) : Sm k (lowP a b).1 ∧ Sm k (lowP a b).2 := by
  obtain ⟨e1, e2, _⟩ := lowP_spec (a := a) hb
  have h0 := (sg_ne (a := a) hb).1
  exact ⟨Nat.lt_of_le_of_lt (low_le e1 h0) h1, Nat.lt_of_le_of_lt (low_le e2 h0) h2⟩
theorem mulw {a b : Int} {k l : Nat} (ha : Sm k a) (hb : Sm l b) (h0 : 0 < k) (h1 : 0 < l) (h : k + l ≤ 1000000) : CMulW a b := wide_mul ha hb h0 h1 h
theorem divs {a b : Int} (hb : b ≠ 0) (h : Sm 8000 b) (x : Int) (e : sg a b = x) (y : Int) : CDivG y x := by
  subst e
  obtain ⟨n1, n2⟩ := sg_ne (a := a) hb
  exact ⟨n1, log2_of_lt (Nat.lt_of_le_of_lt n2 (Nat.lt_of_lt_of_le h (Nat.pow_le_pow_right (by decide) (by decide)))) (by decide)⟩
theorem d_ratio : ∀ ds c xe rt, fRatio xe ds c rt → ds.length = 2 ∧ b_ratio (fun e _ c' => xe e c') { nx := fun _ c' => rt .non c', rt := rt, rtN := rt } (ro0 ["top", "bottom", "divisor"] ds) c := by
  rintro _ c xe rt ⟨a, b, rfl, hs, h0, h1⟩
  refine ⟨rfl, ?_⟩
  simp only [b_ratio, mSeq, mAsg, mVar, mC, mOp, mUn, mNil, mCons, mTup, mLst, mFrz, mTest, mAnd, mOr, mNot, mIf, mAndV, mOrV, mNotV, mCB, mCall0, gN, gsN, gsC, gT, mNext, mRet, mRetN, mIfS, mDrop, mPar, mApp, mFreeze, mSetI, mItL, mItS, mRng1, mRng2, mFor, mIsi, mIsN, mNotN, dI, dI0, dB0, dU, dEq, dNe, dAdd, dIx, mIxO, dLen, dList, dTuple, mCBO, dListO, dMax2, dAbs, dInt1, dGcd, dLcm, mTmpT, mAsgO, mAsgF, mRetF, mSc, mVarO, mSpoil, mSpoilK, ro0, List.map_cons, List.map_nil, List.replicate, List.length_cons, List.length_nil, List.getElem?_cons_zero, List.getElem?_cons_succ, List.set_cons_zero, List.set_cons_succ, List.cons_append, List.nil_append, Nat.reduceAdd, Nat.reduceSub, dSeq_lst, dSeq_tup, mRaise, mMkE, ok_int, eqv_int, and_self, true_and]
  by_cases e : b = 0
  · subst e
    simp only [beq_self_eq_true, if_true]; exact h0 rfl
  · have eb : (b == 0) = false := by simpa using e
    have h := h1 e
    simp only [eb, Bool.false_eq_true, if_false, mSeq, mAsg, mVar, mC, mOp, mUn, mNil, mCons, mTup, mLst, mFrz, mTest, mAnd, mOr, mNot, mIf, mAndV, mOrV, mNotV, mCB, mCall0, gN, gsN, gsC, gT, mNext, mRet, mRetN, mIfS, mDrop, mPar, mApp, mFreeze, mSetI, mItL, mItS, mRng1, mRng2, mFor, mIsi, mIsN, mNotN, dI, dI0, dB0, dU, dEq, dNe, dAdd, dIx, mIxO, dLen, dList, dTuple, mCBO, dListO, dMax2, dAbs, dInt1, dGcd, dLcm, mTmpT, mAsgO, mAsgF, mRetF, mSc, mVarO, mSpoil, mSpoilK, ro0, List.map_cons, List.map_nil, List.replicate, List.length_cons, List.length_nil, List.getElem?_cons_zero, List.getElem?_cons_succ, List.set_cons_zero, List.set_cons_succ, List.cons_append, List.nil_append, Nat.reduceAdd, Nat.reduceSub, dSeq_lst, dSeq_tup]
    have hs' : ∀ x : Int, sg a b = x → (CDivG a x ∧ CDivG b x ∧ (0 + 1 + 1 ≤ 1000000) ∧ rt (.tup [.int (a.fdiv x), .int (b.fdiv x)]) c) := fun x e2 => by
      refine ⟨divs e hs x e2 a, divs e hs x e2 b, by decide, ?_⟩
      subst e2; exact h
    by_cases hneg : b < 0
    · simp only [decide_eq_true hneg, if_true, mSeq, mAsg, mVar, mC, mOp, mUn, mNil, mCons, mTup, mLst, mFrz, mTest, mAnd, mOr, mNot, mIf, mAndV, mOrV, mNotV, mCB, mCall0, gN, gsN, gsC, gT, mNext, mRet, mRetN, mIfS, mDrop, mPar, mApp, mFreeze, mSetI, mItL, mItS, mRng1, mRng2, mFor, mIsi, mIsN, mNotN, dI, dI0, dB0, dU, dEq, dNe, dAdd, dIx, mIxO, dLen, dList, dTuple, mCBO, dListO, dMax2, dAbs, dInt1, dGcd, dLcm, mTmpT, mAsgO, mAsgF, mRetF, mSc, mVarO, mSpoil, mSpoilK, ro0, List.map_cons, List.map_nil, List.replicate, List.length_cons, List.length_nil, List.getElem?_cons_zero, List.getElem?_cons_succ, List.set_cons_zero, List.set_cons_succ, List.cons_append, List.nil_append, Nat.reduceAdd, Nat.reduceSub, dSeq_lst, dSeq_tup]
      exact hs' _ (by rw [sgE, if_pos hneg])
    · simp only [decide_eq_false hneg, Bool.false_eq_true, if_false, mSeq, mAsg, mVar, mC, mOp, mUn, mNil, mCons, mTup, mLst, mFrz, mTest, mAnd, mOr, mNot, mIf, mAndV, mOrV, mNotV, mCB, mCall0, gN, gsN, gsC, gT, mNext, mRet, mRetN, mIfS, mDrop, mPar, mApp, mFreeze, mSetI, mItL, mItS, mRng1, mRng2, mFor, mIsi, mIsN, mNotN, dI, dI0, dB0, dU, dEq, dNe, dAdd, dIx, mIxO, dLen, dList, dTuple, mCBO, dListO, dMax2, dAbs, dInt1, dGcd, dLcm, mTmpT, mAsgO, mAsgF, mRetF, mSc, mVarO, mSpoil, mSpoilK, ro0, List.map_cons, List.map_nil, List.replicate, List.length_cons, List.length_nil, List.getElem?_cons_zero, List.getElem?_cons_succ, List.set_cons_zero, List.set_cons_succ, List.cons_append, List.nil_append, Nat.reduceAdd, Nat.reduceSub, dSeq_lst, dSeq_tup]
      exact hs' _ (by rw [sgE, if_neg hneg])
theorem two {k : Nat} {a b p q : Int} (h : Four k a b p q) : b * q ≠ 0 := Int.mul_ne_zero h.2.2.2.2.1 h.2.2.2.2.2
theorem mulF {a b : Int} (ha : Sm 3000 a) (hb : Sm 3000 b) : CMulW a b := mulw ha hb (by decide) (by decide) (by decide)
theorem smF {a b : Int} (ha : Sm 3000 a) (hb : Sm 3000 b) : Sm 8000 (a * b) := (ha.mul hb).up (by decide)
theorem d_plus : ∀ ds c xe rt, fPlus xe ds c rt → ds.length = 2 ∧ b_plus (fun _ _ _ => False) { nx := fun _ c' => rt .non c', rt := rt, rtN := rt } (ro0 ["one", "other", "top", "bottom", "other_top", "other_bottom"] ds) c := by
  rintro _ c xe rt ⟨a, b, p, q, rfl, F, h⟩
  obtain ⟨sa, sb, sp, sq, hb, hq⟩ := id F
  refine ⟨rfl, ?_⟩
  simp only [b_plus, rat, mSeq, mAsg, mVar, mC, mOp, mUn, mNil, mCons, mTup, mLst, mFrz, mTest, mAnd, mOr, mNot, mIf, mAndV, mOrV, mNotV, mCB, mCall0, gN, gsN, gsC, gT, mNext, mRet, mRetN, mIfS, mDrop, mPar, mApp, mFreeze, mSetI, mItL, mItS, mRng1, mRng2, mFor, mIsi, mIsN, mNotN, dI, dI0, dB0, dU, dEq, dNe, dAdd, dIx, mIxO, dLen, dList, dTuple, mCBO, dListO, dMax2, dAbs, dInt1, dGcd, dLcm, mTmpT, mAsgO, mAsgF, mRetF, mSc, mVarO, mSpoil, mSpoilK, ro0, List.map_cons, List.map_nil, List.replicate, List.length_cons, List.length_nil, List.getElem?_cons_zero, List.getElem?_cons_succ, List.set_cons_zero, List.set_cons_succ, List.cons_append, List.nil_append, Nat.reduceAdd, Nat.reduceSub, dSeq_lst, dSeq_tup, mCall, true_and]
  exact ⟨mulF sa sq, mulF sp sb, mulF sb sq, _, _, rfl, smF sb sq, fun z => (two F z).elim, fun _ => h⟩
theorem d_minus : ∀ ds c xe rt, fMinus xe ds c rt → ds.length = 2 ∧ b_minus (fun _ _ _ => False) { nx := fun _ c' => rt .non c', rt := rt, rtN := rt } (ro0 ["one", "other", "top", "bottom", "other_top", "other_bottom"] ds) c := by
  rintro _ c xe rt ⟨a, b, p, q, rfl, F, h⟩
  obtain ⟨sa, sb, sp, sq, hb, hq⟩ := id F
  refine ⟨rfl, ?_⟩
  simp only [b_minus, rat, mSeq, mAsg, mVar, mC, mOp, mUn, mNil, mCons, mTup, mLst, mFrz, mTest, mAnd, mOr, mNot, mIf, mAndV, mOrV, mNotV, mCB, mCall0, gN, gsN, gsC, gT, mNext, mRet, mRetN, mIfS, mDrop, mPar, mApp, mFreeze, mSetI, mItL, mItS, mRng1, mRng2, mFor, mIsi, mIsN, mNotN, dI, dI0, dB0, dU, dEq, dNe, dAdd, dIx, mIxO, dLen, dList, dTuple, mCBO, dListO, dMax2, dAbs, dInt1, dGcd, dLcm, mTmpT, mAsgO, mAsgF, mRetF, mSc, mVarO, mSpoil, mSpoilK, ro0, List.map_cons, List.map_nil, List.replicate, List.length_cons, List.length_nil, List.getElem?_cons_zero, List.getElem?_cons_succ, List.set_cons_zero, List.set_cons_succ, List.cons_append, List.nil_append, Nat.reduceAdd, Nat.reduceSub, dSeq_lst, dSeq_tup, mCall, true_and]
  exact ⟨mulF sa sq, mulF sp sb, mulF sb sq, _, _, rfl, smF sb sq, fun z => (two F z).elim, fun _ => h⟩
theorem d_times : ∀ ds c xe rt, fTimes xe ds c rt → ds.length = 2 ∧ b_times (fun _ _ _ => False) { nx := fun _ c' => rt .non c', rt := rt, rtN := rt } (ro0 ["one", "other", "top", "bottom", "other_top", "other_bottom"] ds) c := by
  rintro _ c xe rt ⟨a, b, p, q, rfl, F, h⟩
  obtain ⟨sa, sb, sp, sq, hb, hq⟩ := id F
  refine ⟨rfl, ?_⟩
  simp only [b_times, rat, mSeq, mAsg, mVar, mC, mOp, mUn, mNil, mCons, mTup, mLst, mFrz, mTest, mAnd, mOr, mNot, mIf, mAndV, mOrV, mNotV, mCB, mCall0, gN, gsN, gsC, gT, mNext, mRet, mRetN, mIfS, mDrop, mPar, mApp, mFreeze, mSetI, mItL, mItS, mRng1, mRng2, mFor, mIsi, mIsN, mNotN, dI, dI0, dB0, dU, dEq, dNe, dAdd, dIx, mIxO, dLen, dList, dTuple, mCBO, dListO, dMax2, dAbs, dInt1, dGcd, dLcm, mTmpT, mAsgO, mAsgF, mRetF, mSc, mVarO, mSpoil, mSpoilK, ro0, List.map_cons, List.map_nil, List.replicate, List.length_cons, List.length_nil, List.getElem?_cons_zero, List.getElem?_cons_succ, List.set_cons_zero, List.set_cons_succ, List.cons_append, List.nil_append, Nat.reduceAdd, Nat.reduceSub, dSeq_lst, dSeq_tup, mCall, true_and]
  exact ⟨mulF sa sp, mulF sb sq, _, _, rfl, smF sb sq, fun z => (two F z).elim, fun _ => h⟩
theorem d_over : ∀ ds c xe rt, fOver xe ds c rt → ds.length = 2 ∧ b_over (fun e _ c' => xe e c') { nx := fun _ c' => rt .non c', rt := rt, rtN := rt } (ro0 ["one", "other", "top", "bottom", "other_top", "other_bottom"] ds) c := by
  rintro _ c xe rt ⟨a, b, p, q, rfl, F, h0, h⟩
  obtain ⟨sa, sb, sp, sq, hb, hq⟩ := id F
  refine ⟨rfl, ?_⟩
  simp only [b_over, rat, mSeq, mAsg, mVar, mC, mOp, mUn, mNil, mCons, mTup, mLst, mFrz, mTest, mAnd, mOr, mNot, mIf, mAndV, mOrV, mNotV, mCB, mCall0, gN, gsN, gsC, gT, mNext, mRet, mRetN, mIfS, mDrop, mPar, mApp, mFreeze, mSetI, mItL, mItS, mRng1, mRng2, mFor, mIsi, mIsN, mNotN, dI, dI0, dB0, dU, dEq, dNe, dAdd, dIx, mIxO, dLen, dList, dTuple, mCBO, dListO, dMax2, dAbs, dInt1, dGcd, dLcm, mTmpT, mAsgO, mAsgF, mRetF, mSc, mVarO, mSpoil, mSpoilK, ro0, List.map_cons, List.map_nil, List.replicate, List.length_cons, List.length_nil, List.getElem?_cons_zero, List.getElem?_cons_succ, List.set_cons_zero, List.set_cons_succ, List.cons_append, List.nil_append, Nat.reduceAdd, Nat.reduceSub, dSeq_lst, dSeq_tup, mCall, true_and]
  refine ⟨mulF sa sq, mulF sb sp, _, _, rfl, smF sb sp, fun z => ?_, fun z => h fun y => z (by rw [y, Int.mul_zero])⟩
  exact h0 ((Int.mul_eq_zero.mp z).resolve_left hb)
theorem cmp_low {n m : Int} (h : m ≠ 0) (hp : 0 < m) : cmp (lowP n m).1 = cmp n := by
  obtain ⟨e1, e2, e3⟩ := lowP_spec (a := n) h
  have sp : 0 < sg n m := by
    have hg : 0 < Nat.gcd n.natAbs m.natAbs := Nat.gcd_pos_of_pos_right _ (by omega)
    rw [sgE, if_neg (by omega)]; omega
  generalize sg n m = s at *
  generalize (lowP n m).1 = x at *
  unfold cmp
  subst e1
  rcases Int.lt_trichotomy x 0 with q | q | q
  · have := Int.mul_neg_of_pos_of_neg sp q
    rw [if_pos q, if_pos this]
  · subst q; simp
  · have := Int.mul_pos sp q
    rw [if_neg (by omega), if_pos q, if_neg (by omega), if_pos this]
theorem d_compare : ∀ ds c xe rt, fCompare xe ds c rt → ds.length = 2 ∧ b_compare (fun _ _ _ => False) { nx := fun _ c' => rt .non c', rt := rt, rtN := rt } (ro0 ["one", "other", "difference", "_"] ds) c := by
  rintro _ c xe rt ⟨a, b, p, q, rfl, F, b0, q0, h⟩
  obtain ⟨sa, sb, sp, sq, hb, hq⟩ := id F
  refine ⟨rfl, ?_⟩
  simp only [b_compare, mSeq, mAsg, mVar, mC, mOp, mUn, mNil, mCons, mTup, mLst, mFrz, mTest, mAnd, mOr, mNot, mIf, mAndV, mOrV, mNotV, mCB, mCall0, gN, gsN, gsC, gT, mNext, mRet, mRetN, mIfS, mDrop, mPar, mApp, mFreeze, mSetI, mItL, mItS, mRng1, mRng2, mFor, mIsi, mIsN, mNotN, dI, dI0, dB0, dU, dEq, dNe, dAdd, dIx, mIxO, dLen, dList, dTuple, mCBO, dListO, dMax2, dAbs, dInt1, dGcd, dLcm, mTmpT, mAsgO, mAsgF, mRetF, mSc, mVarO, mSpoil, mSpoilK, ro0, List.map_cons, List.map_nil, List.replicate, List.length_cons, List.length_nil, List.getElem?_cons_zero, List.getElem?_cons_succ, List.set_cons_zero, List.set_cons_succ, List.cons_append, List.nil_append, Nat.reduceAdd, Nat.reduceSub, dSeq_lst, dSeq_tup]
  refine ⟨a, b, p, q, rfl, F, ?_⟩
  have e := cmp_low (n := a * q - p * b) (two F) (Int.mul_pos b0 q0)
  rw [← e] at h
  simp only [low, rat, mSeq, mAsg, mVar, mC, mOp, mUn, mNil, mCons, mTup, mLst, mFrz, mTest, mAnd, mOr, mNot, mIf, mAndV, mOrV, mNotV, mCB, mCall0, gN, gsN, gsC, gT, mNext, mRet, mRetN, mIfS, mDrop, mPar, mApp, mFreeze, mSetI, mItL, mItS, mRng1, mRng2, mFor, mIsi, mIsN, mNotN, dI, dI0, dB0, dU, dEq, dNe, dAdd, dIx, mIxO, dLen, dList, dTuple, mCBO, dListO, dMax2, dAbs, dInt1, dGcd, dLcm, mTmpT, mAsgO, mAsgF, mRetF, mSc, mVarO, mSpoil, mSpoilK, ro0, List.map_cons, List.map_nil, List.replicate, List.length_cons, List.length_nil, List.getElem?_cons_zero, List.getElem?_cons_succ, List.set_cons_zero, List.set_cons_succ, List.cons_append, List.nil_append, Nat.reduceAdd, Nat.reduceSub, dSeq_lst, dSeq_tup, true_and]
  generalize (lowP (a * q - p * b) (b * q)).1 = x at *
  unfold cmp at h
  by_cases z : x < 0
  · rw [if_pos z] at h
    simp only [decide_eq_true z, if_true]; exact h
  · rw [if_neg z] at h
    simp only [decide_eq_false z, Bool.false_eq_true, if_false, mSeq, mAsg, mVar, mC, mOp, mUn, mNil, mCons, mTup, mLst, mFrz, mTest, mAnd, mOr, mNot, mIf, mAndV, mOrV, mNotV, mCB, mCall0, gN, gsN, gsC, gT, mNext, mRet, mRetN, mIfS, mDrop, mPar, mApp, mFreeze, mSetI, mItL, mItS, mRng1, mRng2, mFor, mIsi, mIsN, mNotN, dI, dI0, dB0, dU, dEq, dNe, dAdd, dIx, mIxO, dLen, dList, dTuple, mCBO, dListO, dMax2, dAbs, dInt1, dGcd, dLcm, mTmpT, mAsgO, mAsgF, mRetF, mSc, mVarO, mSpoil, mSpoilK, ro0, List.map_cons, List.map_nil, List.replicate, List.length_cons, List.length_nil, List.getElem?_cons_zero, List.getElem?_cons_succ, List.set_cons_zero, List.set_cons_succ, List.cons_append, List.nil_append, Nat.reduceAdd, Nat.reduceSub, dSeq_lst, dSeq_tup]
    by_cases z2 : 0 < x
    · rw [if_pos z2] at h
      simp only [decide_eq_true z2, if_true]; exact h
    · rw [if_neg z2] at h
      simp only [decide_eq_false z2, Bool.false_eq_true, if_false, mSeq, mAsg, mVar, mC, mOp, mUn, mNil, mCons, mTup, mLst, mFrz, mTest, mAnd, mOr, mNot, mIf, mAndV, mOrV, mNotV, mCB, mCall0, gN, gsN, gsC, gT, mNext, mRet, mRetN, mIfS, mDrop, mPar, mApp, mFreeze, mSetI, mItL, mItS, mRng1, mRng2, mFor, mIsi, mIsN, mNotN, dI, dI0, dB0, dU, dEq, dNe, dAdd, dIx, mIxO, dLen, dList, dTuple, mCBO, dListO, dMax2, dAbs, dInt1, dGcd, dLcm, mTmpT, mAsgO, mAsgF, mRetF, mSc, mVarO, mSpoil, mSpoilK, ro0, List.map_cons, List.map_nil, List.replicate, List.length_cons, List.length_nil, List.getElem?_cons_zero, List.getElem?_cons_succ, List.set_cons_zero, List.set_cons_succ, List.cons_append, List.nil_append, Nat.reduceAdd, Nat.reduceSub, dSeq_lst, dSeq_tup]; exact h
theorem get_rat {rs : List (Int × Int)} {i : Nat} {d : D} (h : (ratsD rs)[i]? = some d) : ∃ r, rs[i]? = some r ∧ d = rat r.1 r.2 := by
  unfold ratsD at h
  rw [List.getElem?_map] at h
  cases e : rs[i]? with
  | none => rw [e] at h; cases h
  | some n => rw [e] at h; exact ⟨n, rfl, (Option.some.inj h).symm⟩
theorem totP_succ {rs : List (Int × Int)} {i : Nat} {r : Int × Int} (h : rs[i]? = some r) : totP (rs.take (i + 1)) = addP (totP (rs.take i)) r := by
  unfold totP
  rw [List.take_add_one, h, List.foldl_append]
  rfl
theorem fold_sm : ∀ (rs : List (Int × Int)) (s : Int × Int) (k : Nat), Sm k s.1 → Sm k s.2 → 0 < s.2 → (∀ r ∈ rs, Sm 100 r.1 ∧ 0 < r.2 ∧ Sm 100 r.2) →
    Sm (k + 101 * rs.length) (rs.foldl addP s).1 ∧ Sm (k + 101 * rs.length) (rs.foldl addP s).2 ∧ 0 < (rs.foldl addP s).2
  | [], s, k, h1, h2, h3, _ => ⟨h1, h2, h3⟩
  | r :: rs, s, k, h1, h2, h3, h => by
    obtain ⟨r1, r2, r3⟩ := h r List.mem_cons_self
    have hb : s.2 * r.2 ≠ 0 := Int.mul_ne_zero (by omega) (by omega)
    have m1 : Sm (k + 101) (s.1 * r.2 + r.1 * s.2) := ((h1.mul r3).add ((r1.mul h2).up (by omega))).up (by omega)
    have m2 : Sm (k + 101) (s.2 * r.2) := (h2.mul r3).up (by omega)
    obtain ⟨l1, l2⟩ := Sm.low hb m1 m2
    obtain ⟨a1, a2, a3⟩ := fold_sm rs (addP s r) (k + 101) l1 l2 (lowP_spec hb).2.2 fun q hq => h q (List.mem_cons_of_mem _ hq)
    have e : k + 101 * (r :: rs).length = k + 101 + 101 * rs.length := by rw [List.length_cons]; omega
    rw [e]
    exact ⟨a1, a2, a3⟩
theorem tot_sm {rs : List (Int × Int)} (h : Rats rs) (i : Nat) : Sm 1000 (totP (rs.take i)).1 ∧ Sm 1000 (totP (rs.take i)).2 ∧ 0 < (totP (rs.take i)).2 := by
  obtain ⟨a, b, c⟩ := fold_sm (rs.take i) (0, 1) 1 (by unfold Sm; decide) (by unfold Sm; decide) (by decide) fun r hr => h.2 r (List.mem_of_mem_take hr)
  have := h.1
  have : (rs.take i).length ≤ 6 := by rw [List.length_take]; omega
  exact ⟨a.up (by omega), b.up (by omega), c⟩
theorem d_total : ∀ ds c xe rt, fTotal xe ds c rt → ds.length = 1 ∧ b_total (fun _ _ _ => False) { nx := fun _ c' => rt .non c', rt := rt, rtN := rt } (ro0 ["ratios", "answer", "one"] ds) c := by
  rintro ds c xe rt ⟨rs, hds, hR, h⟩
  obtain ⟨d, rfl, hd⟩ : ∃ d, ds = [d] ∧ (d = .lst (ratsD rs) ∨ d = .tup (ratsD rs)) := by rcases hds with rfl | rfl; exact ⟨_, rfl, .inl rfl⟩; exact ⟨_, rfl, .inr rfl⟩
  refine ⟨rfl, ?_⟩
  simp only [b_total, mSeq, mAsg, mVar, mC, mOp, mUn, mNil, mCons, mTup, mLst, mFrz, mTest, mAnd, mOr, mNot, mIf, mAndV, mOrV, mNotV, mCB, mCall0, gN, gsN, gsC, gT, mNext, mRet, mRetN, mIfS, mDrop, mPar, mApp, mFreeze, mSetI, mItL, mItS, mRng1, mRng2, mFor, mIsi, mIsN, mNotN, dI, dI0, dB0, dU, dEq, dNe, dAdd, dIx, mIxO, dLen, dList, dTuple, mCBO, dListO, dMax2, dAbs, dInt1, dGcd, dLcm, mTmpT, mAsgO, mAsgF, mRetF, mSc, mVarO, mSpoil, mSpoilK, ro0, List.map_cons, List.map_nil, List.replicate, List.length_cons, List.length_nil, List.getElem?_cons_zero, List.getElem?_cons_succ, List.set_cons_zero, List.set_cons_succ, List.cons_append, List.nil_append, Nat.reduceAdd, Nat.reduceSub, dSeq_lst, dSeq_tup]
  refine ⟨by decide, dSeq_of hd ?_⟩
  refine ⟨fun i ρ c' => c' = c ∧ ∃ s2, ρ = [.sh d, .sh (rat (totP (rs.take i)).1 (totP (rs.take i)).2), s2], ⟨rfl, _, rfl⟩, ?_, ?_⟩
  · rintro i x ρ c' hx ⟨rfl, s2, rfl⟩
    obtain ⟨r, hr, rfl⟩ := get_rat hx
    obtain ⟨q1, q2, q3⟩ := hR.2 r (List.mem_of_getElem? hr)
    obtain ⟨t1, t2, t3⟩ := tot_sm hR i
    simp only [mSeq, mAsg, mVar, mC, mOp, mUn, mNil, mCons, mTup, mLst, mFrz, mTest, mAnd, mOr, mNot, mIf, mAndV, mOrV, mNotV, mCB, mCall0, gN, gsN, gsC, gT, mNext, mRet, mRetN, mIfS, mDrop, mPar, mApp, mFreeze, mSetI, mItL, mItS, mRng1, mRng2, mFor, mIsi, mIsN, mNotN, dI, dI0, dB0, dU, dEq, dNe, dAdd, dIx, mIxO, dLen, dList, dTuple, mCBO, dListO, dMax2, dAbs, dInt1, dGcd, dLcm, mTmpT, mAsgO, mAsgF, mRetF, mSc, mVarO, mSpoil, mSpoilK, ro0, List.map_cons, List.map_nil, List.replicate, List.length_cons, List.length_nil, List.getElem?_cons_zero, List.getElem?_cons_succ, List.set_cons_zero, List.set_cons_succ, List.cons_append, List.nil_append, Nat.reduceAdd, Nat.reduceSub, dSeq_lst, dSeq_tup]
    rw [totP_succ hr]
    exact ⟨_, _, _, _, rfl, ⟨t1.up (by decide), t2.up (by decide), q1.up (by decide), q3.up (by decide), by omega, by omega⟩, rfl, _, rfl⟩
  · rintro ρ c' ⟨rfl, s2, rfl⟩
    have e : (ratsD rs).length = rs.length := by simp [ratsD]
    simp only [mSeq, mAsg, mVar, mC, mOp, mUn, mNil, mCons, mTup, mLst, mFrz, mTest, mAnd, mOr, mNot, mIf, mAndV, mOrV, mNotV, mCB, mCall0, gN, gsN, gsC, gT, mNext, mRet, mRetN, mIfS, mDrop, mPar, mApp, mFreeze, mSetI, mItL, mItS, mRng1, mRng2, mFor, mIsi, mIsN, mNotN, dI, dI0, dB0, dU, dEq, dNe, dAdd, dIx, mIxO, dLen, dList, dTuple, mCBO, dListO, dMax2, dAbs, dInt1, dGcd, dLcm, mTmpT, mAsgO, mAsgF, mRetF, mSc, mVarO, mSpoil, mSpoilK, ro0, List.map_cons, List.map_nil, List.replicate, List.length_cons, List.length_nil, List.getElem?_cons_zero, List.getElem?_cons_succ, List.set_cons_zero, List.set_cons_succ, List.cons_append, List.nil_append, Nat.reduceAdd, Nat.reduceSub, dSeq_lst, dSeq_tup, e, List.take_length]
    exact h
theorem d_law_is_number : ∀ ds c xe rt, fIsNum xe ds c rt → ds.length = 1 ∧ b_law_is_number (fun _ _ _ => False) { nx := fun _ c' => rt .non c', rt := rt, rtN := rt } (ro0 ["_law_thing"] ds) c := by
  rintro _ c xe rt ⟨d, rfl, hp, h⟩
  refine ⟨rfl, ?_⟩
  cases d <;> simp [b_law_is_number, mSeq, mAsg, mVar, mC, mOp, mUn, mNil, mCons, mTup, mLst, mFrz, mTest, mAnd, mOr, mNot, mIf, mAndV, mOrV, mNotV, mCB, mCall0, gN, gsN, gsC, gT, mNext, mRet, mRetN, mIfS, mDrop, mPar, mApp, mFreeze, mSetI, mItL, mItS, mRng1, mRng2, mFor, mIsi, mIsN, mNotN, dI, dI0, dB0, dU, dEq, dNe, dAdd, dIx, mIxO, dLen, dList, dTuple, mCBO, dListO, dMax2, dAbs, dInt1, dGcd, dLcm, mTmpT, mAsgO, mAsgF, mRetF, mSc, mVarO, mSpoil, mSpoilK, ro0, List.map_cons, List.map_nil, List.replicate, List.length_cons, List.length_nil, List.getElem?_cons_zero, List.getElem?_cons_succ, List.set_cons_zero, List.set_cons_succ, List.cons_append, List.nil_append, Nat.reduceAdd, Nat.reduceSub, dSeq_lst, dSeq_tup, dIsi, dIsN, tyName, plain, isNum] at hp h ⊢ <;> exact h
theorem d_law_divisor : ∀ ds c xe rt, fGcd xe ds c rt → ds.length = 1 ∧ b_law_divisor (fun _ _ _ => False) { nx := fun _ c' => rt .non c', rt := rt, rtN := rt } (ro0 ["_law_numbers", "_law_found", "_law_number", "_law_one", "_law_other"] ds) c := by
  rintro _ c xe rt ⟨ns, rfl, h⟩
  refine ⟨rfl, ?_⟩
  simp only [b_law_divisor, mSeq, mAsg, mVar, mC, mOp, mUn, mNil, mCons, mTup, mLst, mFrz, mTest, mAnd, mOr, mNot, mIf, mAndV, mOrV, mNotV, mCB, mCall0, gN, gsN, gsC, gT, mNext, mRet, mRetN, mIfS, mDrop, mPar, mApp, mFreeze, mSetI, mItL, mItS, mRng1, mRng2, mFor, mIsi, mIsN, mNotN, dI, dI0, dB0, dU, dEq, dNe, dAdd, dIx, mIxO, dLen, dList, dTuple, mCBO, dListO, dMax2, dAbs, dInt1, dGcd, dLcm, mTmpT, mAsgO, mAsgF, mRetF, mSc, mVarO, mSpoil, mSpoilK, ro0, List.map_cons, List.map_nil, List.replicate, List.length_cons, List.length_nil, List.getElem?_cons_zero, List.getElem?_cons_succ, List.set_cons_zero, List.set_cons_succ, List.cons_append, List.nil_append, Nat.reduceAdd, Nat.reduceSub, dSeq_lst, dSeq_tup]
  refine ⟨fun i ρ c' => c' = c ∧ ∃ s2 s3 s4, ρ = [.sh (.lst (ns.map .int)), .sh (.int (gcdL (ns.take i) : Nat)), s2, s3, s4], ⟨rfl, _, _, _, rfl⟩, ?_, ?_⟩
  · rintro i d ρ c' hd ⟨rfl, s2, s3, s4, rfl⟩
    obtain ⟨n, hn, rfl⟩ := get_int hd
    simp only [mSeq, mAsg, mVar, mC, mOp, mUn, mNil, mCons, mTup, mLst, mFrz, mTest, mAnd, mOr, mNot, mIf, mAndV, mOrV, mNotV, mCB, mCall0, gN, gsN, gsC, gT, mNext, mRet, mRetN, mIfS, mDrop, mPar, mApp, mFreeze, mSetI, mItL, mItS, mRng1, mRng2, mFor, mIsi, mIsN, mNotN, dI, dI0, dB0, dU, dEq, dNe, dAdd, dIx, mIxO, dLen, dList, dTuple, mCBO, dListO, dMax2, dAbs, dInt1, dGcd, dLcm, mTmpT, mAsgO, mAsgF, mRetF, mSc, mVarO, mSpoil, mSpoilK, ro0, List.map_cons, List.map_nil, List.replicate, List.length_cons, List.length_nil, List.getElem?_cons_zero, List.getElem?_cons_succ, List.set_cons_zero, List.set_cons_succ, List.cons_append, List.nil_append, Nat.reduceAdd, Nat.reduceSub, dSeq_lst, dSeq_tup]
    refine ⟨fun m ρ c'' => c'' = c' ∧ ∃ (a b : Int), ρ = [.sh (.lst (ns.map .int)), .sh (.int (gcdL (ns.take i) : Nat)), .sh (.int n), .sh (.int a), .sh (.int b)] ∧ 0 ≤ a ∧ 0 ≤ b ∧ m = b.toNat ∧ Nat.gcd a.natAbs b.natAbs = gcdL (ns.take (i + 1)),
      ⟨_, rfl, _, _, rfl, by split <;> omega, Int.natCast_nonneg _, rfl, ?_⟩, ?_⟩
    · rw [gcdL_succ hn, Nat.gcd_comm, Int.natAbs_natCast]
      congr 1
      split <;> omega
    · rintro m ρ c'' ⟨rfl, a, b, rfl, ha, hb, rfl, hg⟩
      simp only [mSeq, mAsg, mVar, mC, mOp, mUn, mNil, mCons, mTup, mLst, mFrz, mTest, mAnd, mOr, mNot, mIf, mAndV, mOrV, mNotV, mCB, mCall0, gN, gsN, gsC, gT, mNext, mRet, mRetN, mIfS, mDrop, mPar, mApp, mFreeze, mSetI, mItL, mItS, mRng1, mRng2, mFor, mIsi, mIsN, mNotN, dI, dI0, dB0, dU, dEq, dNe, dAdd, dIx, mIxO, dLen, dList, dTuple, mCBO, dListO, dMax2, dAbs, dInt1, dGcd, dLcm, mTmpT, mAsgO, mAsgF, mRetF, mSc, mVarO, mSpoil, mSpoilK, ro0, List.map_cons, List.map_nil, List.replicate, List.length_cons, List.length_nil, List.getElem?_cons_zero, List.getElem?_cons_succ, List.set_cons_zero, List.set_cons_succ, List.cons_append, List.nil_append, Nat.reduceAdd, Nat.reduceSub, dSeq_lst, dSeq_tup, ok_int, eqv_int, and_self, true_and]
      by_cases e : b = 0
      · subst e
        simp only [beq_self_eq_true, Bool.not_true, Bool.false_eq_true, if_false, mSeq, mAsg, mVar, mC, mOp, mUn, mNil, mCons, mTup, mLst, mFrz, mTest, mAnd, mOr, mNot, mIf, mAndV, mOrV, mNotV, mCB, mCall0, gN, gsN, gsC, gT, mNext, mRet, mRetN, mIfS, mDrop, mPar, mApp, mFreeze, mSetI, mItL, mItS, mRng1, mRng2, mFor, mIsi, mIsN, mNotN, dI, dI0, dB0, dU, dEq, dNe, dAdd, dIx, mIxO, dLen, dList, dTuple, mCBO, dListO, dMax2, dAbs, dInt1, dGcd, dLcm, mTmpT, mAsgO, mAsgF, mRetF, mSc, mVarO, mSpoil, mSpoilK, ro0, List.map_cons, List.map_nil, List.replicate, List.length_cons, List.length_nil, List.getElem?_cons_zero, List.getElem?_cons_succ, List.set_cons_zero, List.set_cons_succ, List.cons_append, List.nil_append, Nat.reduceAdd, Nat.reduceSub, dSeq_lst, dSeq_tup]
        have hg' : a.natAbs = gcdL (ns.take (i + 1)) := by
          rw [← hg]; simp
        have e3 : ((gcdL (ns.take (i + 1)) : Nat) : Int) = a := by omega
        rw [e3]
        exact ⟨_, _, _, rfl⟩
      · have eb : (b == 0) = false := by simpa using e
        simp only [eb, Bool.not_false, if_true, mSeq, mAsg, mVar, mC, mOp, mUn, mNil, mCons, mTup, mLst, mFrz, mTest, mAnd, mOr, mNot, mIf, mAndV, mOrV, mNotV, mCB, mCall0, gN, gsN, gsC, gT, mNext, mRet, mRetN, mIfS, mDrop, mPar, mApp, mFreeze, mSetI, mItL, mItS, mRng1, mRng2, mFor, mIsi, mIsN, mNotN, dI, dI0, dB0, dU, dEq, dNe, dAdd, dIx, mIxO, dLen, dList, dTuple, mCBO, dListO, dMax2, dAbs, dInt1, dGcd, dLcm, mTmpT, mAsgO, mAsgF, mRetF, mSc, mVarO, mSpoil, mSpoilK, ro0, List.map_cons, List.map_nil, List.replicate, List.length_cons, List.length_nil, List.getElem?_cons_zero, List.getElem?_cons_succ, List.set_cons_zero, List.set_cons_succ, List.cons_append, List.nil_append, Nat.reduceAdd, Nat.reduceSub, dSeq_lst, dSeq_tup]
        refine ⟨e, (a.fmod b).toNat, ?_, b, a.fmod b, rfl, hb, ?_, rfl, ?_⟩
        · rw [Int.fmod_eq_emod_of_nonneg _ hb]
          have := Int.emod_lt_of_pos a (by omega : 0 < b)
          have := Int.emod_nonneg a e
          omega
        · rw [Int.fmod_eq_emod_of_nonneg _ hb]; exact Int.emod_nonneg a e
        · rw [← hg, Int.fmod_eq_emod_of_nonneg _ hb, Nat.gcd_comm a.natAbs, Nat.gcd_rec b.natAbs a.natAbs, Nat.gcd_comm]
          congr 1
          obtain ⟨x, rfl⟩ := Int.eq_ofNat_of_zero_le ha
          obtain ⟨y, rfl⟩ := Int.eq_ofNat_of_zero_le hb
          rfl
  · rintro ρ c' ⟨rfl, s2, s3, s4, rfl⟩
    simp only [mSeq, mAsg, mVar, mC, mOp, mUn, mNil, mCons, mTup, mLst, mFrz, mTest, mAnd, mOr, mNot, mIf, mAndV, mOrV, mNotV, mCB, mCall0, gN, gsN, gsC, gT, mNext, mRet, mRetN, mIfS, mDrop, mPar, mApp, mFreeze, mSetI, mItL, mItS, mRng1, mRng2, mFor, mIsi, mIsN, mNotN, dI, dI0, dB0, dU, dEq, dNe, dAdd, dIx, mIxO, dLen, dList, dTuple, mCBO, dListO, dMax2, dAbs, dInt1, dGcd, dLcm, mTmpT, mAsgO, mAsgF, mRetF, mSc, mVarO, mSpoil, mSpoilK, ro0, List.map_cons, List.map_nil, List.replicate, List.length_cons, List.length_nil, List.getElem?_cons_zero, List.getElem?_cons_succ, List.set_cons_zero, List.set_cons_succ, List.cons_append, List.nil_append, Nat.reduceAdd, Nat.reduceSub, dSeq_lst, dSeq_tup, List.length_map, List.take_length]
    exact h
theorem d_law_ratio : ∀ ds c xe rt, fRat xe ds c rt → ds.length = 2 ∧ b_law_ratio (fun _ _ _ => False) { nx := fun _ c' => rt .non c', rt := rt, rtN := rt } (ro0 ["_law_up", "_law_down", "_law_part"] ds) c := by
  rintro _ c xe rt ⟨a, b, rfl, hb, hl, h⟩
  refine ⟨rfl, ?_⟩
  simp only [b_law_ratio, mSeq, mAsg, mVar, mC, mOp, mUn, mNil, mCons, mTup, mLst, mFrz, mTest, mAnd, mOr, mNot, mIf, mAndV, mOrV, mNotV, mCB, mCall0, gN, gsN, gsC, gT, mNext, mRet, mRetN, mIfS, mDrop, mPar, mApp, mFreeze, mSetI, mItL, mItS, mRng1, mRng2, mFor, mIsi, mIsN, mNotN, dI, dI0, dB0, dU, dEq, dNe, dAdd, dIx, mIxO, dLen, dList, dTuple, mCBO, dListO, dMax2, dAbs, dInt1, dGcd, dLcm, mTmpT, mAsgO, mAsgF, mRetF, mSc, mVarO, mSpoil, mSpoilK, ro0, List.map_cons, List.map_nil, List.replicate, List.length_cons, List.length_nil, List.getElem?_cons_zero, List.getElem?_cons_succ, List.set_cons_zero, List.set_cons_succ, List.cons_append, List.nil_append, Nat.reduceAdd, Nat.reduceSub, dSeq_lst, dSeq_tup]
  refine ⟨by decide, [a, b], rfl, ?_⟩
  simp only [mSeq, mAsg, mVar, mC, mOp, mUn, mNil, mCons, mTup, mLst, mFrz, mTest, mAnd, mOr, mNot, mIf, mAndV, mOrV, mNotV, mCB, mCall0, gN, gsN, gsC, gT, mNext, mRet, mRetN, mIfS, mDrop, mPar, mApp, mFreeze, mSetI, mItL, mItS, mRng1, mRng2, mFor, mIsi, mIsN, mNotN, dI, dI0, dB0, dU, dEq, dNe, dAdd, dIx, mIxO, dLen, dList, dTuple, mCBO, dListO, dMax2, dAbs, dInt1, dGcd, dLcm, mTmpT, mAsgO, mAsgF, mRetF, mSc, mVarO, mSpoil, mSpoilK, ro0, List.map_cons, List.map_nil, List.replicate, List.length_cons, List.length_nil, List.getElem?_cons_zero, List.getElem?_cons_succ, List.set_cons_zero, List.set_cons_succ, List.cons_append, List.nil_append, Nat.reduceAdd, Nat.reduceSub, dSeq_lst, dSeq_tup]
  have hs : ∀ x : Int, sg a b = x → (CDivG a x ∧ CDivG b x ∧ (0 + 1 + 1 ≤ 1000000) ∧ rt (.tup [.int (a.fdiv x), .int (b.fdiv x)]) c) := fun x e => by
    refine ⟨divs hb hl x e a, divs hb hl x e b, by decide, ?_⟩
    subst e; exact h
  by_cases hneg : b < 0
  · simp only [decide_eq_true hneg, if_true, mSeq, mAsg, mVar, mC, mOp, mUn, mNil, mCons, mTup, mLst, mFrz, mTest, mAnd, mOr, mNot, mIf, mAndV, mOrV, mNotV, mCB, mCall0, gN, gsN, gsC, gT, mNext, mRet, mRetN, mIfS, mDrop, mPar, mApp, mFreeze, mSetI, mItL, mItS, mRng1, mRng2, mFor, mIsi, mIsN, mNotN, dI, dI0, dB0, dU, dEq, dNe, dAdd, dIx, mIxO, dLen, dList, dTuple, mCBO, dListO, dMax2, dAbs, dInt1, dGcd, dLcm, mTmpT, mAsgO, mAsgF, mRetF, mSc, mVarO, mSpoil, mSpoilK, ro0, List.map_cons, List.map_nil, List.replicate, List.length_cons, List.length_nil, List.getElem?_cons_zero, List.getElem?_cons_succ, List.set_cons_zero, List.set_cons_succ, List.cons_append, List.nil_append, Nat.reduceAdd, Nat.reduceSub, dSeq_lst, dSeq_tup]
    exact hs _ (if_pos hneg)
  · simp only [decide_eq_false hneg, Bool.false_eq_true, if_false, mSeq, mAsg, mVar, mC, mOp, mUn, mNil, mCons, mTup, mLst, mFrz, mTest, mAnd, mOr, mNot, mIf, mAndV, mOrV, mNotV, mCB, mCall0, gN, gsN, gsC, gT, mNext, mRet, mRetN, mIfS, mDrop, mPar, mApp, mFreeze, mSetI, mItL, mItS, mRng1, mRng2, mFor, mIsi, mIsN, mNotN, dI, dI0, dB0, dU, dEq, dNe, dAdd, dIx, mIxO, dLen, dList, dTuple, mCBO, dListO, dMax2, dAbs, dInt1, dGcd, dLcm, mTmpT, mAsgO, mAsgF, mRetF, mSc, mVarO, mSpoil, mSpoilK, ro0, List.map_cons, List.map_nil, List.replicate, List.length_cons, List.length_nil, List.getElem?_cons_zero, List.getElem?_cons_succ, List.set_cons_zero, List.set_cons_succ, List.cons_append, List.nil_append, Nat.reduceAdd, Nat.reduceSub, dSeq_lst, dSeq_tup]
    exact hs _ (if_neg hneg)
theorem small_of {k : Int} {m : Nat} (h : -(m : Int) ≤ k) (h2 : k ≤ m) (hm : m < 2 ^ 97) : Sm 97 k := by unfold Sm; omega
theorem at2_0 (x y : D) : atI [x, y] 0 = some x := rfl
theorem at2_1 (x y : D) : atI [x, y] 1 = some y := rfl
theorem take_lg {n : Int} (h : Sm 100 n) : n.natAbs.log2 < 9000 := log2_of_lt (Nat.lt_of_lt_of_le h (Nat.pow_le_pow_right (by decide) (by decide))) (by decide)
theorem d_law_integer : ∀ ds c xe rt, fInt xe ds c rt → ds.length = 1 ∧ b_law_integer (fun _ _ _ => False) { nx := fun _ c' => rt .non c', rt := rt, rtN := rt } (ro0 ["_law_pool_here", "_law_size"] ds) c := by
  rintro _ c xe rt ⟨rfl, hc, h⟩
  refine ⟨rfl, ?_⟩
  have e10 : (10 : Int) ^ Int.toNat 29 = 100000000000000000000000000000 := by decide
  simp only [b_law_integer, mSeq, mAsg, mVar, mC, mOp, mUn, mNil, mCons, mTup, mLst, mFrz, mTest, mAnd, mOr, mNot, mIf, mAndV, mOrV, mNotV, mCB, mCall0, gN, gsN, gsC, gT, mNext, mRet, mRetN, mIfS, mDrop, mPar, mApp, mFreeze, mSetI, mItL, mItS, mRng1, mRng2, mFor, mIsi, mIsN, mNotN, dI, dI0, dB0, dU, dEq, dNe, dAdd, dIx, mIxO, dLen, dList, dTuple, mCBO, dListO, dMax2, dAbs, dInt1, dGcd, dLcm, mTmpT, mAsgO, mAsgF, mRetF, mSc, mVarO, mSpoil, mSpoilK, ro0, List.map_cons, List.map_nil, List.replicate, List.length_cons, List.length_nil, List.getElem?_cons_zero, List.getElem?_cons_succ, List.set_cons_zero, List.set_cons_succ, List.cons_append, List.nil_append, Nat.reduceAdd, Nat.reduceSub, dSeq_lst, dSeq_tup, e10]
  have fin : ∀ (m : Nat) (x : Int), x = m → 0 < m → m ≤ 100000000000000000000000000000 → CMulW 2 x ∧ fTake (fun _ _ => False) [.pool, .int (2 * x + 1)] (c + 1) fun y c1 => match y, D.int x with
      | .int i, .int j => rt (.int (i - j)) c1
      | _, _ => False := fun m x hx h0 h1 => by
    subst hx
    refine ⟨mulw (k := 2) (l := 97) (by unfold Sm; decide) (by unfold Sm; omega) (by decide) (by decide) (by decide), _, rfl, by omega, take_lg (by unfold Sm; omega), by omega, fun k2 g1 g2 => h _ (small_of (m := m) (by omega) (by omega) (by omega))⟩
  refine ⟨⟨by decide, by decide, by decide⟩, by decide, 4, rfl, by decide, take_lg (by unfold Sm; decide), by omega, fun k h0 h4 => ?_⟩
  have hk : k = 0 ∨ k = 1 ∨ k = 2 ∨ k = 3 := by omega
  rcases hk with rfl | rfl | rfl | rfl
  · exact fin 3 3 rfl (by decide) (by decide)
  · exact fin 12 12 rfl (by decide) (by decide)
  · exact fin 1000 1000 rfl (by decide) (by decide)
  · exact fin 100000000000000000000000000000 100000000000000000000000000000 rfl (by decide) (by decide)
theorem d_law_refused : ∀ ds c xe rt, fRefused xe ds c rt → ds.length = 1 ∧ b_law_refused (fun _ _ _ => False) { nx := fun _ c' => rt .non c', rt := rt, rtN := rt } (ro0 ["_law_up", "e"] ds) c := by
  rintro _ c xe rt ⟨a, rfl, h⟩
  refine ⟨rfl, ?_⟩
  simp only [b_law_refused, mSeq, mAsg, mVar, mC, mOp, mUn, mNil, mCons, mTup, mLst, mFrz, mTest, mAnd, mOr, mNot, mIf, mAndV, mOrV, mNotV, mCB, mCall0, gN, gsN, gsC, gT, mNext, mRet, mRetN, mIfS, mDrop, mPar, mApp, mFreeze, mSetI, mItL, mItS, mRng1, mRng2, mFor, mIsi, mIsN, mNotN, dI, dI0, dB0, dU, dEq, dNe, dAdd, dIx, mIxO, dLen, dList, dTuple, mCBO, dListO, dMax2, dAbs, dInt1, dGcd, dLcm, mTmpT, mAsgO, mAsgF, mRetF, mSc, mVarO, mSpoil, mSpoilK, ro0, List.map_cons, List.map_nil, List.replicate, List.length_cons, List.length_nil, List.getElem?_cons_zero, List.getElem?_cons_succ, List.set_cons_zero, List.set_cons_succ, List.cons_append, List.nil_append, Nat.reduceAdd, Nat.reduceSub, dSeq_lst, dSeq_tup, mTry, mCall]
  refine ⟨_, _, rfl, by unfold Sm; decide, fun _ => ?_, fun z => (z rfl).elim⟩
  have e1 : Tab.get tab bad0.nm "BadRatio" = some true := by decide
  simp only [hOf, e1]
  intro a' cls d
  simp only [dSet, bad0, mSeq, mAsg, mVar, mC, mOp, mUn, mNil, mCons, mTup, mLst, mFrz, mTest, mAnd, mOr, mNot, mIf, mAndV, mOrV, mNotV, mCB, mCall0, gN, gsN, gsC, gT, mNext, mRet, mRetN, mIfS, mDrop, mPar, mApp, mFreeze, mSetI, mItL, mItS, mRng1, mRng2, mFor, mIsi, mIsN, mNotN, dI, dI0, dB0, dU, dEq, dNe, dAdd, dIx, mIxO, dLen, dList, dTuple, mCBO, dListO, dMax2, dAbs, dInt1, dGcd, dLcm, mTmpT, mAsgO, mAsgF, mRetF, mSc, mVarO, mSpoil, mSpoilK, ro0, List.map_cons, List.map_nil, List.replicate, List.length_cons, List.length_nil, List.getElem?_cons_zero, List.getElem?_cons_succ, List.set_cons_zero, List.set_cons_succ, List.cons_append, List.nil_append, Nat.reduceAdd, Nat.reduceSub, dSeq_lst, dSeq_tup, mXf, and_self, true_and]
  refine ⟨.int 0, rfl, trivial, ?_⟩
  show (if true = true then _ else _)
  rw [if_pos rfl, eqv_int]
  exact ⟨ok_int _ _, h⟩
theorem d_law_over : ∀ ds c xe rt, fLOver xe ds c rt → ds.length = 2 ∧ b_law_over (fun _ _ _ => False) { nx := fun _ c' => rt .non c', rt := rt, rtN := rt } (ro0 ["_law_one", "_law_other", "e"] ds) c := by
  rintro _ c xe rt ⟨a, b, p, q, rfl, F, h⟩
  refine ⟨rfl, ?_⟩
  simp only [b_law_over, mSeq, mAsg, mVar, mC, mOp, mUn, mNil, mCons, mTup, mLst, mFrz, mTest, mAnd, mOr, mNot, mIf, mAndV, mOrV, mNotV, mCB, mCall0, gN, gsN, gsC, gT, mNext, mRet, mRetN, mIfS, mDrop, mPar, mApp, mFreeze, mSetI, mItL, mItS, mRng1, mRng2, mFor, mIsi, mIsN, mNotN, dI, dI0, dB0, dU, dEq, dNe, dAdd, dIx, mIxO, dLen, dList, dTuple, mCBO, dListO, dMax2, dAbs, dInt1, dGcd, dLcm, mTmpT, mAsgO, mAsgF, mRetF, mSc, mVarO, mSpoil, mSpoilK, ro0, List.map_cons, List.map_nil, List.replicate, List.length_cons, List.length_nil, List.getElem?_cons_zero, List.getElem?_cons_succ, List.set_cons_zero, List.set_cons_succ, List.cons_append, List.nil_append, Nat.reduceAdd, Nat.reduceSub, dSeq_lst, dSeq_tup, mTry, mCall]
  refine ⟨a, b, p, q, rfl, F, fun z => ?_, fun z => ?_⟩
  · have e1 : Tab.get tab bad0.nm "BadRatio" = some true := by decide
    rw [if_pos z] at h
    simp only [hOf, e1]
    intro a' cls d
    simp only [dSet, bad0, mSeq, mAsg, mVar, mC, mOp, mUn, mNil, mCons, mTup, mLst, mFrz, mTest, mAnd, mOr, mNot, mIf, mAndV, mOrV, mNotV, mCB, mCall0, gN, gsN, gsC, gT, mNext, mRet, mRetN, mIfS, mDrop, mPar, mApp, mFreeze, mSetI, mItL, mItS, mRng1, mRng2, mFor, mIsi, mIsN, mNotN, dI, dI0, dB0, dU, dEq, dNe, dAdd, dIx, mIxO, dLen, dList, dTuple, mCBO, dListO, dMax2, dAbs, dInt1, dGcd, dLcm, mTmpT, mAsgO, mAsgF, mRetF, mSc, mVarO, mSpoil, mSpoilK, ro0, List.map_cons, List.map_nil, List.replicate, List.length_cons, List.length_nil, List.getElem?_cons_zero, List.getElem?_cons_succ, List.set_cons_zero, List.set_cons_succ, List.cons_append, List.nil_append, Nat.reduceAdd, Nat.reduceSub, dSeq_lst, dSeq_tup, mXf, and_self, true_and, dEnds]
    exact h
  · rw [if_neg z] at h
    exact h
theorem d_law_in_terms : ∀ ds c xe rt, fTerms xe ds c rt → ds.length = 3 ∧ b_law_in_terms (fun _ _ _ => False) { nx := fun _ c' => rt .non c', rt := rt, rtN := rt } (ro0 ["_law_one", "_law_up", "_law_down"] ds) c := by
  rintro _ c xe rt ⟨a, b, rfl, hb, hs, h⟩
  refine ⟨rfl, ?_⟩
  have o1 : D.ok 60 (low a b) = true := by simp only [low, rat, ok_tup, okL_cons, okL_nil, ok_int, Bool.and_self]
  have e1 : D.eqv (low a b) (low a b) = true := eqv_refl 60 _ o1
  have last : fRat (fun _ _ => False) [.int a, .int b] c fun y c2 => (D.ok 60 (low a b) = true ∧ D.ok 60 y = true) ∧ rt (.bl (D.eqv (low a b) y)) c2 :=
    ⟨a, b, rfl, hb, hs, ⟨o1, o1⟩, by rw [e1]; exact h⟩
  simp only [b_law_in_terms, mSeq, mAsg, mVar, mC, mOp, mUn, mNil, mCons, mTup, mLst, mFrz, mTest, mAnd, mOr, mNot, mIf, mAndV, mOrV, mNotV, mCB, mCall0, gN, gsN, gsC, gT, mNext, mRet, mRetN, mIfS, mDrop, mPar, mApp, mFreeze, mSetI, mItL, mItS, mRng1, mRng2, mFor, mIsi, mIsN, mNotN, dI, dI0, dB0, dU, dEq, dNe, dAdd, dIx, mIxO, dLen, dList, dTuple, mCBO, dListO, dMax2, dAbs, dInt1, dGcd, dLcm, mTmpT, mAsgO, mAsgF, mRetF, mSc, mVarO, mSpoil, mSpoilK, ro0, List.map_cons, List.map_nil, List.replicate, List.length_cons, List.length_nil, List.getElem?_cons_zero, List.getElem?_cons_succ, List.set_cons_zero, List.set_cons_succ, List.cons_append, List.nil_append, Nat.reduceAdd, Nat.reduceSub, dSeq_lst, dSeq_tup]
  simp only [low, rat] at last ⊢
  simp only [isi_tup, mSeq, mAsg, mVar, mC, mOp, mUn, mNil, mCons, mTup, mLst, mFrz, mTest, mAnd, mOr, mNot, mIf, mAndV, mOrV, mNotV, mCB, mCall0, gN, gsN, gsC, gT, mNext, mRet, mRetN, mIfS, mDrop, mPar, mApp, mFreeze, mSetI, mItL, mItS, mRng1, mRng2, mFor, mIsi, mIsN, mNotN, dI, dI0, dB0, dU, dEq, dNe, dAdd, dIx, mIxO, dLen, dList, dTuple, mCBO, dListO, dMax2, dAbs, dInt1, dGcd, dLcm, mTmpT, mAsgO, mAsgF, mRetF, mSc, mVarO, mSpoil, mSpoilK, ro0, List.map_cons, List.map_nil, List.replicate, List.length_cons, List.length_nil, List.getElem?_cons_zero, List.getElem?_cons_succ, List.set_cons_zero, List.set_cons_succ, List.cons_append, List.nil_append, Nat.reduceAdd, Nat.reduceSub, dSeq_lst, dSeq_tup, Bool.not_true, Bool.false_eq_true, if_false, ok_int, eqv_int, and_self, true_and, show (((2 : Nat) : Int) == 2) = true from rfl, at2_0, at2_1]
  refine ⟨_, rfl, trivial, ?_⟩
  show (if (!true) = true then _ else _)
  rw [if_neg (by decide)]
  refine ⟨_, rfl, trivial, ?_⟩
  show (if (!true) = true then _ else _)
  rw [if_neg (by decide)]
  exact last
theorem d_law_two_right : ∀ ds c xe rt, fTwo xe ds c rt → ds.length = 2 ∧ b_law_two_right (fun _ _ _ => False) { nx := fun _ c' => rt .non c', rt := rt, rtN := rt } (ro0 ["_law_one", "_law_other", "_law_across", "_law_back", "_law_down", "_law_told"] ds) c := by
  rintro _ c xe rt ⟨a, b, p, q, rfl, F, b0, q0, h⟩
  obtain ⟨sa, sb, sp, sq, hb, hq⟩ := id F
  refine ⟨rfl, ?_⟩
  have hn := two F
  have sn := smF sb sq
  simp only [b_law_two_right, b_law_two_right_1, b_law_two_right_2, mSeq, mAsg, mVar, mC, mOp, mUn, mNil, mCons, mTup, mLst, mFrz, mTest, mAnd, mOr, mNot, mIf, mAndV, mOrV, mNotV, mCB, mCall0, gN, gsN, gsC, gT, mNext, mRet, mRetN, mIfS, mDrop, mPar, mApp, mFreeze, mSetI, mItL, mItS, mRng1, mRng2, mFor, mIsi, mIsN, mNotN, dI, dI0, dB0, dU, dEq, dNe, dAdd, dIx, mIxO, dLen, dList, dTuple, mCBO, dListO, dMax2, dAbs, dInt1, dGcd, dLcm, mTmpT, mAsgO, mAsgF, mRetF, mSc, mVarO, mSpoil, mSpoilK, ro0, List.map_cons, List.map_nil, List.replicate, List.length_cons, List.length_nil, List.getElem?_cons_zero, List.getElem?_cons_succ, List.set_cons_zero, List.set_cons_succ, List.cons_append, List.nil_append, Nat.reduceAdd, Nat.reduceSub, dSeq_lst, dSeq_tup, rat, at2_0, at2_1]
  refine ⟨mulF sa sq, mulF sp sb, mulF sb sq, ?_⟩
  simp only [b_law_two_right_3, mSeq, mAsg, mVar, mC, mOp, mUn, mNil, mCons, mTup, mLst, mFrz, mTest, mAnd, mOr, mNot, mIf, mAndV, mOrV, mNotV, mCB, mCall0, gN, gsN, gsC, gT, mNext, mRet, mRetN, mIfS, mDrop, mPar, mApp, mFreeze, mSetI, mItL, mItS, mRng1, mRng2, mFor, mIsi, mIsN, mNotN, dI, dI0, dB0, dU, dEq, dNe, dAdd, dIx, mIxO, dLen, dList, dTuple, mCBO, dListO, dMax2, dAbs, dInt1, dGcd, dLcm, mTmpT, mAsgO, mAsgF, mRetF, mSc, mVarO, mSpoil, mSpoilK, ro0, List.map_cons, List.map_nil, List.replicate, List.length_cons, List.length_nil, List.getElem?_cons_zero, List.getElem?_cons_succ, List.set_cons_zero, List.set_cons_succ, List.cons_append, List.nil_append, Nat.reduceAdd, Nat.reduceSub, dSeq_lst, dSeq_tup]
  refine ⟨a, b, p, q, rfl, F, a * q + p * b, b * q, rfl, hn, sn, ?_⟩
  simp only [b_law_two_right_4, mSeq, mAsg, mVar, mC, mOp, mUn, mNil, mCons, mTup, mLst, mFrz, mTest, mAnd, mOr, mNot, mIf, mAndV, mOrV, mNotV, mCB, mCall0, gN, gsN, gsC, gT, mNext, mRet, mRetN, mIfS, mDrop, mPar, mApp, mFreeze, mSetI, mItL, mItS, mRng1, mRng2, mFor, mIsi, mIsN, mNotN, dI, dI0, dB0, dU, dEq, dNe, dAdd, dIx, mIxO, dLen, dList, dTuple, mCBO, dListO, dMax2, dAbs, dInt1, dGcd, dLcm, mTmpT, mAsgO, mAsgF, mRetF, mSc, mVarO, mSpoil, mSpoilK, ro0, List.map_cons, List.map_nil, List.replicate, List.length_cons, List.length_nil, List.getElem?_cons_zero, List.getElem?_cons_succ, List.set_cons_zero, List.set_cons_succ, List.cons_append, List.nil_append, Nat.reduceAdd, Nat.reduceSub, dSeq_lst, dSeq_tup, Bool.not_true, Bool.false_eq_true, if_false]
  refine ⟨a, b, p, q, rfl, F, a * q - p * b, b * q, rfl, hn, sn, ?_⟩
  simp only [b_law_two_right_5, mSeq, mAsg, mVar, mC, mOp, mUn, mNil, mCons, mTup, mLst, mFrz, mTest, mAnd, mOr, mNot, mIf, mAndV, mOrV, mNotV, mCB, mCall0, gN, gsN, gsC, gT, mNext, mRet, mRetN, mIfS, mDrop, mPar, mApp, mFreeze, mSetI, mItL, mItS, mRng1, mRng2, mFor, mIsi, mIsN, mNotN, dI, dI0, dB0, dU, dEq, dNe, dAdd, dIx, mIxO, dLen, dList, dTuple, mCBO, dListO, dMax2, dAbs, dInt1, dGcd, dLcm, mTmpT, mAsgO, mAsgF, mRetF, mSc, mVarO, mSpoil, mSpoilK, ro0, List.map_cons, List.map_nil, List.replicate, List.length_cons, List.length_nil, List.getElem?_cons_zero, List.getElem?_cons_succ, List.set_cons_zero, List.set_cons_succ, List.cons_append, List.nil_append, Nat.reduceAdd, Nat.reduceSub, dSeq_lst, dSeq_tup, Bool.not_true, Bool.false_eq_true, if_false]
  refine ⟨a, b, p, q, rfl, F, ?_⟩
  simp only [at2_0, at2_1]
  refine ⟨mulF sa sp, a * p, b * q, rfl, hn, sn, ?_⟩
  simp only [b_law_two_right_6, mSeq, mAsg, mVar, mC, mOp, mUn, mNil, mCons, mTup, mLst, mFrz, mTest, mAnd, mOr, mNot, mIf, mAndV, mOrV, mNotV, mCB, mCall0, gN, gsN, gsC, gT, mNext, mRet, mRetN, mIfS, mDrop, mPar, mApp, mFreeze, mSetI, mItL, mItS, mRng1, mRng2, mFor, mIsi, mIsN, mNotN, dI, dI0, dB0, dU, dEq, dNe, dAdd, dIx, mIxO, dLen, dList, dTuple, mCBO, dListO, dMax2, dAbs, dInt1, dGcd, dLcm, mTmpT, mAsgO, mAsgF, mRetF, mSc, mVarO, mSpoil, mSpoilK, ro0, List.map_cons, List.map_nil, List.replicate, List.length_cons, List.length_nil, List.getElem?_cons_zero, List.getElem?_cons_succ, List.set_cons_zero, List.set_cons_succ, List.cons_append, List.nil_append, Nat.reduceAdd, Nat.reduceSub, dSeq_lst, dSeq_tup, Bool.not_true, Bool.false_eq_true, if_false, at2_0, ok_int, eqv_int, and_self, true_and]
  have r8 : b_law_two_right_8 (fun _ _ _ => False) { nx := fun _ c' => rt D.non c', rt := rt, rtN := rt } [S.sh (D.tup [D.int a, D.int b]), S.sh (D.tup [D.int p, D.int q]), S.sh (D.int (a * q)), S.sh (D.int (p * b)), S.sh (D.int (b * q)), S.no] c := by
    simp only [b_law_two_right_8, mSeq, mAsg, mVar, mC, mOp, mUn, mNil, mCons, mTup, mLst, mFrz, mTest, mAnd, mOr, mNot, mIf, mAndV, mOrV, mNotV, mCB, mCall0, gN, gsN, gsC, gT, mNext, mRet, mRetN, mIfS, mDrop, mPar, mApp, mFreeze, mSetI, mItL, mItS, mRng1, mRng2, mFor, mIsi, mIsN, mNotN, dI, dI0, dB0, dU, dEq, dNe, dAdd, dIx, mIxO, dLen, dList, dTuple, mCBO, dListO, dMax2, dAbs, dInt1, dGcd, dLcm, mTmpT, mAsgO, mAsgF, mRetF, mSc, mVarO, mSpoil, mSpoilK, ro0, List.map_cons, List.map_nil, List.replicate, List.length_cons, List.length_nil, List.getElem?_cons_zero, List.getElem?_cons_succ, List.set_cons_zero, List.set_cons_succ, List.cons_append, List.nil_append, Nat.reduceAdd, Nat.reduceSub, dSeq_lst, dSeq_tup]
    refine ⟨a, b, p, q, rfl, F, b0, q0, ?_⟩
    simp only [b_law_two_right_9, mSeq, mAsg, mVar, mC, mOp, mUn, mNil, mCons, mTup, mLst, mFrz, mTest, mAnd, mOr, mNot, mIf, mAndV, mOrV, mNotV, mCB, mCall0, gN, gsN, gsC, gT, mNext, mRet, mRetN, mIfS, mDrop, mPar, mApp, mFreeze, mSetI, mItL, mItS, mRng1, mRng2, mFor, mIsi, mIsN, mNotN, dI, dI0, dB0, dU, dEq, dNe, dAdd, dIx, mIxO, dLen, dList, dTuple, mCBO, dListO, dMax2, dAbs, dInt1, dGcd, dLcm, mTmpT, mAsgO, mAsgF, mRetF, mSc, mVarO, mSpoil, mSpoilK, ro0, List.map_cons, List.map_nil, List.replicate, List.length_cons, List.length_nil, List.getElem?_cons_zero, List.getElem?_cons_succ, List.set_cons_zero, List.set_cons_succ, List.cons_append, List.nil_append, Nat.reduceAdd, Nat.reduceSub, dSeq_lst, dSeq_tup]
    refine ⟨_, rfl, trivial, ?_⟩
    have ec : cmp (a * q - p * b) = (if decide (p * b < a * q) = true then 1 else 0) - (if decide (a * q < p * b) = true then 1 else 0) := by
      generalize a * q = x
      generalize p * b = y
      unfold cmp
      rcases Int.lt_trichotomy x y with z | z | z
      · rw [if_pos (by omega), decide_eq_false (by omega : ¬ y < x), decide_eq_true z]; rfl
      · subst z; simp
      · rw [if_neg (by omega), if_pos (by omega), decide_eq_true z, decide_eq_false (by omega : ¬ x < y)]; rfl
    show (if true = true then _ else _)
    rw [if_pos rfl, ← ec, eqv_int, beq_self_eq_true]
    exact ⟨⟨ok_int _ _, ok_int _ _⟩, h⟩
  have r7 : b_law_two_right_7 (fun _ _ _ => False) { nx := fun _ c' => rt D.non c', rt := rt, rtN := rt } [S.sh (D.tup [D.int a, D.int b]), S.sh (D.tup [D.int p, D.int q]), S.sh (D.int (a * q)), S.sh (D.int (p * b)), S.sh (D.int (b * q)), S.no] c := by
    simp only [b_law_two_right_7, mSeq, mAsg, mVar, mC, mOp, mUn, mNil, mCons, mTup, mLst, mFrz, mTest, mAnd, mOr, mNot, mIf, mAndV, mOrV, mNotV, mCB, mCall0, gN, gsN, gsC, gT, mNext, mRet, mRetN, mIfS, mDrop, mPar, mApp, mFreeze, mSetI, mItL, mItS, mRng1, mRng2, mFor, mIsi, mIsN, mNotN, dI, dI0, dB0, dU, dEq, dNe, dAdd, dIx, mIxO, dLen, dList, dTuple, mCBO, dListO, dMax2, dAbs, dInt1, dGcd, dLcm, mTmpT, mAsgO, mAsgF, mRetF, mSc, mVarO, mSpoil, mSpoilK, ro0, List.map_cons, List.map_nil, List.replicate, List.length_cons, List.length_nil, List.getElem?_cons_zero, List.getElem?_cons_succ, List.set_cons_zero, List.set_cons_succ, List.cons_append, List.nil_append, Nat.reduceAdd, Nat.reduceSub, dSeq_lst, dSeq_tup, mCall, Bool.not_true, Bool.false_eq_true, if_false, at2_0, ok_int, eqv_int, and_self, true_and]
    by_cases z : p = 0
    · subst z
      simp only [beq_self_eq_true, Bool.not_true, Bool.false_eq_true, if_false]
      exact r8
    · have zb : (p == 0) = false := by simpa using z
      simp only [zb, Bool.not_false, if_true]
      refine ⟨a, b, p, q, rfl, F, fun y => (z y).elim, fun _ => ⟨a * q, p * b, by rw [Int.mul_comm p b], Int.mul_ne_zero z hb, smF sp sb, ?_⟩⟩
      simp only [Bool.not_true, Bool.false_eq_true, if_false]
      exact r8
  by_cases z : p = 0
  · subst z
    simp only [beq_self_eq_true, if_true]
    refine ⟨a, b, 0, q, rfl, F, ?_⟩
    simp only [if_true, ok_int, eqv_int, beq_self_eq_true, Bool.not_true, Bool.false_eq_true, if_false, true_and]
    exact r7
  · have zb : (p == 0) = false := by simpa using z
    simp only [zb, Bool.false_eq_true, if_false]
    exact r7
/-! ### the law -/
def lows (ps : List (Int × Int)) : List (Int × Int) := ps.map fun r => lowP r.1 r.2
def accP (s r : Int × Int) : Int × Int := (s.1 * r.2 + s.2 * r.1, s.2 * r.2)
def acc (ps : List (Int × Int)) : Int × Int := ps.foldl accP (0, 1)
def Good (ps : List (Int × Int)) : Prop := ∀ r ∈ ps, Sm 97 r.1 ∧ r.2 ≠ 0 ∧ Sm 97 r.2
theorem acc_sm : ∀ (ps : List (Int × Int)) (s : Int × Int) (k : Nat), Sm k s.1 → Sm k s.2 → s.2 ≠ 0 → Good ps → Sm (k + 98 * ps.length) (ps.foldl accP s).1 ∧ Sm (k + 98 * ps.length) (ps.foldl accP s).2 ∧ (ps.foldl accP s).2 ≠ 0
  | [], s, k, h1, h2, h3, _ => ⟨h1, h2, h3⟩
  | r :: rs, s, k, h1, h2, h3, h => by
    obtain ⟨r1, r2, r3⟩ := h r List.mem_cons_self
    obtain ⟨a1, a2, a3⟩ := acc_sm rs (accP s r) (k + 98) (((h1.mul r3).add (h2.mul r1)).up (by omega)) ((h2.mul r3).up (by omega)) (Int.mul_ne_zero h3 r2) fun q hq => h q (List.mem_cons_of_mem _ hq)
    have e : k + 98 * (r :: rs).length = k + 98 + 98 * rs.length := by rw [List.length_cons]; omega
    rw [e]
    exact ⟨a1, a2, a3⟩
theorem acc_ok {ps : List (Int × Int)} (h : Good ps) (hl : ps.length ≤ 6) : Sm 800 (acc ps).1 ∧ Sm 800 (acc ps).2 ∧ (acc ps).2 ≠ 0 := by
  obtain ⟨a, b, c⟩ := acc_sm ps (0, 1) 1 (by unfold Sm; decide) (by unfold Sm; decide) (by decide) h
  exact ⟨a.up (by omega), b.up (by omega), c⟩
theorem low_step {s r : Int × Int} (hs : s.2 ≠ 0) (hr : r.2 ≠ 0) : addP (lowP s.1 s.2) (lowP r.1 r.2) = lowP (accP s r).1 (accP s r).2 := by
  obtain ⟨a1, a2, a3⟩ := lowP_spec (a := s.1) hs
  obtain ⟨b1, b2, b3⟩ := lowP_spec (a := r.1) hr
  have g0 := (sg_ne (a := s.1) hs).1
  have h0 := (sg_ne (a := r.1) hr).1
  unfold addP accP
  generalize sg s.1 s.2 = g at *
  generalize sg r.1 r.2 = h at *
  generalize lowP s.1 s.2 = x at *
  generalize lowP r.1 r.2 = y at *
  have e1 : s.1 * r.2 + s.2 * r.1 = (g * h) * (x.1 * y.2 + y.1 * x.2) := by
    rw [a1, a2, b1, b2, Int.mul_add]
    have f1 : g * x.1 * (h * y.2) = g * h * (x.1 * y.2) := by rw [Int.mul_assoc, Int.mul_assoc, Int.mul_left_comm x.1 h]
    have f2 : g * x.2 * (h * y.1) = g * h * (y.1 * x.2) := by rw [Int.mul_assoc, Int.mul_assoc, Int.mul_left_comm x.2 h, Int.mul_comm x.2]
    rw [f1, f2]
  have e2 : s.2 * r.2 = (g * h) * (x.2 * y.2) := by
    rw [a2, b2]
    rw [Int.mul_assoc, Int.mul_assoc, Int.mul_left_comm x.2 h]
  rw [e1, e2]
  exact (lowP_mul (Int.mul_ne_zero g0 h0) (Int.mul_ne_zero (by omega) (by omega))).symm
theorem tot_fold : ∀ (ps : List (Int × Int)) (s : Int × Int), s.2 ≠ 0 → Good ps → (lows ps).foldl addP (lowP s.1 s.2) = lowP (ps.foldl accP s).1 (ps.foldl accP s).2
  | [], s, _, _ => rfl
  | r :: ps, s, hs, h => by
    obtain ⟨r1, r2, r3⟩ := h r List.mem_cons_self
    show (lows ps).foldl addP (addP (lowP s.1 s.2) (lowP r.1 r.2)) = _
    rw [low_step hs r2]
    exact tot_fold ps (accP s r) (Int.mul_ne_zero hs r2) fun q hq => h q (List.mem_cons_of_mem _ hq)
theorem tot_acc {ps : List (Int × Int)} (h : Good ps) : totP (lows ps) = lowP (acc ps).1 (acc ps).2 := by
  have := tot_fold ps (0, 1) (by decide) h
  have e : lowP (0 : Int) 1 = (0, 1) := by decide
  show (lows ps).foldl addP (0, 1) = _
  rw [← e]; exact this
theorem rats_lows {ps : List (Int × Int)} (h : Good ps) (hl : ps.length ≤ 6) : Rats (lows ps) := by
  refine ⟨by rw [lows, List.length_map]; exact hl, fun r hr => ?_⟩
  obtain ⟨q, hq, rfl⟩ := List.mem_map.mp hr
  obtain ⟨q1, q2, q3⟩ := h q hq
  obtain ⟨l1, l2⟩ := Sm.low q2 q1 q3
  exact ⟨l1.up (by decide), (lowP_spec q2).2.2, l2.up (by decide)⟩
theorem ok_rats (n : Nat) (rs : List (Int × Int)) : D.ok (n + 2) (.lst (ratsD rs)) = true := by
  rw [ok_lst]
  refine okL_all fun d hd => ?_
  obtain ⟨r, _, rfl⟩ := List.mem_map.mp hd
  simp only [rat, ok_tup, okL_cons, okL_nil, ok_int, Bool.and_self]
/-- behind the loops -/
theorem d_law4 {ps : List (Int × Int)} {s5 s6 s7 s8 s9 : S} {c : Nat} (h : Good ps) (hl : ps.length ≤ 6) : b_law_4 (fun _ _ _ => False) { nx := fun _ _ => False, rt := fun d _ => d = .bl true } [.no, .sh .pool, .own (ratsD (lows ps)), .sh (.int (acc ps).1), .sh (.int (acc ps).2), s5, s6, s7, s8, s9] c := by
  have hR := rats_lows h hl
  obtain ⟨u1, u2, u3⟩ := acc_ok h hl
  have len : (ratsD (lows ps)).length ≤ 6 := by simp [ratsD]; exact hR.1
  simp only [b_law_4, mSeq, mAsg, mVar, mC, mOp, mUn, mNil, mCons, mTup, mLst, mFrz, mTest, mAnd, mOr, mNot, mIf, mAndV, mOrV, mNotV, mCB, mCall0, gN, gsN, gsC, gT, mNext, mRet, mRetN, mIfS, mDrop, mPar, mApp, mFreeze, mSetI, mItL, mItS, mRng1, mRng2, mFor, mIsi, mIsN, mNotN, dI, dI0, dB0, dU, dEq, dNe, dAdd, dIx, mIxO, dLen, dList, dTuple, mCBO, dListO, dMax2, dAbs, dInt1, dGcd, dLcm, mTmpT, mAsgO, mAsgF, mRetF, mSc, mVarO, mSpoil, mSpoilK, ro0, List.map_cons, List.map_nil, List.replicate, List.length_cons, List.length_nil, List.getElem?_cons_zero, List.getElem?_cons_succ, List.set_cons_zero, List.set_cons_succ, List.cons_append, List.nil_append, Nat.reduceAdd, Nat.reduceSub, dSeq_lst, dSeq_tup]
  simp only [b_law_5, mSeq, mAsg, mVar, mC, mOp, mUn, mNil, mCons, mTup, mLst, mFrz, mTest, mAnd, mOr, mNot, mIf, mAndV, mOrV, mNotV, mCB, mCall0, gN, gsN, gsC, gT, mNext, mRet, mRetN, mIfS, mDrop, mPar, mApp, mFreeze, mSetI, mItL, mItS, mRng1, mRng2, mFor, mIsi, mIsN, mNotN, dI, dI0, dB0, dU, dEq, dNe, dAdd, dIx, mIxO, dLen, dList, dTuple, mCBO, dListO, dMax2, dAbs, dInt1, dGcd, dLcm, mTmpT, mAsgO, mAsgF, mRetF, mSc, mVarO, mSpoil, mSpoilK, ro0, List.map_cons, List.map_nil, List.replicate, List.length_cons, List.length_nil, List.getElem?_cons_zero, List.getElem?_cons_succ, List.set_cons_zero, List.set_cons_succ, List.cons_append, List.nil_append, Nat.reduceAdd, Nat.reduceSub, dSeq_lst, dSeq_tup]
  refine ⟨fun _ ρ _ => ∃ s7 s9 : S, ρ = [.no, .sh .pool, .sh (.lst (ratsD (lows ps))), .sh (.int (acc ps).1), .sh (.int (acc ps).2), s5, .sh (.lst (ratsD (lows ps))), s7, s8, s9], ⟨_, _, rfl⟩, ?_, ?_⟩
  · rintro i d ρ c hd ⟨s7, s9, rfl⟩
    obtain ⟨r, hr, rfl⟩ := get_rat hd
    obtain ⟨r1, r2, r3⟩ := hR.2 r (List.mem_of_getElem? hr)
    simp only [b_law_L5, mSeq, mAsg, mVar, mC, mOp, mUn, mNil, mCons, mTup, mLst, mFrz, mTest, mAnd, mOr, mNot, mIf, mAndV, mOrV, mNotV, mCB, mCall0, gN, gsN, gsC, gT, mNext, mRet, mRetN, mIfS, mDrop, mPar, mApp, mFreeze, mSetI, mItL, mItS, mRng1, mRng2, mFor, mIsi, mIsN, mNotN, dI, dI0, dB0, dU, dEq, dNe, dAdd, dIx, mIxO, dLen, dList, dTuple, mCBO, dListO, dMax2, dAbs, dInt1, dGcd, dLcm, mTmpT, mAsgO, mAsgF, mRetF, mSc, mVarO, mSpoil, mSpoilK, ro0, List.map_cons, List.map_nil, List.replicate, List.length_cons, List.length_nil, List.getElem?_cons_zero, List.getElem?_cons_succ, List.set_cons_zero, List.set_cons_succ, List.cons_append, List.nil_append, Nat.reduceAdd, Nat.reduceSub, dSeq_lst, dSeq_tup]
    refine ⟨by decide, by decide, by omega, ?_⟩
    refine ⟨fun _ ρ _ => ∃ s9 : S, ρ = [.no, .sh .pool, .sh (.lst (ratsD (lows ps))), .sh (.int (acc ps).1), .sh (.int (acc ps).2), s5, .sh (.lst (ratsD (lows ps))), .sh (rat r.1 r.2), s8, s9], ⟨_, rfl⟩, ?_, ?_⟩
    · rintro j e ρ c he ⟨s9, rfl⟩
      have he2 : (ratsD (lows ps ++ [(0, 1)]))[j]? = some e := by
        show (((lows ps ++ [(0, 1)]).map fun (r : Int × Int) => rat r.1 r.2))[j]? = some e
        rw [List.map_append]; exact he
      obtain ⟨q, hq, rfl⟩ := get_rat he2
      have hq3 : Sm 100 q.1 ∧ 0 < q.2 ∧ Sm 100 q.2 := by
        rcases List.mem_append.mp (List.mem_of_getElem? hq) with z | z
        · exact hR.2 q z
        · cases List.mem_singleton.mp z; exact ⟨by unfold Sm; decide, by decide, by unfold Sm; decide⟩
      obtain ⟨q1, q2, q3⟩ := hq3
      simp only [mSeq, mAsg, mVar, mC, mOp, mUn, mNil, mCons, mTup, mLst, mFrz, mTest, mAnd, mOr, mNot, mIf, mAndV, mOrV, mNotV, mCB, mCall0, gN, gsN, gsC, gT, mNext, mRet, mRetN, mIfS, mDrop, mPar, mApp, mFreeze, mSetI, mItL, mItS, mRng1, mRng2, mFor, mIsi, mIsN, mNotN, dI, dI0, dB0, dU, dEq, dNe, dAdd, dIx, mIxO, dLen, dList, dTuple, mCBO, dListO, dMax2, dAbs, dInt1, dGcd, dLcm, mTmpT, mAsgO, mAsgF, mRetF, mSc, mVarO, mSpoil, mSpoilK, ro0, List.map_cons, List.map_nil, List.replicate, List.length_cons, List.length_nil, List.getElem?_cons_zero, List.getElem?_cons_succ, List.set_cons_zero, List.set_cons_succ, List.cons_append, List.nil_append, Nat.reduceAdd, Nat.reduceSub, dSeq_lst, dSeq_tup]
      refine ⟨_, _, _, _, rfl, ⟨r1.up (by decide), r3.up (by decide), q1.up (by decide), q3.up (by decide), by omega, by omega⟩, r2, q2, ?_⟩
      simp only [Bool.not_true, Bool.false_eq_true, if_false]
      exact ⟨_, rfl⟩
    · rintro ρ c ⟨s9, rfl⟩
      exact ⟨_, _, rfl⟩
  · rintro ρ c ⟨s7, s9, rfl⟩
    have et := tot_acc h
    have o1 : D.ok 60 (rat (totP (lows ps)).1 (totP (lows ps)).2) = true := by simp only [rat, ok_tup, okL_cons, okL_nil, ok_int, Bool.and_self]
    simp only [b_law_6, mSeq, mAsg, mVar, mC, mOp, mUn, mNil, mCons, mTup, mLst, mFrz, mTest, mAnd, mOr, mNot, mIf, mAndV, mOrV, mNotV, mCB, mCall0, gN, gsN, gsC, gT, mNext, mRet, mRetN, mIfS, mDrop, mPar, mApp, mFreeze, mSetI, mItL, mItS, mRng1, mRng2, mFor, mIsi, mIsN, mNotN, dI, dI0, dB0, dU, dEq, dNe, dAdd, dIx, mIxO, dLen, dList, dTuple, mCBO, dListO, dMax2, dAbs, dInt1, dGcd, dLcm, mTmpT, mAsgO, mAsgF, mRetF, mSc, mVarO, mSpoil, mSpoilK, ro0, List.map_cons, List.map_nil, List.replicate, List.length_cons, List.length_nil, List.getElem?_cons_zero, List.getElem?_cons_succ, List.set_cons_zero, List.set_cons_succ, List.cons_append, List.nil_append, Nat.reduceAdd, Nat.reduceSub, dSeq_lst, dSeq_tup]
    refine ⟨lows ps, .inl rfl, hR, (acc ps).1, (acc ps).2, by rw [et]; rfl, u3, u2.up (by decide), ?_⟩
    simp only [Bool.not_true, Bool.false_eq_true, if_false, mSeq, mAsg, mVar, mC, mOp, mUn, mNil, mCons, mTup, mLst, mFrz, mTest, mAnd, mOr, mNot, mIf, mAndV, mOrV, mNotV, mCB, mCall0, gN, gsN, gsC, gT, mNext, mRet, mRetN, mIfS, mDrop, mPar, mApp, mFreeze, mSetI, mItL, mItS, mRng1, mRng2, mFor, mIsi, mIsN, mNotN, dI, dI0, dB0, dU, dEq, dNe, dAdd, dIx, mIxO, dLen, dList, dTuple, mCBO, dListO, dMax2, dAbs, dInt1, dGcd, dLcm, mTmpT, mAsgO, mAsgF, mRetF, mSc, mVarO, mSpoil, mSpoilK, ro0, List.map_cons, List.map_nil, List.replicate, List.length_cons, List.length_nil, List.getElem?_cons_zero, List.getElem?_cons_succ, List.set_cons_zero, List.set_cons_succ, List.cons_append, List.nil_append, Nat.reduceAdd, Nat.reduceSub, dSeq_lst, dSeq_tup]
    refine ⟨lows ps, .inr rfl, hR, lows ps, .inl rfl, hR, ⟨o1, o1⟩, ?_⟩
    rw [eqv_refl 60 _ o1]
    simp only [Bool.not_true, Bool.false_eq_true, if_false, b_law_7, mSeq, mAsg, mVar, mC, mOp, mUn, mNil, mCons, mTup, mLst, mFrz, mTest, mAnd, mOr, mNot, mIf, mAndV, mOrV, mNotV, mCB, mCall0, gN, gsN, gsC, gT, mNext, mRet, mRetN, mIfS, mDrop, mPar, mApp, mFreeze, mSetI, mItL, mItS, mRng1, mRng2, mFor, mIsi, mIsN, mNotN, dI, dI0, dB0, dU, dEq, dNe, dAdd, dIx, mIxO, dLen, dList, dTuple, mCBO, dListO, dMax2, dAbs, dInt1, dGcd, dLcm, mTmpT, mAsgO, mAsgF, mRetF, mSc, mVarO, mSpoil, mSpoilK, ro0, List.map_cons, List.map_nil, List.replicate, List.length_cons, List.length_nil, List.getElem?_cons_zero, List.getElem?_cons_succ, List.set_cons_zero, List.set_cons_succ, List.cons_append, List.nil_append, Nat.reduceAdd, Nat.reduceSub, dSeq_lst, dSeq_tup]
    refine ⟨⟨ok_rats _ _, ok_rats _ _⟩, ?_⟩
    rw [eqv_refl 60 _ (ok_rats 58 _)]
    simp only [if_true]
    have o2 : D.ok 60 (.tup [.int 0, .int 1]) = true := by simp only [ok_tup, okL_cons, okL_nil, ok_int, Bool.and_self]
    refine ⟨by decide, [], .inl rfl, ⟨by decide, fun _ z => (nomatch z)⟩, by decide, ⟨o2, o2⟩, ?_⟩
    show D.bl (D.eqv (D.tup [D.int 0, D.int 1]) (D.tup [D.int 0, D.int 1])) = _
    rw [eqv_refl 60 _ o2]
theorem d_body {ps : List (Int × Int)} {i : Nat} {s6 s7 s8 s9 : S} {c : Nat} {E : DEnds} (h : Good ps) (hl : ps.length = i) (hi : i < 6) (hc : c ≤ 1 + 4 * i)
    (hn : ∀ (r : Int × Int) (s7 s8 : S) (c' : Nat), Good (ps ++ [r]) → c' ≤ c + 4 → E.nx [.no, .sh .pool, .own (ratsD (lows (ps ++ [r]))), .sh (.int (acc (ps ++ [r])).1), .sh (.int (acc (ps ++ [r])).2), .sh (.int (0 + (i : Nat))), s6, s7, s8, s9] c') :
    b_law_L3 (fun _ _ _ => False) E [.no, .sh .pool, .own (ratsD (lows ps)), .sh (.int (acc ps).1), .sh (.int (acc ps).2), .sh (.int (0 + (i : Nat))), s6, s7, s8, s9] c := by
  obtain ⟨u1, u2, u3⟩ := acc_ok h (by omega)
  simp only [b_law_L3, mSeq, mAsg, mVar, mC, mOp, mUn, mNil, mCons, mTup, mLst, mFrz, mTest, mAnd, mOr, mNot, mIf, mAndV, mOrV, mNotV, mCB, mCall0, gN, gsN, gsC, gT, mNext, mRet, mRetN, mIfS, mDrop, mPar, mApp, mFreeze, mSetI, mItL, mItS, mRng1, mRng2, mFor, mIsi, mIsN, mNotN, dI, dI0, dB0, dU, dEq, dNe, dAdd, dIx, mIxO, dLen, dList, dTuple, mCBO, dListO, dMax2, dAbs, dInt1, dGcd, dLcm, mTmpT, mAsgO, mAsgF, mRetF, mSc, mVarO, mSpoil, mSpoilK, ro0, List.map_cons, List.map_nil, List.replicate, List.length_cons, List.length_nil, List.getElem?_cons_zero, List.getElem?_cons_succ, List.set_cons_zero, List.set_cons_succ, List.cons_append, List.nil_append, Nat.reduceAdd, Nat.reduceSub, dSeq_lst, dSeq_tup]
  refine ⟨rfl, by omega, fun k1 hk1 => ⟨rfl, by omega, fun k2 hk2 => ⟨by decide, ?_⟩⟩⟩
  have cont : ∀ k2 : Int, k2 ≠ 0 → Sm 97 k2 → b_law_L3_2 (fun _ _ _ => False) E [.no, .sh .pool, .own (ratsD (lows ps)), .sh (.int (acc ps).1), .sh (.int (acc ps).2), .sh (.int (0 + (i : Nat))), s6, s7, .own [.int k1, .int k2], s9] (c + 2 + 2) := fun k2 hn0 hk2 => by
    have big : Sm 8000 k2 := hk2.up (by decide)
    simp only [b_law_L3_2, mSeq, mAsg, mVar, mC, mOp, mUn, mNil, mCons, mTup, mLst, mFrz, mTest, mAnd, mOr, mNot, mIf, mAndV, mOrV, mNotV, mCB, mCall0, gN, gsN, gsC, gT, mNext, mRet, mRetN, mIfS, mDrop, mPar, mApp, mFreeze, mSetI, mItL, mItS, mRng1, mRng2, mFor, mIsi, mIsN, mNotN, dI, dI0, dB0, dU, dEq, dNe, dAdd, dIx, mIxO, dLen, dList, dTuple, mCBO, dListO, dMax2, dAbs, dInt1, dGcd, dLcm, mTmpT, mAsgO, mAsgF, mRetF, mSc, mVarO, mSpoil, mSpoilK, ro0, List.map_cons, List.map_nil, List.replicate, List.length_cons, List.length_nil, List.getElem?_cons_zero, List.getElem?_cons_succ, List.set_cons_zero, List.set_cons_succ, List.cons_append, List.nil_append, Nat.reduceAdd, Nat.reduceSub, dSeq_lst, dSeq_tup, at2_0, at2_1, mCall]
    refine ⟨k1, k2, rfl, big, fun z => (hn0 z).elim, fun _ => ?_⟩
    simp only [b_law_L3_3, mSeq, mAsg, mVar, mC, mOp, mUn, mNil, mCons, mTup, mLst, mFrz, mTest, mAnd, mOr, mNot, mIf, mAndV, mOrV, mNotV, mCB, mCall0, gN, gsN, gsC, gT, mNext, mRet, mRetN, mIfS, mDrop, mPar, mApp, mFreeze, mSetI, mItL, mItS, mRng1, mRng2, mFor, mIsi, mIsN, mNotN, dI, dI0, dB0, dU, dEq, dNe, dAdd, dIx, mIxO, dLen, dList, dTuple, mCBO, dListO, dMax2, dAbs, dInt1, dGcd, dLcm, mTmpT, mAsgO, mAsgF, mRetF, mSc, mVarO, mSpoil, mSpoilK, ro0, List.map_cons, List.map_nil, List.replicate, List.length_cons, List.length_nil, List.getElem?_cons_zero, List.getElem?_cons_succ, List.set_cons_zero, List.set_cons_succ, List.cons_append, List.nil_append, Nat.reduceAdd, Nat.reduceSub, dSeq_lst, dSeq_tup, at2_0, at2_1, mCallD]
    refine ⟨k1, k2, rfl, hn0, big, ?_⟩
    simp only [Bool.not_true, Bool.false_eq_true, if_false]
    refine ⟨k1, 1, rfl, by unfold Sm; decide, fun z => (nomatch z), fun _ => ⟨k1, 1, rfl, by decide, by unfold Sm; decide, ?_⟩⟩
    simp only [b_law_L3_4, mSeq, mAsg, mVar, mC, mOp, mUn, mNil, mCons, mTup, mLst, mFrz, mTest, mAnd, mOr, mNot, mIf, mAndV, mOrV, mNotV, mCB, mCall0, gN, gsN, gsC, gT, mNext, mRet, mRetN, mIfS, mDrop, mPar, mApp, mFreeze, mSetI, mItL, mItS, mRng1, mRng2, mFor, mIsi, mIsN, mNotN, dI, dI0, dB0, dU, dEq, dNe, dAdd, dIx, mIxO, dLen, dList, dTuple, mCBO, dListO, dMax2, dAbs, dInt1, dGcd, dLcm, mTmpT, mAsgO, mAsgF, mRetF, mSc, mVarO, mSpoil, mSpoilK, ro0, List.map_cons, List.map_nil, List.replicate, List.length_cons, List.length_nil, List.getElem?_cons_zero, List.getElem?_cons_succ, List.set_cons_zero, List.set_cons_succ, List.cons_append, List.nil_append, Nat.reduceAdd, Nat.reduceSub, dSeq_lst, dSeq_tup, at2_0, at2_1, mCallB, Bool.not_true, Bool.false_eq_true, if_false]
    have o1 : D.ok 60 (low k1 k2) = true := by simp only [low, rat, ok_tup, okL_cons, okL_nil, ok_int, Bool.and_self]
    refine ⟨k1, k2, rfl, big, fun z => (hn0 z).elim, fun _ => ⟨⟨o1, o1⟩, ?_⟩⟩
    rw [eqv_refl 60 _ o1]
    simp only [Bool.not_true, Bool.false_eq_true, if_false]
    refine ⟨_, rfl, ?_⟩
    simp only [b_law_L3_5, b_law_L3_6, b_law_L3_7, mSeq, mAsg, mVar, mC, mOp, mUn, mNil, mCons, mTup, mLst, mFrz, mTest, mAnd, mOr, mNot, mIf, mAndV, mOrV, mNotV, mCB, mCall0, gN, gsN, gsC, gT, mNext, mRet, mRetN, mIfS, mDrop, mPar, mApp, mFreeze, mSetI, mItL, mItS, mRng1, mRng2, mFor, mIsi, mIsN, mNotN, dI, dI0, dB0, dU, dEq, dNe, dAdd, dIx, mIxO, dLen, dList, dTuple, mCBO, dListO, dMax2, dAbs, dInt1, dGcd, dLcm, mTmpT, mAsgO, mAsgF, mRetF, mSc, mVarO, mSpoil, mSpoilK, ro0, List.map_cons, List.map_nil, List.replicate, List.length_cons, List.length_nil, List.getElem?_cons_zero, List.getElem?_cons_succ, List.set_cons_zero, List.set_cons_succ, List.cons_append, List.nil_append, Nat.reduceAdd, Nat.reduceSub, dSeq_lst, dSeq_tup, at2_0, at2_1, Bool.not_true, Bool.false_eq_true, if_false]
    have hg : Good (ps ++ [(k1, k2)]) := fun r hr => (List.mem_append.mp hr).elim (h r) fun z => by
      cases List.mem_singleton.mp z; exact ⟨hk1, hn0, hk2⟩
    have e1 : lows (ps ++ [(k1, k2)]) = lows ps ++ [lowP k1 k2] := by unfold lows; rw [List.map_append]; rfl
    have e2 : acc (ps ++ [(k1, k2)]) = accP (acc ps) (k1, k2) := by unfold acc; rw [List.foldl_append]; rfl
    have e3 : ratsD (lows ps ++ [lowP k1 k2]) = ratsD (lows ps) ++ [low k1 k2] := by unfold ratsD; rw [List.map_append]; rfl
    have fin := hn (k1, k2) (.sh (low k1 k2)) (.own [.int k1, .int k2]) (c + 2 + 2) hg (by omega)
    rw [e1, e2, e3] at fin
    have l6 : (ratsD (lows ps)).length < 1000000 := by unfold ratsD lows; rw [List.length_map, List.length_map]; omega
    have cm : ∀ {x y : Int}, Sm 800 x → Sm 97 y → CMulW x y := fun hx hy => mulw hx hy (by decide) (by decide) (by decide)
    exact ⟨l6, cm u1 hk2, cm u2 hk1, cm u2 hk2, fin⟩
  simp only [b_law_L3_1, mSeq, mAsg, mVar, mC, mOp, mUn, mNil, mCons, mTup, mLst, mFrz, mTest, mAnd, mOr, mNot, mIf, mAndV, mOrV, mNotV, mCB, mCall0, gN, gsN, gsC, gT, mNext, mRet, mRetN, mIfS, mDrop, mPar, mApp, mFreeze, mSetI, mItL, mItS, mRng1, mRng2, mFor, mIsi, mIsN, mNotN, dI, dI0, dB0, dU, dEq, dNe, dAdd, dIx, mIxO, dLen, dList, dTuple, mCBO, dListO, dMax2, dAbs, dInt1, dGcd, dLcm, mTmpT, mAsgO, mAsgF, mRetF, mSc, mVarO, mSpoil, mSpoilK, ro0, List.map_cons, List.map_nil, List.replicate, List.length_cons, List.length_nil, List.getElem?_cons_zero, List.getElem?_cons_succ, List.set_cons_zero, List.set_cons_succ, List.cons_append, List.nil_append, Nat.reduceAdd, Nat.reduceSub, dSeq_lst, dSeq_tup, at2_1, ok_int, eqv_int, true_and]
  by_cases z : k2 = 0
  · subst z
    simp only [beq_self_eq_true, if_true]
    refine ⟨1, rfl, ?_⟩
    simp only [mSeq, mAsg, mVar, mC, mOp, mUn, mNil, mCons, mTup, mLst, mFrz, mTest, mAnd, mOr, mNot, mIf, mAndV, mOrV, mNotV, mCB, mCall0, gN, gsN, gsC, gT, mNext, mRet, mRetN, mIfS, mDrop, mPar, mApp, mFreeze, mSetI, mItL, mItS, mRng1, mRng2, mFor, mIsi, mIsN, mNotN, dI, dI0, dB0, dU, dEq, dNe, dAdd, dIx, mIxO, dLen, dList, dTuple, mCBO, dListO, dMax2, dAbs, dInt1, dGcd, dLcm, mTmpT, mAsgO, mAsgF, mRetF, mSc, mVarO, mSpoil, mSpoilK, ro0, List.map_cons, List.map_nil, List.replicate, List.length_cons, List.length_nil, List.getElem?_cons_zero, List.getElem?_cons_succ, List.set_cons_zero, List.set_cons_succ, List.cons_append, List.nil_append, Nat.reduceAdd, Nat.reduceSub, dSeq_lst, dSeq_tup]
    exact cont _ (by omega) (by unfold Sm; omega)
  · have zb : (k2 == 0) = false := by simpa using z
    simp only [zb, Bool.false_eq_true, if_false]
    exact cont k2 z hk2
theorem d_law : b_law (fun _ _ _ => False) { nx := fun _ _ => False, rt := fun d _ => d = .bl true } (.no :: .sh .pool :: List.replicate 8 .no) 0 := by
  simp only [b_law, b_law_1, b_law_2, mSeq, mAsg, mVar, mC, mOp, mUn, mNil, mCons, mTup, mLst, mFrz, mTest, mAnd, mOr, mNot, mIf, mAndV, mOrV, mNotV, mCB, mCall0, gN, gsN, gsC, gT, mNext, mRet, mRetN, mIfS, mDrop, mPar, mApp, mFreeze, mSetI, mItL, mItS, mRng1, mRng2, mFor, mIsi, mIsN, mNotN, dI, dI0, dB0, dU, dEq, dNe, dAdd, dIx, mIxO, dLen, dList, dTuple, mCBO, dListO, dMax2, dAbs, dInt1, dGcd, dLcm, mTmpT, mAsgO, mAsgF, mRetF, mSc, mVarO, mSpoil, mSpoilK, ro0, List.map_cons, List.map_nil, List.replicate, List.length_cons, List.length_nil, List.getElem?_cons_zero, List.getElem?_cons_succ, List.set_cons_zero, List.set_cons_succ, List.cons_append, List.nil_append, Nat.reduceAdd, Nat.reduceSub, dSeq_lst, dSeq_tup]
  simp only [b_law_3, mSeq, mAsg, mVar, mC, mOp, mUn, mNil, mCons, mTup, mLst, mFrz, mTest, mAnd, mOr, mNot, mIf, mAndV, mOrV, mNotV, mCB, mCall0, gN, gsN, gsC, gT, mNext, mRet, mRetN, mIfS, mDrop, mPar, mApp, mFreeze, mSetI, mItL, mItS, mRng1, mRng2, mFor, mIsi, mIsN, mNotN, dI, dI0, dB0, dU, dEq, dNe, dAdd, dIx, mIxO, dLen, dList, dTuple, mCBO, dListO, dMax2, dAbs, dInt1, dGcd, dLcm, mTmpT, mAsgO, mAsgF, mRetF, mSc, mVarO, mSpoil, mSpoilK, ro0, List.map_cons, List.map_nil, List.replicate, List.length_cons, List.length_nil, List.getElem?_cons_zero, List.getElem?_cons_succ, List.set_cons_zero, List.set_cons_succ, List.cons_append, List.nil_append, Nat.reduceAdd, Nat.reduceSub, dSeq_lst, dSeq_tup]
  refine ⟨by decide, 6, rfl, by decide, take_lg (by unfold Sm; decide), by decide, fun k h0 h6 => ?_⟩
  refine ⟨⟨by omega, by omega⟩, ?_⟩
  have len : (rng 0 (1 + k).toNat).length = (1 + k).toNat := by simp [rng]
  refine ⟨fun i ρ c => ∃ (ps : List (Int × Int)) (s5 s6 s7 s8 s9 : S), ps.length = i ∧ Good ps ∧ c ≤ 1 + 4 * i ∧ ρ = [.no, .sh .pool, .own (ratsD (lows ps)), .sh (.int (acc ps).1), .sh (.int (acc ps).2), s5, s6, s7, s8, s9], ⟨[], _, _, _, _, _, rfl, fun _ z => (nomatch z), by decide, rfl⟩, ?_, ?_⟩
  · rintro i d ρ c hd ⟨ps, s5, s6, s7, s8, s9, hl, hg, hc, rfl⟩
    have hi : i < (1 + k).toNat := by rw [← len]; exact (List.getElem?_eq_some_iff.mp hd).1
    have ed : d = .int (0 + (i : Nat)) := by
      unfold rng at hd
      rw [List.getElem?_map, List.getElem?_range hi] at hd
      exact (Option.some.inj hd).symm
    subst ed
    simp only [mSeq, mAsg, mVar, mC, mOp, mUn, mNil, mCons, mTup, mLst, mFrz, mTest, mAnd, mOr, mNot, mIf, mAndV, mOrV, mNotV, mCB, mCall0, gN, gsN, gsC, gT, mNext, mRet, mRetN, mIfS, mDrop, mPar, mApp, mFreeze, mSetI, mItL, mItS, mRng1, mRng2, mFor, mIsi, mIsN, mNotN, dI, dI0, dB0, dU, dEq, dNe, dAdd, dIx, mIxO, dLen, dList, dTuple, mCBO, dListO, dMax2, dAbs, dInt1, dGcd, dLcm, mTmpT, mAsgO, mAsgF, mRetF, mSc, mVarO, mSpoil, mSpoilK, ro0, List.map_cons, List.map_nil, List.replicate, List.length_cons, List.length_nil, List.getElem?_cons_zero, List.getElem?_cons_succ, List.set_cons_zero, List.set_cons_succ, List.cons_append, List.nil_append, Nat.reduceAdd, Nat.reduceSub, dSeq_lst, dSeq_tup]
    exact d_body hg hl (by omega) hc fun r s7 s8 c' hg' hc' => ⟨_, _, _, _, _, _, by rw [List.length_append, hl]; rfl, hg', by omega, rfl⟩
  · rintro ρ c ⟨ps, s5, s6, s7, s8, s9, hl, hg, hc, rfl⟩
    exact d_law4 hg (by rw [hl, len]; omega)
section
variable {P : Program} {w : World} {K : PySem.W.Frag} {mg : Str → Option Value} {base : Heap}
theorem ok_law_pool {f : Addr} {fd : FuncData} (F : Fun K "_law_pool" "_law_pool" s_law_pool f fd) (hm : mg "_law_pool" = some (.ref f)) (hb : Binds K fd ["_law_script"] []) (g_list : mg "list" = none) :
    OkS (spPool K) P w K mg base 1 "_law_pool" ["_law_script"] := by
  refine ⟨f, fd, hm, F.kp, hb, F.ok sc_law_pool (fun vs H Q E h => ?_) (fun cdv A outer s H vs Q E hr h => ?_)⟩
  · obtain ⟨a, ns, rfl, _⟩ := h
    rfl
  · obtain ⟨a, ns, rfl, hS, k⟩ := h
    refine ⟨_, (pss_one (ps_ret (pe_lst (pa_cons pe_int (pa_cons pe_int (pa_cons (pe_callTy call_list_of (by rfl) g_list (by decide +kernel) (pa_cons (pv 0) pa_nil)) pa_nil)))))), ?_⟩
    refine ⟨_, rfl, _, _, rfl, .inl hS, fun l hl => ⟨by show 3 ≤ sizeLine; decide, fun p hp => ?_⟩⟩
    have hlp : l ≠ p := fun z => by
      subst z
      rw [upd_same] at hp
      cases hp
    exact k p l _ hlp upd_same (by rw [upd_ne hlp]; exact upd_same)
theorem ok_law_take {f : Addr} {fd : FuncData} (F : Fun K "_law_take" "_law_take" s_law_take f fd) (hm : mg "_law_take" = some (.ref f)) (hb : Binds K fd ["_law_pool_here", "_law_many"] []) (g_int : mg "int" = none) (g_max : mg "max" = none) (g_len : mg "len" = none) :
    Ok0 P w K mg base 1 "_law_take" ["_law_pool_here", "_law_many"] fTake := by
  refine ⟨f, fd, hm, F.kp, hb, F.ok sc_law_take (fun vs H Q E h => ?_) (fun cdv A outer s H vs Q E hr h => ?_)⟩
  · obtain ⟨p, G, c, ds, xe, rt, wd, r, ⟨n, rfl, _⟩, _⟩ := h
    exact r.len
  · obtain ⟨p, G, c, ds, xe, rt, wd, r, ⟨n, rfl, hn, hlog, hc, hk⟩, k1, k2⟩ := h
    obtain ⟨v, u, rfl, r1, r2⟩ := r.two
    cases r1; cases r2
    obtain ⟨t, rs, cs, ns, q1, q2, q3, q4, q5⟩ := wd.pl
    have hcs : H cs = some (.lst (ns.map V.int)) := wd.sub _ _ q2
    have ncs : cs ≠ p := fun z => by subst z; rw [wd.gp] at q2; cases q2
    -- every way out: a number below many, the pool as it may stand
    have fin : ∀ (k t' r' : Int) (H' : Hp), 0 ≤ k → k < n → 0 ≤ t' → t' ≤ ((c + 1 : Nat) : Int) → H' p = some (.lst [.int t', .int r', .ref cs]) → (∀ a o, a ≠ p → H a = some o → H' a = some o) → Q (.int k) H' := fun k t' r' H' a1 a2 a3 a4 a5 a6 => by
      refine k1 (.int k) (c + 1) (.int k) G H' (hk k a1 a2) ⟨Ex.refl _, fun _ _ z => .inl z, a6, fun xs z => ?_⟩ ⟨fun a o z => a6 a o (fun y => by subst y; rw [wd.gp] at z; cases z) (wd.sub a o z), wd.gp, ?_⟩ (.int k)
      · rw [q1] at z; cases z; exact ⟨_, a5, rfl⟩
      · exact ⟨t', r', cs, ns, a5, q2, q3, a3, a4⟩
    have md : ∀ x : Int, 0 ≤ x.fmod n ∧ x.fmod n < n := fun x => by
      rw [Int.fmod_eq_emod_of_nonneg _ (Int.le_of_lt hn)]
      exact ⟨Int.emod_nonneg _ (by omega), Int.emod_lt_of_pos _ hn⟩
    have ix0 : ∀ z0 z1 z2 : V, atI [z0, z1, z2] 0 = some z0 := fun _ _ _ => rfl
    have ix1 : ∀ z0 z1 z2 : V, atI [z0, z1, z2] 1 = some z1 := fun _ _ _ => rfl
    have ix2 : ∀ z0 z1 z2 : V, atI [z0, z1, z2] 2 = some z2 := fun _ _ _ => rfl
    have lg : ∀ k : Int, 0 ≤ k → k < 1000000000000 → k.natAbs.log2 < 60 := fun k h0 h1 => by
      by_cases z : k.natAbs = 0
      · rw [z]; decide
      · exact (Nat.log2_lt z).mpr (by omega)
    refine ⟨_, (pss_cons (ps_if (pt_cmpR (op_eqD hr.units) (pe_ix ix_seq (pv 0) pe_int (fun _ _ => rfl)) pe_int (nomark _)) (pss_cons (ps_set (i := 3) sc_law_take.nd rfl (by first | exact Or.inl rfl | exact Or.inr rfl) (pe_ix ix_seq (pv 0) pe_int (fun _ _ => rfl)))
      (pss_cons (ps_asg (pe_op op_addG (pv 3) pe_int) (pg_sub (pv 0) pe_int set_list))
      (pss_cons (ps_set (i := 4) sc_law_take.nd rfl (by first | exact Or.inl rfl | exact Or.inr rfl) (pe_ix ix_seq (pe_op op_addG (pe_ix ix_seq (pv 0) pe_int (fun _ _ => rfl)) (pe_lst (pa_cons pe_int pa_nil))) (pe_op op_modN (pe_callTy call_int1 (by rfl) g_int (by decide +kernel) (pa_cons (pv 3) pa_nil)) (pe_callB (call_max2 rfl) (by rfl) g_max (by decide +kernel) (pa_cons pe_int (pa_cons (pe_callB call_len (by rfl) g_len PySem.boot_len (pa_cons (pe_ix ix_seq (pv 0) pe_int (fun _ _ => rfl)) pa_nil)) pa_nil)))) (fun _ _ => rfl)))
      (pss_cons (ps_set (i := 5) sc_law_take.nd rfl (by first | exact Or.inl rfl | exact Or.inr rfl) (pe_op op_modN (pe_op op_pow (pe_op op_addG (pe_op op_addG (pe_op op_modN (pe_callTy call_int1 (by rfl) g_int (by decide +kernel) (pa_cons (pv 4) pa_nil)) pe_int) (pe_op op_mulW pe_int (pv 3))) pe_int) pe_int) pe_int))
      (pss_cons (ps_set (i := 5) sc_law_take.nd rfl (by first | exact Or.inl rfl | exact Or.inr rfl) (pe_op op_modN (pe_op op_pow (pe_op op_addG (pe_op op_addG (pv 5) (pe_op op_mulW pe_int (pv 3))) pe_int) pe_int) pe_int))
      (pss_cons (ps_if (pt_cmpR op_lt (pv 4) (pe_op op_pow pe_int pe_int) (nomark _)) (pss_one (ps_ret (pe_op op_modN (pe_op op_fdivG (pv 5) pe_int) (pv 1)))) pss_nil)
      (pss_one (ps_asg (pv 4) (pg_sub (pv 0) pe_int set_list))))))))) pss_nil)
      (pss_cons (ps_set (i := 2) sc_law_take.nd rfl (by first | exact Or.inl rfl | exact Or.inr rfl) (pe_op op_modN (pe_callTy call_int1 (by rfl) g_int (by decide +kernel) (pa_cons (pe_ix ix_seq (pv 0) pe_int (fun _ _ => rfl)) pa_nil)) (pv 1)))
      (pss_cons (ps_asg (pe_op op_fdivG (pe_ix ix_seq (pv 0) pe_int (fun _ _ => rfl)) (pv 1)) (pg_sub (pv 0) pe_int set_list))
      (pss_one (ps_ret (pv 2)))))), ?_⟩
    -- the draw out of what is left of a great number
    have rest : ∀ (t' r' : Int) (H' : Hp) (o3 o4 o5 : Option V), 0 ≤ t' → t' ≤ ((c + 1 : Nat) : Int) → H' p = some (.lst [.int t', .int r', .ref cs]) → (∀ a o, a ≠ p → H a = some o → H' a = some o) →
        (tSeq (tAsg (tOp (rI (fun _ j => j ≠ 0) fun i j => .int (i.fmod j)) (tCB (fun xs H Q => (∃ i, xs = [.int i] ∧ Q (.int i) H) ∨ ∃ k, xs = [.bl k] ∧ Q (.int (if k then 1 else 0)) H) (tCons (tOp (rIx K) (tVar 0) (tC (.int 1))) tNil)) (tVar 1)) (gName 2))
          (tSeq (tAsg (tOp (rI CDivG fun i j => .int (i.fdiv j)) (tOp (rIx K) (tVar 0) (tC (.int 1))) (tVar 1)) (gSub (tVar 0) (tC (.int 1)) rSetL)) (tRet (tVar 2))))
          { nx := fun _ H' => Q .non H', rt := Q } [some (.ref p), some (.int n), none, o3, o4, o5] H' := fun t' r' H' o3 o4 o5 a3 a4 a5 a6 => by
      refine ⟨_, rfl, .inl ⟨p, _, _, _, rfl, rfl, SqL.of a5, ix1 _ _ _, .inl ⟨_, rfl, ⟨_, rfl, _, _, rfl, rfl, by omega, ?_⟩⟩⟩⟩
      refine ⟨_, rfl, .inl ⟨p, _, _, _, rfl, rfl, SqL.of a5, ix1 _ _ _, ⟨_, rfl, _, _, rfl, rfl, ⟨by omega, hlog⟩, ⟨_, rfl, p, _, _, 1, rfl, rfl, a5, rfl, ⟨_, rfl, ?_⟩⟩⟩⟩⟩
      exact fin _ t' _ _ (md r').1 (md r').2 a3 a4 upd_same fun a o z y => by rw [upd_ne z]; exact a6 a o z y
    refine ⟨_, rfl, .inl ⟨p, _, _, _, rfl, rfl, SqL.of q1, ix1 _ _ _, ⟨_, _, Dp.int _, Dp.int _, rfl, rfl, _, rfl, ?_⟩⟩⟩
    refine ite2 (fun _ => ?_) (fun _ => ?_)
    · refine ⟨_, rfl, .inl ⟨p, _, _, _, rfl, rfl, SqL.of q1, ix0 _ _ _, ?_⟩⟩
      refine ⟨_, rfl, .inl ⟨_, _, rfl, rfl, ⟨_, rfl, p, _, _, 0, rfl, rfl, q1, rfl, ?_⟩⟩⟩
      have p1 : upd H p (.lst [.int (t + 1), .int rs, .ref cs]) p = some (.lst [.int (t + 1), .int rs, .ref cs]) := upd_same
      have c1 : upd H p (.lst [.int (t + 1), .int rs, .ref cs]) cs = some (.lst (ns.map V.int)) := by rw [upd_ne ncs]; exact hcs
      -- cell
      refine ⟨_, rfl, .inl ⟨p, _, _, _, rfl, rfl, SqL.of p1, ix2 _ _ _, ⟨by show 1 ≤ sizeLine; decide, fun l1 hl1 => .inr (.inr ⟨cs, l1, ns.map V.int, [.int 0], rfl, rfl, ?_, upd_same, ?_, fun l2 hl2 => ?_⟩)⟩⟩⟩
      · rw [upd_ne (ne_of_none c1 hl1)]; exact c1
      · show (ns.map V.int).length + 1 ≤ sizeLine
        rw [List.length_map]
        exact Nat.le_trans (by omega : ns.length + 1 ≤ 1000000) Grow.sz
      have np1 : p ≠ l1 := ne_of_none p1 hl1
      have nc1 : cs ≠ l1 := ne_of_none c1 hl1
      have p2 : upd (upd H p (.lst [.int (t + 1), .int rs, .ref cs])) l1 (.lst [.int 0]) p = some (.lst [.int (t + 1), .int rs, .ref cs]) := by rw [upd_ne np1]; exact p1
      have c2 : upd (upd H p (.lst [.int (t + 1), .int rs, .ref cs])) l1 (.lst [.int 0]) cs = some (.lst (ns.map V.int)) := by rw [upd_ne nc1]; exact c1
      have np2 : p ≠ l2 := ne_of_none p2 hl2
      have nc2 : cs ≠ l2 := ne_of_none c2 hl2
      have keep : ∀ a o, a ≠ p → H a = some o → upd (upd (upd H p (.lst [.int (t + 1), .int rs, .ref cs])) l1 (.lst [.int 0])) l2 (.lst (ns.map V.int ++ [.int 0])) a = some o := fun a o z y => by
        have y1 : upd H p (.lst [.int (t + 1), .int rs, .ref cs]) a = some o := by rw [upd_ne z]; exact y
        have y2 : upd (upd H p (.lst [.int (t + 1), .int rs, .ref cs])) l1 (.lst [.int 0]) a = some o := by rw [upd_ne (ne_of_none y1 hl1)]; exact y1
        rw [upd_ne (ne_of_none y2 hl2)]; exact y2
      have p3 : upd (upd (upd H p (.lst [.int (t + 1), .int rs, .ref cs])) l1 (.lst [.int 0])) l2 (.lst (ns.map V.int ++ [.int 0])) p = some (.lst [.int (t + 1), .int rs, .ref cs]) := by rw [upd_ne np2]; exact p2
      have c3 : upd (upd (upd H p (.lst [.int (t + 1), .int rs, .ref cs])) l1 (.lst [.int 0])) l2 (.lst (ns.map V.int ++ [.int 0])) cs = some (.lst (ns.map V.int)) := by rw [upd_ne nc2]; exact c2
      have l3 : upd (upd (upd H p (.lst [.int (t + 1), .int rs, .ref cs])) l1 (.lst [.int 0])) l2 (.lst (ns.map V.int ++ [.int 0])) l2 = some (.lst (ns.map V.int ++ [.int 0])) := upd_same
      -- the place
      let L : Int := if ((ns.map V.int).length : Int) > 1 then ((ns.map V.int).length : Int) else 1
      have hL : 1 ≤ L ∧ L ≤ (ns.length : Int) + 1 := by
        show 1 ≤ (if ((ns.map V.int).length : Int) > 1 then ((ns.map V.int).length : Int) else 1) ∧ (if ((ns.map V.int).length : Int) > 1 then ((ns.map V.int).length : Int) else 1) ≤ (ns.length : Int) + 1
        rw [List.length_map]
        split <;> omega
      have hj : 0 ≤ t.fmod L ∧ t.fmod L < L := by
        rw [Int.fmod_eq_emod_of_nonneg _ (by omega)]
        exact ⟨Int.emod_nonneg _ (by omega), Int.emod_lt_of_pos _ (by omega)⟩
      obtain ⟨cell, hcell⟩ : ∃ cell : Int, atI (ns.map V.int ++ [.int 0]) (t.fmod L) = some (.int cell) := by
        have e : (ns.map V.int ++ [V.int 0]) = (ns ++ [0]).map V.int := by simp
        have hlt : (t.fmod L).toNat < (ns ++ [0]).length := by simp; omega
        refine ⟨(ns ++ [0])[(t.fmod L).toNat], ?_⟩
        have ej : t.fmod L = (((t.fmod L).toNat : Nat) : Int) := by omega
        rw [e]
        exact at_of ej (by rw [List.getElem?_map, List.getElem?_eq_getElem hlt]; rfl)
      refine ⟨_, rfl, .inl ⟨_, rfl, ⟨_, rfl, .inl ⟨p, _, _, _, rfl, rfl, SqL.of p3, ix2 _ _ _, ⟨_, _, rfl, .inl ⟨_, SqL.of c3, rfl⟩, ⟨_, _, rfl, ⟨_, _, rfl, rfl, ?_, .inl ⟨l2, _, _, _, rfl, rfl, SqL.of l3, hcell, ?_⟩⟩⟩⟩⟩⟩⟩⟩
      · show L ≠ 0
        omega
      -- mixed
      have m1 : 0 ≤ cell.fmod 2147483647 ∧ cell.fmod 2147483647 < 2147483647 := by
        rw [Int.fmod_eq_emod_of_nonneg _ (by decide)]
        exact ⟨Int.emod_nonneg _ (by decide), Int.emod_lt_of_pos _ (by decide)⟩
      have m2 : ∀ x : Int, 0 ≤ x.fmod 2147483647 ∧ x.fmod 2147483647 < 2147483647 := fun x => by
        rw [Int.fmod_eq_emod_of_nonneg _ (by decide)]
        exact ⟨Int.emod_nonneg _ (by decide), Int.emod_lt_of_pos _ (by decide)⟩
      have tl : t ≤ 1000000000 := by omega
      refine ⟨_, rfl, .inl ⟨_, rfl, ⟨_, _, rfl, rfl, (by show (2147483647 : Int) ≠ 0; decide), ⟨_, rfl, ⟨_, _, rfl, rfl, ?_, .inl ⟨_, _, rfl, rfl, .inl ⟨_, _, rfl, rfl, ⟨_, _, rfl, rfl, ⟨by decide, by decide, ?_⟩, ⟨_, _, rfl, rfl, (by show (2147483647 : Int) ≠ 0; decide), ?_⟩⟩⟩⟩⟩⟩⟩⟩⟩
      · show (7919 : Int).natAbs.log2 + t.natAbs.log2 < 1000000
        have := lg t q4 (by omega)
        have : (7919 : Int).natAbs.log2 = 12 := by decide
        omega
      · show (cell.fmod 2147483647 + 7919 * t + 13).natAbs < 2 ^ 64
        omega
      have b1 := m2 ((cell.fmod 2147483647 + 7919 * t + 13) ^ (5 : Int).toNat)
      refine ⟨_, rfl, ⟨_, rfl, ⟨_, _, rfl, rfl, ?_, .inl ⟨_, _, rfl, rfl, .inl ⟨_, _, rfl, rfl, ⟨_, _, rfl, rfl, ⟨by decide, by decide, ?_⟩, ⟨_, _, rfl, rfl, (by show (2147483629 : Int) ≠ 0; decide), ?_⟩⟩⟩⟩⟩⟩⟩
      · show (104729 : Int).natAbs.log2 + t.natAbs.log2 < 1000000
        have := lg t q4 (by omega)
        have : (104729 : Int).natAbs.log2 = 16 := by decide
        omega
      · show (((cell.fmod 2147483647 + 7919 * t + 13) ^ (5 : Int).toNat).fmod 2147483647 + 104729 * t + 29).natAbs < 2 ^ 64
        generalize ((cell.fmod 2147483647 + 7919 * t + 13) ^ (5 : Int).toNat).fmod 2147483647 = x1 at b1
        omega
      refine ⟨_, rfl, _, _, rfl, rfl, ⟨by decide, by decide, by decide⟩, _, _, rfl, rfl, _, rfl, ?_⟩
      refine ite2 (fun _ => ?_) (fun _ => ?_)
      · refine ⟨_, rfl, _, _, rfl, rfl, ⟨by decide, by decide⟩, ⟨_, rfl, _, _, rfl, rfl, by omega, ?_⟩⟩
        exact fin _ (t + 1) rs _ (md _).1 (md _).2 (by omega) (by omega) p3 keep
      · refine ⟨_, rfl, ⟨_, rfl, p, _, _, 1, rfl, rfl, p3, rfl, ?_⟩⟩
        exact rest (t + 1) cell _ _ _ _ (by omega) (by omega) upd_same fun a o z y => by rw [upd_ne z]; exact keep a o z y
    · exact rest t rs H _ _ _ q4 (by omega) q1 fun a o _ y => y
theorem ok_ratio {f : Addr} {fd : FuncData} (F : FunD K "ratio" "ratio" (defArgs s_ratio) (defBody s_ratio) (defScope s_ratio) [.int 1] [] f fd) (e_BadRatio : OkErr P w K mg base "BadRatio" "bottom") (g_gcd : mg "gcd" = some (.builtin "math.gcd")) :
    FnOk P w K mg base (L2.CX P w) 3 f fd ["top", "bottom"] (spS ⟨K, mg⟩ fRatio) := fnSXD (mb := b_ratio) F sc_ratio (fun cdv A outer s H E hr => ⟨_, (pss_cons (ps_if (pt_cmpR (op_eqD hr.units) (pv 1) pe_int (nomark _)) (pss_one (ps_raise rfl (takes_of rfl rfl rfl rfl) (pmk_E e_BadRatio hr (by decide) (pv 1)))) pss_nil)
      (pss_cons (ps_set (i := 2) sc_ratio.nd rfl (by first | exact Or.inl rfl | exact Or.inr rfl) (pe_callBfun cr_gcd (by rfl) g_gcd (pa_cons (pv 0) (pa_cons (pv 1) pa_nil))))
      (pss_cons (ps_if (pt_cmpR op_lt (pv 1) pe_int (nomark _)) (pss_one (ps_set (i := 2) sc_ratio.nd rfl (by first | exact Or.inl rfl | exact Or.inr rfl) (pe_un un_neg (pv 2)))) pss_nil)
      (pss_one (ps_ret (pe_tup (pa_cons (pe_op op_fdivG (pv 0) (pv 2)) (pa_cons (pe_op op_fdivG (pv 1) (pv 2)) pa_nil)))))))),
    (sim_seq (sim_ifS (sim_test (sim_op sr_eq sim_var sim_int)) (sim_raise (sim_mkE sim_var)) sim_next)
      (sim_seq (sim_asg (sim_cb srl_gcd (sim_cons sim_var (sim_cons sim_var sim_nil))) sim_gn)
      (sim_seq (sim_ifS (sim_test (sim_op sr_B0 sim_var sim_int)) (sim_asg (sim_un sr_U sim_var) sim_gn) sim_next)
      (sim_ret (sim_tup (sim_cons (sim_op sr_I sim_var sim_var) (sim_cons (sim_op sr_I sim_var sim_var) sim_nil)))))))⟩) d_ratio
theorem ok_plus {f : Addr} {fd : FuncData} (F : Fun K "plus" "plus" s_plus f fd) (hm : mg "plus" = some (.ref f)) (hb : Binds K fd ["one", "other"] []) (o_ratio : OkX (spS ⟨K, mg⟩ fRatio) P w K mg base 3 "ratio" ["top", "bottom"]) :
    Ok0 P w K mg base 4 "plus" ["one", "other"] fPlus :=
  ⟨f, fd, hm, F.kp, hb, fnS0 (mb := b_plus) F sc_plus (fun cdv A outer s H E hr => ⟨_, (pss_cons (ps_asg (pv 0) (pg_tup rfl (pgs_cons (pg_name (i := 2) sc_plus.nd rfl (by first | exact Or.inl rfl | exact Or.inr rfl)) (pgs_cons (pg_name (i := 3) sc_plus.nd rfl (by first | exact Or.inl rfl | exact Or.inr rfl)) pgs_nil))))
      (pss_cons (ps_asg (pv 1) (pg_tup rfl (pgs_cons (pg_name (i := 4) sc_plus.nd rfl (by first | exact Or.inl rfl | exact Or.inr rfl)) (pgs_cons (pg_name (i := 5) sc_plus.nd rfl (by first | exact Or.inl rfl | exact Or.inr rfl)) pgs_nil))))
      (pss_one (ps_ret (pe_callX o_ratio hr (by decide) takes0 (pa_cons (pe_op op_addG (pe_op op_mulW (pv 2) (pv 5)) (pe_op op_mulW (pv 4) (pv 3))) (pa_cons (pe_op op_mulW (pv 3) (pv 5)) pa_nil))))))),
    (sim_seq (sim_asg sim_var (sim_gt (sim_gsc sim_gn (sim_gsc sim_gn sim_gsn))))
      (sim_seq (sim_asg sim_var (sim_gt (sim_gsc sim_gn (sim_gsc sim_gn sim_gsn))))
      (sim_ret (sim_callX (sim_cons (sim_op sr_add (sim_op sr_I sim_var sim_var) (sim_op sr_I sim_var sim_var)) (sim_cons (sim_op sr_I sim_var sim_var) sim_nil))))))⟩) d_plus⟩
theorem ok_minus {f : Addr} {fd : FuncData} (F : Fun K "minus" "minus" s_minus f fd) (hm : mg "minus" = some (.ref f)) (hb : Binds K fd ["one", "other"] []) (o_ratio : OkX (spS ⟨K, mg⟩ fRatio) P w K mg base 3 "ratio" ["top", "bottom"]) :
    Ok0 P w K mg base 4 "minus" ["one", "other"] fMinus :=
  ⟨f, fd, hm, F.kp, hb, fnS0 (mb := b_minus) F sc_minus (fun cdv A outer s H E hr => ⟨_, (pss_cons (ps_asg (pv 0) (pg_tup rfl (pgs_cons (pg_name (i := 2) sc_minus.nd rfl (by first | exact Or.inl rfl | exact Or.inr rfl)) (pgs_cons (pg_name (i := 3) sc_minus.nd rfl (by first | exact Or.inl rfl | exact Or.inr rfl)) pgs_nil))))
      (pss_cons (ps_asg (pv 1) (pg_tup rfl (pgs_cons (pg_name (i := 4) sc_minus.nd rfl (by first | exact Or.inl rfl | exact Or.inr rfl)) (pgs_cons (pg_name (i := 5) sc_minus.nd rfl (by first | exact Or.inl rfl | exact Or.inr rfl)) pgs_nil))))
      (pss_one (ps_ret (pe_callX o_ratio hr (by decide) takes0 (pa_cons (pe_op op_sub (pe_op op_mulW (pv 2) (pv 5)) (pe_op op_mulW (pv 4) (pv 3))) (pa_cons (pe_op op_mulW (pv 3) (pv 5)) pa_nil))))))),
    (sim_seq (sim_asg sim_var (sim_gt (sim_gsc sim_gn (sim_gsc sim_gn sim_gsn))))
      (sim_seq (sim_asg sim_var (sim_gt (sim_gsc sim_gn (sim_gsc sim_gn sim_gsn))))
      (sim_ret (sim_callX (sim_cons (sim_op sr_I0 (sim_op sr_I sim_var sim_var) (sim_op sr_I sim_var sim_var)) (sim_cons (sim_op sr_I sim_var sim_var) sim_nil))))))⟩) d_minus⟩
theorem ok_times {f : Addr} {fd : FuncData} (F : Fun K "times" "times" s_times f fd) (hm : mg "times" = some (.ref f)) (hb : Binds K fd ["one", "other"] []) (o_ratio : OkX (spS ⟨K, mg⟩ fRatio) P w K mg base 3 "ratio" ["top", "bottom"]) :
    Ok0 P w K mg base 4 "times" ["one", "other"] fTimes :=
  ⟨f, fd, hm, F.kp, hb, fnS0 (mb := b_times) F sc_times (fun cdv A outer s H E hr => ⟨_, (pss_cons (ps_asg (pv 0) (pg_tup rfl (pgs_cons (pg_name (i := 2) sc_times.nd rfl (by first | exact Or.inl rfl | exact Or.inr rfl)) (pgs_cons (pg_name (i := 3) sc_times.nd rfl (by first | exact Or.inl rfl | exact Or.inr rfl)) pgs_nil))))
      (pss_cons (ps_asg (pv 1) (pg_tup rfl (pgs_cons (pg_name (i := 4) sc_times.nd rfl (by first | exact Or.inl rfl | exact Or.inr rfl)) (pgs_cons (pg_name (i := 5) sc_times.nd rfl (by first | exact Or.inl rfl | exact Or.inr rfl)) pgs_nil))))
      (pss_one (ps_ret (pe_callX o_ratio hr (by decide) takes0 (pa_cons (pe_op op_mulW (pv 2) (pv 4)) (pa_cons (pe_op op_mulW (pv 3) (pv 5)) pa_nil))))))),
    (sim_seq (sim_asg sim_var (sim_gt (sim_gsc sim_gn (sim_gsc sim_gn sim_gsn))))
      (sim_seq (sim_asg sim_var (sim_gt (sim_gsc sim_gn (sim_gsc sim_gn sim_gsn))))
      (sim_ret (sim_callX (sim_cons (sim_op sr_I sim_var sim_var) (sim_cons (sim_op sr_I sim_var sim_var) sim_nil))))))⟩) d_times⟩
theorem ok_over {f : Addr} {fd : FuncData} (F : Fun K "over" "over" s_over f fd) (hm : mg "over" = some (.ref f)) (hb : Binds K fd ["one", "other"] []) (o_ratio : OkX (spS ⟨K, mg⟩ fRatio) P w K mg base 3 "ratio" ["top", "bottom"]) :
    OkX (spS ⟨K, mg⟩ fOver) P w K mg base 4 "over" ["one", "other"] :=
  ⟨f, fd, hm, F.kp, hb, fnSX (mb := b_over) F sc_over (fun cdv A outer s H E hr => ⟨_, (pss_cons (ps_asg (pv 0) (pg_tup rfl (pgs_cons (pg_name (i := 2) sc_over.nd rfl (by first | exact Or.inl rfl | exact Or.inr rfl)) (pgs_cons (pg_name (i := 3) sc_over.nd rfl (by first | exact Or.inl rfl | exact Or.inr rfl)) pgs_nil))))
      (pss_cons (ps_asg (pv 1) (pg_tup rfl (pgs_cons (pg_name (i := 4) sc_over.nd rfl (by first | exact Or.inl rfl | exact Or.inr rfl)) (pgs_cons (pg_name (i := 5) sc_over.nd rfl (by first | exact Or.inl rfl | exact Or.inr rfl)) pgs_nil))))
      (pss_one (ps_ret (pe_callX o_ratio hr (by decide) (takes_of rfl rfl rfl rfl) (pa_cons (pe_op op_mulW (pv 2) (pv 5)) (pa_cons (pe_op op_mulW (pv 3) (pv 4)) pa_nil))))))),
    (sim_seq (sim_asg sim_var (sim_gt (sim_gsc sim_gn (sim_gsc sim_gn sim_gsn))))
      (sim_seq (sim_asg sim_var (sim_gt (sim_gsc sim_gn (sim_gsc sim_gn sim_gsn))))
      (sim_ret (sim_callX (sim_cons (sim_op sr_I sim_var sim_var) (sim_cons (sim_op sr_I sim_var sim_var) sim_nil))))))⟩) d_over⟩
theorem ok_compare {f : Addr} {fd : FuncData} (F : Fun K "compare" "compare" s_compare f fd) (hm : mg "compare" = some (.ref f)) (hb : Binds K fd ["one", "other"] []) (o_minus : Ok0 P w K mg base 4 "minus" ["one", "other"] fMinus) :
    Ok0 P w K mg base 5 "compare" ["one", "other"] fCompare :=
  ⟨f, fd, hm, F.kp, hb, fnS0 (mb := b_compare) F sc_compare (fun cdv A outer s H E hr => ⟨_, (pss_cons (ps_asg (pe_callO o_minus hr (by decide) (pa_cons (pv 0) (pa_cons (pv 1) pa_nil))) (pg_tup rfl (pgs_cons (pg_name (i := 2) sc_compare.nd rfl (by first | exact Or.inl rfl | exact Or.inr rfl)) (pgs_cons (pg_name (i := 3) sc_compare.nd rfl (by first | exact Or.inl rfl | exact Or.inr rfl)) pgs_nil))))
      (pss_cons (ps_if (pt_cmpR op_lt (pv 2) pe_int (nomark _)) (pss_one (ps_ret (pe_un un_neg pe_int))) pss_nil)
      (pss_cons (ps_if (pt_cmpR op_gt (pv 2) pe_int (nomark _)) (pss_one (ps_ret pe_int)) pss_nil)
      (pss_one (ps_ret pe_int))))),
    (sim_seq (sim_asg (sim_call0 (sim_cons sim_var (sim_cons sim_var sim_nil))) (sim_gt (sim_gsc sim_gn (sim_gsc sim_gn sim_gsn))))
      (sim_seq (sim_ifS (sim_test (sim_op sr_B0 sim_var sim_int)) (sim_ret (sim_un sr_U sim_int)) sim_next)
      (sim_seq (sim_ifS (sim_test (sim_op sr_B0 sim_var sim_int)) (sim_ret sim_int) sim_next)
      (sim_ret sim_int))))⟩) d_compare⟩
theorem ok_total {f : Addr} {fd : FuncData} (F : Fun K "total" "total" s_total f fd) (hm : mg "total" = some (.ref f)) (hb : Binds K fd ["ratios"] []) (o_plus : Ok0 P w K mg base 4 "plus" ["one", "other"] fPlus) :
    Ok0 P w K mg base 5 "total" ["ratios"] fTotal :=
  ⟨f, fd, hm, F.kp, hb, fnS0 (mb := b_total) F sc_total (fun cdv A outer s H E hr => ⟨_, (pss_cons (ps_set (i := 1) sc_total.nd rfl (by first | exact Or.inl rfl | exact Or.inr rfl) (pe_tup (pa_cons pe_int (pa_cons pe_int pa_nil))))
      (pss_cons (ps_for PassesOwn.never rfl (pi_seq (pv 0)) (pg_name (i := 2) sc_total.nd rfl (by first | exact Or.inl rfl | exact Or.inr rfl)) (pss_one (ps_set (i := 1) sc_total.nd rfl (by first | exact Or.inl rfl | exact Or.inr rfl) (pe_callO o_plus hr (by decide) (pa_cons (pv 1) (pa_cons (pv 2) pa_nil))))))
      (pss_one (ps_ret (pv 1))))),
    (sim_seq (sim_asg (sim_tup (sim_cons sim_int (sim_cons sim_int sim_nil))) sim_gn)
      (sim_seq (sim_for (sim_itS sim_var) sim_gn (sim_asg (sim_call0 (sim_cons sim_var (sim_cons sim_var sim_nil))) sim_gn))
      (sim_ret sim_var)))⟩) d_total⟩
theorem oc_law_is_number {f : Addr} {fd : FuncData} (F : Fun K "_law_is_number" "_law_is_number" s_law_is_number f fd) (hm : mg "_law_is_number" = some (.ref f)) (hb : Binds K fd ["_law_thing"] []) (g_isinstance : mg "isinstance" = none) (g_int : mg "int" = none) (g_bool : mg "bool" = none) :
    OkC P w K mg base 1 "_law_is_number" ["_law_thing"] fIsNum :=
  ⟨f, fd, hm, F.kp, hb, fnC (mb := b_law_is_number) F sc_law_is_number (fun cdv B fr y H z hr => ⟨_, (pss_one (ps_ret (pe_and (pe_callB call_isi (by rfl) g_isinstance (by decide +kernel) (pa_cons (pv 0) (pa_cons (pe_bltn (v := .ty "int") (by rfl) g_int (by decide +kernel) rfl) pa_nil))) (pe_one (pe_not (pe_callB call_isi (by rfl) g_isinstance (by decide +kernel) (pa_cons (pv 0) (pa_cons (pe_bltn (v := .ty "bool") (by rfl) g_bool (by decide +kernel) rfl) pa_nil)))))))),
    (sim_ret (sim_andV (sim_isi (T := "int") (by decide +kernel) sim_var) (sim_notV (sim_isi (T := "bool") (by decide +kernel) sim_var))))⟩) d_law_is_number⟩
theorem ok_law_is_number {f : Addr} {fd : FuncData} (F : Fun K "_law_is_number" "_law_is_number" s_law_is_number f fd) (hm : mg "_law_is_number" = some (.ref f)) (hb : Binds K fd ["_law_thing"] []) (g_isinstance : mg "isinstance" = none) (g_int : mg "int" = none) (g_bool : mg "bool" = none) :
    Ok0 P w K mg base 1 "_law_is_number" ["_law_thing"] fIsNum :=
  ⟨f, fd, hm, F.kp, hb, fnS0 (mb := b_law_is_number) F sc_law_is_number (fun cdv A outer s H E hr => ⟨_, (pss_one (ps_ret (pe_and (pe_callB call_isi (by rfl) g_isinstance (by decide +kernel) (pa_cons (pv 0) (pa_cons (pe_bltn (v := .ty "int") (by rfl) g_int (by decide +kernel) rfl) pa_nil))) (pe_one (pe_not (pe_callB call_isi (by rfl) g_isinstance (by decide +kernel) (pa_cons (pv 0) (pa_cons (pe_bltn (v := .ty "bool") (by rfl) g_bool (by decide +kernel) rfl) pa_nil)))))))),
    (sim_ret (sim_andV (sim_isi (T := "int") (by decide +kernel) sim_var) (sim_notV (sim_isi (T := "bool") (by decide +kernel) sim_var))))⟩) d_law_is_number⟩
theorem ok_law_divisor {f : Addr} {fd : FuncData} (F : Fun K "_law_divisor" "_law_divisor" s_law_divisor f fd) (hm : mg "_law_divisor" = some (.ref f)) (hb : Binds K fd ["_law_numbers"] []) (g_abs : mg "abs" = none) (g_int : mg "int" = none) :
    Ok0 P w K mg base 1 "_law_divisor" ["_law_numbers"] fGcd :=
  ⟨f, fd, hm, F.kp, hb, fnS0 (mb := b_law_divisor) F sc_law_divisor (fun cdv A outer s H E hr => ⟨_, (pss_cons (ps_set (i := 1) sc_law_divisor.nd rfl (by first | exact Or.inl rfl | exact Or.inr rfl) pe_int)
      (pss_cons (ps_for PassesOwn.never rfl (pi_seq (pv 0)) (pg_name (i := 2) sc_law_divisor.nd rfl (by first | exact Or.inl rfl | exact Or.inr rfl)) (pss_cons (ps_set (i := 3) sc_law_divisor.nd rfl (by first | exact Or.inl rfl | exact Or.inr rfl) (pe_callB call_abs (by rfl) g_abs (by decide +kernel) (pa_cons (pv 2) pa_nil)))
      (pss_cons (ps_set (i := 4) sc_law_divisor.nd rfl (by first | exact Or.inl rfl | exact Or.inr rfl) (pv 1))
      (pss_cons (ps_while PassesOwn.never (pt_cmpR (op_neD hr.units) (pv 4) pe_int (nomark _)) (pss_one (ps_par (i := 3) (j := 4) (by rfl) sc_law_divisor.nd rfl rfl (by decide) rfl rfl (pa_cons (pv 4) (pa_cons (pe_op op_modN (pe_callTy call_int1 (by rfl) g_int (by decide +kernel) (pa_cons (pv 3) pa_nil)) (pv 4)) pa_nil)) (by rfl))))
      (pss_one (ps_set (i := 1) sc_law_divisor.nd rfl (by first | exact Or.inl rfl | exact Or.inr rfl) (pv 3)))))))
      (pss_one (ps_ret (pv 1))))),
    (sim_seq (sim_asg sim_int sim_gn)
      (sim_seq (sim_for (sim_itS sim_var) sim_gn (sim_seq (sim_asg (sim_cb srl_abs (sim_cons sim_var sim_nil)) sim_gn)
      (sim_seq (sim_asg sim_var sim_gn)
      (sim_seq (sim_while (sim_test (sim_op sr_ne sim_var sim_int)) (sim_par (sim_cons sim_var (sim_cons (sim_op sr_I (sim_cb srl_int1 (sim_cons sim_var sim_nil)) sim_var) sim_nil))))
      (sim_asg sim_var sim_gn)))))
      (sim_ret sim_var)))⟩) d_law_divisor⟩
theorem ok_law_ratio {f : Addr} {fd : FuncData} (F : Fun K "_law_ratio" "_law_ratio" s_law_ratio f fd) (hm : mg "_law_ratio" = some (.ref f)) (hb : Binds K fd ["_law_up", "_law_down"] []) (o_law_divisor : Ok0 P w K mg base 1 "_law_divisor" ["_law_numbers"] fGcd) :
    Ok0 P w K mg base 2 "_law_ratio" ["_law_up", "_law_down"] fRat :=
  ⟨f, fd, hm, F.kp, hb, fnS0 (mb := b_law_ratio) F sc_law_ratio (fun cdv A outer s H E hr => ⟨_, (pss_cons (ps_set (i := 2) sc_law_ratio.nd rfl (by first | exact Or.inl rfl | exact Or.inr rfl) (pe_callO o_law_divisor hr (by decide) (pa_cons (pe_lst (pa_cons (pv 0) (pa_cons (pv 1) pa_nil))) pa_nil)))
      (pss_cons (ps_if (pt_cmpR op_lt (pv 1) pe_int (nomark _)) (pss_one (ps_set (i := 2) sc_law_ratio.nd rfl (by first | exact Or.inl rfl | exact Or.inr rfl) (pe_un un_neg (pv 2)))) pss_nil)
      (pss_one (ps_ret (pe_tup (pa_cons (pe_op op_fdivG (pv 0) (pv 2)) (pa_cons (pe_op op_fdivG (pv 1) (pv 2)) pa_nil))))))),
    (sim_seq (sim_asg (sim_call0 (sim_cons (sim_frz (sim_lstO (sim_cons sim_var (sim_cons sim_var sim_nil)))) sim_nil)) sim_gn)
      (sim_seq (sim_ifS (sim_test (sim_op sr_B0 sim_var sim_int)) (sim_asg (sim_un sr_U sim_var) sim_gn) sim_next)
      (sim_ret (sim_tup (sim_cons (sim_op sr_I sim_var sim_var) (sim_cons (sim_op sr_I sim_var sim_var) sim_nil))))))⟩) d_law_ratio⟩
theorem ok_law_integer {f : Addr} {fd : FuncData} (F : Fun K "_law_integer" "_law_integer" s_law_integer f fd) (hm : mg "_law_integer" = some (.ref f)) (hb : Binds K fd ["_law_pool_here"] []) (o_law_take : Ok0 P w K mg base 1 "_law_take" ["_law_pool_here", "_law_many"] fTake) :
    Ok0 P w K mg base 2 "_law_integer" ["_law_pool_here"] fInt :=
  ⟨f, fd, hm, F.kp, hb, fnS0 (mb := b_law_integer) F sc_law_integer (fun cdv A outer s H E hr => ⟨_, (pss_cons (ps_set (i := 1) sc_law_integer.nd rfl (by first | exact Or.inl rfl | exact Or.inr rfl) (pe_ix ix_seq (pe_lst (pa_cons pe_int (pa_cons pe_int (pa_cons pe_int (pa_cons (pe_op op_pow pe_int pe_int) pa_nil))))) (pe_callO o_law_take hr (by decide) (pa_cons (pv 0) (pa_cons pe_int pa_nil))) (fun _ _ => rfl)))
      (pss_one (ps_ret (pe_op op_sub (pe_callO o_law_take hr (by decide) (pa_cons (pv 0) (pa_cons (pe_op op_addG (pe_op op_mulW pe_int (pv 1)) pe_int) pa_nil))) (pv 1))))),
    (sim_seq (sim_asg (sim_op sr_ix (sim_frz (sim_lstO (sim_cons sim_int (sim_cons sim_int (sim_cons sim_int (sim_cons (sim_op sr_I sim_int sim_int) sim_nil)))))) (sim_call0 (sim_cons sim_var (sim_cons sim_int sim_nil)))) sim_gn)
      (sim_ret (sim_op sr_I0 (sim_call0 (sim_cons sim_var (sim_cons (sim_op sr_add (sim_op sr_I sim_int sim_var) sim_int) sim_nil))) sim_var)))⟩) d_law_integer⟩
theorem ok_law_refused {f : Addr} {fd : FuncData} (F : Fun K "_law_refused" "_law_refused" s_law_refused f fd) (hm : mg "_law_refused" = some (.ref f)) (hb : Binds K fd ["_law_up"] []) (o_ratio : OkX (spS ⟨K, mg⟩ fRatio) P w K mg base 3 "ratio" ["top", "bottom"]) (oc_law_is_number : OkC P w K mg base 1 "_law_is_number" ["_law_thing"] fIsNum) {C_BadRatio : Addr} (m_BadRatio : mg "BadRatio" = some (.ref C_BadRatio)) (t_BadRatio : XfC K C_BadRatio) (n_BadRatio : PySem.W.findIn K (.ref C_BadRatio) "bottom" = some none) (tabOk : Tab.Ok ⟨K, mg⟩ tab) :
    Ok0 P w K mg base 4 "_law_refused" ["_law_up"] fRefused :=
  ⟨f, fd, hm, F.kp, hb, fnS0 (mb := b_law_refused) F sc_law_refused (fun cdv A outer s H E hr => ⟨_, (pss_cons (ps_tryH rfl rfl takes0 (fun W pn xe tk _ => (pss_one (ps_expr (pe_callX o_ratio hr (by decide) tk (pa_cons (pv 0) (pa_cons pe_int pa_nil)))))) (HdsR.named (i := 1) ⟨by rfl, by decide, .inl m_BadRatio⟩ sc_law_refused.nd rfl rfl (fun a o cls d pn hz hf => (pss_one (ps_ret (pe_and (pe_callC oc_law_is_number (suiteRoom hr) (by decide) List.mem_cons_self (pa_cons (pe_xf t_BadRatio n_BadRatio hz hf (pv 1)) pa_nil)) (pe_one (pe_cmpR (op_eqD hr.units) (pe_xf t_BadRatio n_BadRatio hz hf (pv 1)) pe_int (nomark _))))))) HdsR.nil))
      (pss_one (ps_ret pe_bl))),
    (sim_seq (sim_try tabOk (fun W => (sim_drop (sim_callX (sim_cons sim_var (sim_cons sim_int sim_nil))))) (HR.named m_BadRatio (fun a cls d => (sim_ret (sim_andV (sim_call0 (sim_cons (sim_xf m_BadRatio) sim_nil)) (sim_op sr_eq (sim_xf m_BadRatio) sim_int)))) HR.nil))
      (sim_ret sim_bl))⟩) d_law_refused⟩
theorem ok_law_over {f : Addr} {fd : FuncData} (F : Fun K "_law_over" "_law_over" s_law_over f fd) (hm : mg "_law_over" = some (.ref f)) (hb : Binds K fd ["_law_one", "_law_other"] []) (o_over : OkX (spS ⟨K, mg⟩ fOver) P w K mg base 4 "over" ["one", "other"]) {C_BadRatio : Addr} (m_BadRatio : mg "BadRatio" = some (.ref C_BadRatio)) (t_BadRatio : XfC K C_BadRatio) (n_BadRatio : PySem.W.findIn K (.ref C_BadRatio) "bottom" = some none) (tabOk : Tab.Ok ⟨K, mg⟩ tab) :
    Ok0 P w K mg base 5 "_law_over" ["_law_one", "_law_other"] fLOver :=
  ⟨f, fd, hm, F.kp, hb, fnS0 (mb := b_law_over) F sc_law_over (fun cdv A outer s H E hr => ⟨_, (pss_one (ps_tryH rfl rfl takes0 (fun W pn xe tk _ => (pss_one (ps_ret (pe_callX o_over hr (by decide) tk (pa_cons (pv 0) (pa_cons (pv 1) pa_nil)))))) (HdsR.named (i := 2) ⟨by rfl, by decide, .inl m_BadRatio⟩ sc_law_over.nd rfl rfl (fun a o cls d pn hz hf => (pss_one (ps_ret (pe_xf t_BadRatio n_BadRatio hz hf (pv 2))))) HdsR.nil))),
    (sim_try tabOk (fun W => (sim_ret (sim_callX (sim_cons sim_var (sim_cons sim_var sim_nil))))) (HR.named m_BadRatio (fun a cls d => (sim_ret (sim_xf m_BadRatio))) HR.nil))⟩) d_law_over⟩
theorem ok_law_in_terms {f : Addr} {fd : FuncData} (F : Fun K "_law_in_terms" "_law_in_terms" s_law_in_terms f fd) (hm : mg "_law_in_terms" = some (.ref f)) (hb : Binds K fd ["_law_one", "_law_up", "_law_down"] []) (g_isinstance : mg "isinstance" = none) (g_tuple : mg "tuple" = none) (g_len : mg "len" = none) (o_law_is_number : Ok0 P w K mg base 1 "_law_is_number" ["_law_thing"] fIsNum) (o_law_ratio : Ok0 P w K mg base 2 "_law_ratio" ["_law_up", "_law_down"] fRat) :
    Ok0 P w K mg base 3 "_law_in_terms" ["_law_one", "_law_up", "_law_down"] fTerms :=
  ⟨f, fd, hm, F.kp, hb, fnS0 (mb := b_law_in_terms) F sc_law_in_terms (fun cdv A outer s H E hr => ⟨_, (pss_cons (ps_if (PW.pt (pw_or (pt_not (pt_val (pe_callB call_isi (by rfl) g_isinstance (by decide +kernel) (pa_cons (pv 0) (pa_cons (pe_bltn (v := .ty "tuple") (by rfl) g_tuple (by decide +kernel) rfl) pa_nil))))) (pw_or (pt_cmpR (op_neD hr.units) (pe_callB call_len (by rfl) g_len PySem.boot_len (pa_cons (pv 0) pa_nil)) pe_int (nomark _)) (pw_or (pt_not (pt_val (pe_callO o_law_is_number hr (by decide) (pa_cons (pe_ix ix_seq (pv 0) pe_int (fun _ _ => rfl)) pa_nil)))) (pw_or1 (pt_not (pt_val (pe_callO o_law_is_number hr (by decide) (pa_cons (pe_ix ix_seq (pv 0) pe_int (fun _ _ => rfl)) pa_nil))))))))) (pss_one (ps_ret pe_bl)) pss_nil)
      (pss_one (ps_ret (pe_cmpR (op_eqD hr.units) (pv 0) (pe_callO o_law_ratio hr (by decide) (pa_cons (pv 1) (pa_cons (pv 2) pa_nil))) (nomark _))))),
    (sim_seq (sim_ifS (sim_or (sim_not (sim_testB (sim_isi (T := "tuple") (by decide +kernel) sim_var))) (sim_or (sim_test (sim_op sr_ne (sim_cb srl_len (sim_cons sim_var sim_nil)) sim_int)) (sim_or (sim_not (sim_testB (sim_call0 (sim_cons (sim_op sr_ix sim_var sim_int) sim_nil)))) (sim_not (sim_testB (sim_call0 (sim_cons (sim_op sr_ix sim_var sim_int) sim_nil))))))) (sim_ret sim_bl) sim_next)
      (sim_ret (sim_op sr_eq sim_var (sim_call0 (sim_cons sim_var (sim_cons sim_var sim_nil))))))⟩) d_law_in_terms⟩
theorem ok_law_two_right {f : Addr} {fd : FuncData} (F : Fun K "_law_two_right" "_law_two_right" s_law_two_right f fd) (hm : mg "_law_two_right" = some (.ref f)) (hb : Binds K fd ["_law_one", "_law_other"] []) (o_law_in_terms : Ok0 P w K mg base 3 "_law_in_terms" ["_law_one", "_law_up", "_law_down"] fTerms) (o_plus : Ok0 P w K mg base 4 "plus" ["one", "other"] fPlus) (o_minus : Ok0 P w K mg base 4 "minus" ["one", "other"] fMinus) (o_times : Ok0 P w K mg base 4 "times" ["one", "other"] fTimes) (o_law_over : Ok0 P w K mg base 5 "_law_over" ["_law_one", "_law_other"] fLOver) (o_over : OkX (spS ⟨K, mg⟩ fOver) P w K mg base 4 "over" ["one", "other"]) (o_compare : Ok0 P w K mg base 5 "compare" ["one", "other"] fCompare) (o_law_is_number : Ok0 P w K mg base 1 "_law_is_number" ["_law_thing"] fIsNum) (g_int : mg "int" = none) :
    Ok0 P w K mg base 6 "_law_two_right" ["_law_one", "_law_other"] fTwo :=
  ⟨f, fd, hm, F.kp, hb, fnS0 (mb := b_law_two_right) F sc_law_two_right (fun cdv A outer s H E hr => ⟨_, (pss_cons (ps_set (i := 2) sc_law_two_right.nd rfl (by first | exact Or.inl rfl | exact Or.inr rfl) (pe_op op_mulW (pe_ix ix_seq (pv 0) pe_int (fun _ _ => rfl)) (pe_ix ix_seq (pv 1) pe_int (fun _ _ => rfl))))
      (pss_cons (ps_set (i := 3) sc_law_two_right.nd rfl (by first | exact Or.inl rfl | exact Or.inr rfl) (pe_op op_mulW (pe_ix ix_seq (pv 1) pe_int (fun _ _ => rfl)) (pe_ix ix_seq (pv 0) pe_int (fun _ _ => rfl))))
      (pss_cons (ps_set (i := 4) sc_law_two_right.nd rfl (by first | exact Or.inl rfl | exact Or.inr rfl) (pe_op op_mulW (pe_ix ix_seq (pv 0) pe_int (fun _ _ => rfl)) (pe_ix ix_seq (pv 1) pe_int (fun _ _ => rfl))))
      (pss_cons (ps_if (pt_not (pt_val (pe_callO o_law_in_terms hr (by decide) (pa_cons (pe_callO o_plus hr (by decide) (pa_cons (pv 0) (pa_cons (pv 1) pa_nil))) (pa_cons (pe_op op_addG (pv 2) (pv 3)) (pa_cons (pv 4) pa_nil)))))) (pss_one (ps_ret pe_bl)) pss_nil)
      (pss_cons (ps_if (pt_not (pt_val (pe_callO o_law_in_terms hr (by decide) (pa_cons (pe_callO o_minus hr (by decide) (pa_cons (pv 0) (pa_cons (pv 1) pa_nil))) (pa_cons (pe_op op_sub (pv 2) (pv 3)) (pa_cons (pv 4) pa_nil)))))) (pss_one (ps_ret pe_bl)) pss_nil)
      (pss_cons (ps_if (pt_not (pt_val (pe_callO o_law_in_terms hr (by decide) (pa_cons (pe_callO o_times hr (by decide) (pa_cons (pv 0) (pa_cons (pv 1) pa_nil))) (pa_cons (pe_op op_mulW (pe_ix ix_seq (pv 0) pe_int (fun _ _ => rfl)) (pe_ix ix_seq (pv 1) pe_int (fun _ _ => rfl))) (pa_cons (pv 4) pa_nil)))))) (pss_one (ps_ret pe_bl)) pss_nil)
      (pss_cons (ps_if (PW.pt (pw_and (pt_cmpR (op_eqD hr.units) (pe_ix ix_seq (pv 1) pe_int (fun _ _ => rfl)) pe_int (nomark _)) (pw_and1 (pt_cmpR (op_neD hr.units) (pe_callO o_law_over hr (by decide) (pa_cons (pv 0) (pa_cons (pv 1) pa_nil))) pe_int (nomark _))))) (pss_one (ps_ret pe_bl)) pss_nil)
      (pss_cons (ps_if (PW.pt (pw_and (pt_cmpR (op_neD hr.units) (pe_ix ix_seq (pv 1) pe_int (fun _ _ => rfl)) pe_int (nomark _)) (pw_and1 (pt_not (pt_val (pe_callO o_law_in_terms hr (by decide) (pa_cons (pe_callX o_over hr (by decide) takes0 (pa_cons (pv 0) (pa_cons (pv 1) pa_nil))) (pa_cons (pv 2) (pa_cons (pv 3) pa_nil))))))))) (pss_one (ps_ret pe_bl)) pss_nil)
      (pss_cons (ps_set (i := 5) sc_law_two_right.nd rfl (by first | exact Or.inl rfl | exact Or.inr rfl) (pe_callO o_compare hr (by decide) (pa_cons (pv 0) (pa_cons (pv 1) pa_nil))))
      (pss_one (ps_ret (pe_and (pe_callO o_law_is_number hr (by decide) (pa_cons (pv 5) pa_nil)) (pe_one (pe_cmpR (op_eqD hr.units) (pv 5) (pe_op op_sub (pe_callTy call_int1 (by rfl) g_int (by decide +kernel) (pa_cons (pe_cmpR op_gt (pv 2) (pv 3) (nomark _)) pa_nil)) (pe_callTy call_int1 (by rfl) g_int (by decide +kernel) (pa_cons (pe_cmpR op_lt (pv 2) (pv 3) (nomark _)) pa_nil))) (nomark _))))))))))))))),
    (sim_seq (sim_asg (sim_op sr_I (sim_op sr_ix sim_var sim_int) (sim_op sr_ix sim_var sim_int)) sim_gn)
      (sim_seq (sim_asg (sim_op sr_I (sim_op sr_ix sim_var sim_int) (sim_op sr_ix sim_var sim_int)) sim_gn)
      (sim_seq (sim_asg (sim_op sr_I (sim_op sr_ix sim_var sim_int) (sim_op sr_ix sim_var sim_int)) sim_gn)
      (sim_seq (sim_ifS (sim_not (sim_testB (sim_call0 (sim_cons (sim_call0 (sim_cons sim_var (sim_cons sim_var sim_nil))) (sim_cons (sim_op sr_add sim_var sim_var) (sim_cons sim_var sim_nil)))))) (sim_ret sim_bl) sim_next)
      (sim_seq (sim_ifS (sim_not (sim_testB (sim_call0 (sim_cons (sim_call0 (sim_cons sim_var (sim_cons sim_var sim_nil))) (sim_cons (sim_op sr_I0 sim_var sim_var) (sim_cons sim_var sim_nil)))))) (sim_ret sim_bl) sim_next)
      (sim_seq (sim_ifS (sim_not (sim_testB (sim_call0 (sim_cons (sim_call0 (sim_cons sim_var (sim_cons sim_var sim_nil))) (sim_cons (sim_op sr_I (sim_op sr_ix sim_var sim_int) (sim_op sr_ix sim_var sim_int)) (sim_cons sim_var sim_nil)))))) (sim_ret sim_bl) sim_next)
      (sim_seq (sim_ifS (sim_and (sim_test (sim_op sr_eq (sim_op sr_ix sim_var sim_int) sim_int)) (sim_test (sim_op sr_ne (sim_call0 (sim_cons sim_var (sim_cons sim_var sim_nil))) sim_int))) (sim_ret sim_bl) sim_next)
      (sim_seq (sim_ifS (sim_and (sim_test (sim_op sr_ne (sim_op sr_ix sim_var sim_int) sim_int)) (sim_not (sim_testB (sim_call0 (sim_cons (sim_callX (sim_cons sim_var (sim_cons sim_var sim_nil))) (sim_cons sim_var (sim_cons sim_var sim_nil))))))) (sim_ret sim_bl) sim_next)
      (sim_seq (sim_asg (sim_call0 (sim_cons sim_var (sim_cons sim_var sim_nil))) sim_gn)
      (sim_ret (sim_andV (sim_call0 (sim_cons sim_var sim_nil)) (sim_op sr_eq sim_var (sim_op sr_I0 (sim_cb srl_int1 (sim_cons (sim_op sr_B0 sim_var sim_var) sim_nil)) (sim_cb srl_int1 (sim_cons (sim_op sr_B0 sim_var sim_var) sim_nil)))))))))))))))⟩) d_law_two_right⟩
theorem ok_law {f : Addr} {fd : FuncData} (F : Fun K "law" "law" s_law f fd) (o_law_pool : OkS (spPool K) P w K mg base 1 "_law_pool" ["_law_script"]) (g_range : mg "range" = none) (o_law_take : Ok0 P w K mg base 1 "_law_take" ["_law_pool_here", "_law_many"] fTake) (o_law_integer : Ok0 P w K mg base 2 "_law_integer" ["_law_pool_here"] fInt) (o_ratio : OkX (spS ⟨K, mg⟩ fRatio) P w K mg base 3 "ratio" ["top", "bottom"]) (o_law_in_terms : Ok0 P w K mg base 3 "_law_in_terms" ["_law_one", "_law_up", "_law_down"] fTerms) (od_ratio : OkXD (spS ⟨K, mg⟩ fRatio) P w K mg base 3 "ratio" ["top", "bottom"] [.int 1]) (ob_ratio : OkXK (spS ⟨K, mg⟩ fRatio) P w K mg base 3 "ratio" "top" "bottom") (o_law_refused : Ok0 P w K mg base 4 "_law_refused" ["_law_up"] fRefused) (g_list : mg "list" = none) (o_law_two_right : Ok0 P w K mg base 6 "_law_two_right" ["_law_one", "_law_other"] fTwo) (o_total : Ok0 P w K mg base 5 "total" ["ratios"] fTotal) (g_tuple : mg "tuple" = none) : FnOk P w K mg base CX0 7 f fd ["_law_script"] (spLaw K) :=
  fnLaw (n := 8) (m := b_law) F sc_law rfl (fun cdv A outer s H E hr => ⟨_, pss_cons (ps_set (i := 1) sc_law.nd rfl (by first | exact Or.inl rfl | exact Or.inr rfl) (pe_callO o_law_pool hr (by decide) (pa_cons (pv 0) pa_nil)))
      (pss_cons (ps_set (i := 2) sc_law.nd rfl (by first | exact Or.inl rfl | exact Or.inr rfl) (pe_lst pa_nil))
      (pss_cons (ps_set (i := 3) sc_law.nd rfl (by first | exact Or.inl rfl | exact Or.inr rfl) pe_int)
      (pss_cons (ps_set (i := 4) sc_law.nd rfl (by first | exact Or.inl rfl | exact Or.inr rfl) pe_int)
      (pss_cons (ps_for PassesOwn.never rfl (pi_range1 (by rfl) g_range (pa_cons (pe_op op_addG pe_int (pe_callO o_law_take hr (by decide) (pa_cons (pv 1) (pa_cons pe_int pa_nil)))) pa_nil)) (pg_name (i := 5) sc_law.nd rfl (by first | exact Or.inl rfl | exact Or.inr rfl)) (pss_cons (ps_set (i := 8) sc_law.nd rfl (by first | exact Or.inl rfl | exact Or.inr rfl) (pe_lst (pa_cons (pe_callO o_law_integer hr (by decide) (pa_cons (pv 1) pa_nil)) (pa_cons (pe_callO o_law_integer hr (by decide) (pa_cons (pv 1) pa_nil)) pa_nil))))
      (pss_cons (ps_if (pt_cmpR (op_eqD hr.units) (pe_ix ix_seq (pv 8) pe_int (fun _ _ => rfl)) pe_int (nomark _)) (pss_one (ps_asg (pe_op op_sub (pe_un un_neg pe_int) (pv 5)) (pg_sub (pv 8) pe_int set_list))) pss_nil)
      (pss_cons (ps_set (i := 7) sc_law.nd rfl (by first | exact Or.inl rfl | exact Or.inr rfl) (pe_callX o_ratio hr (by decide) takes0 (pa_cons (pe_ix ix_seq (pv 8) pe_int (fun _ _ => rfl)) (pa_cons (pe_ix ix_seq (pv 8) pe_int (fun _ _ => rfl)) pa_nil))))
      (pss_cons (ps_if (PW.pt (pw_or (pt_not (pt_val (pe_callO o_law_in_terms hr (by decide) (pa_cons (pv 7) (pa_cons (pe_ix ix_seq (pv 8) pe_int (fun _ _ => rfl)) (pa_cons (pe_ix ix_seq (pv 8) pe_int (fun _ _ => rfl)) pa_nil)))))) (pw_or1 (pt_not (pt_val (pe_callO o_law_in_terms hr (by decide) (pa_cons (pe_callXD od_ratio hr (by decide) takes0 (pa_cons (pe_ix ix_seq (pv 8) pe_int (fun _ _ => rfl)) pa_nil)) (pa_cons (pe_ix ix_seq (pv 8) pe_int (fun _ _ => rfl)) (pa_cons pe_int pa_nil))))))))) (pss_one (ps_ret pe_bl)) pss_nil)
      (pss_cons (ps_if (PW.pt (pw_or (pt_cmpR (op_neD hr.units) (pe_callXK ob_ratio hr (by decide) takes0 (pk_cons (pe_ix ix_seq (pv 8) pe_int (fun _ _ => rfl)) (pk_cons (pe_ix ix_seq (pv 8) pe_int (fun _ _ => rfl)) pk_nil))) (pv 7) (nomark _)) (pw_or1 (pt_not (pt_val (pe_callO o_law_refused hr (by decide) (pa_cons (pe_ix ix_seq (pv 8) pe_int (fun _ _ => rfl)) pa_nil))))))) (pss_one (ps_ret pe_bl)) pss_nil)
      (pss_cons (ps_expr (pe_bm PySem.F.plainAttrs_list PySem.F.slot_list_append PySem.F.type_list_append mt_append (pv 2) (pa_cons (pv 7) pa_nil)))
      (pss_cons (ps_set (i := 3) sc_law.nd rfl (by first | exact Or.inl rfl | exact Or.inr rfl) (pe_op op_addG (pe_op op_mulW (pv 3) (pe_ix ix_seq (pv 8) pe_int (fun _ _ => rfl))) (pe_op op_mulW (pv 4) (pe_ix ix_seq (pv 8) pe_int (fun _ _ => rfl)))))
      (pss_one (ps_set (i := 4) sc_law.nd rfl (by first | exact Or.inl rfl | exact Or.inr rfl) (pe_op op_mulW (pv 4) (pe_ix ix_seq (pv 8) pe_int (fun _ _ => rfl)))))))))))))
      (pss_cons (ps_set (i := 6) sc_law.nd rfl (by first | exact Or.inl rfl | exact Or.inr rfl) (pe_callTy call_list_of (by rfl) g_list (by decide +kernel) (pa_cons (pv 2) pa_nil)))
      (pss_cons (ps_for PassesOwn.never rfl (pi_seq (pv 2)) (pg_name (i := 7) sc_law.nd rfl (by first | exact Or.inl rfl | exact Or.inr rfl)) (pss_one (ps_for PassesOwn.never rfl (pi_seq (pe_op op_addG (pv 2) (pe_lst (pa_cons (pe_tup (pa_cons pe_int (pa_cons pe_int pa_nil))) pa_nil)))) (pg_name (i := 9) sc_law.nd rfl (by first | exact Or.inl rfl | exact Or.inr rfl)) (pss_one (ps_if (pt_not (pt_val (pe_callO o_law_two_right hr (by decide) (pa_cons (pv 7) (pa_cons (pv 9) pa_nil))))) (pss_one (ps_ret pe_bl)) pss_nil)))))
      (pss_cons (ps_if (PW.pt (pw_or (pt_not (pt_val (pe_callO o_law_in_terms hr (by decide) (pa_cons (pe_callO o_total hr (by decide) (pa_cons (pv 6) pa_nil)) (pa_cons (pv 3) (pa_cons (pv 4) pa_nil)))))) (pw_or1 (pt_cmpR (op_neD hr.units) (pe_callO o_total hr (by decide) (pa_cons (pe_callTy call_tuple_of (by rfl) g_tuple (by decide +kernel) (pa_cons (pv 2) pa_nil)) pa_nil)) (pe_callO o_total hr (by decide) (pa_cons (pv 6) pa_nil)) (nomark _))))) (pss_one (ps_ret pe_bl)) pss_nil)
      (pss_one (ps_ret (pe_and (pe_cmpR (op_eqD hr.units) (pv 6) (pv 2) (nomark _)) (pe_one (pe_cmpR (op_eqD hr.units) (pe_callO o_total hr (by decide) (pa_cons (pe_lst pa_nil) pa_nil)) (pe_tup (pa_cons pe_int (pa_cons pe_int pa_nil))) (nomark _))))))))))))),
      (sim_seq (sim_asgO (sim_lstO sim_nil))
      (sim_seq (sim_asg sim_int sim_gn)
      (sim_seq (sim_asg sim_int sim_gn)
      (sim_seq (sim_for (sim_rng1 (sim_cons (sim_op sr_add sim_int (sim_call0 (sim_cons sim_var (sim_cons sim_int sim_nil)))) sim_nil)) sim_gn (sim_seq (sim_asgO (sim_lstO (sim_cons (sim_call0 (sim_cons sim_var sim_nil)) (sim_cons (sim_call0 (sim_cons sim_var sim_nil)) sim_nil))))
      (sim_seq (sim_ifS (sim_tmpT (i := 8) (sim_test (sim_op sr_eq (sim_op sr_ix sim_var sim_int) sim_int))) (sim_setI sim_int (sim_op sr_I0 (sim_un sr_U sim_int) sim_var)) sim_next)
      (sim_seq (sim_asg (sim_callX (sim_cons (sim_ixO sim_int) (sim_cons (sim_ixO sim_int) sim_nil))) sim_gn)
      (sim_seq (sim_ifS (sim_tmpT (i := 8) (sim_or (sim_not (sim_testB (sim_call0 (sim_cons sim_var (sim_cons (sim_op sr_ix sim_var sim_int) (sim_cons (sim_op sr_ix sim_var sim_int) sim_nil)))))) (sim_not (sim_testB (sim_call0 (sim_cons (sim_callD (sim_cons (sim_op sr_ix sim_var sim_int) sim_nil)) (sim_cons (sim_op sr_ix sim_var sim_int) (sim_cons sim_int sim_nil)))))))) (sim_ret sim_bl) sim_next)
      (sim_seq (sim_ifS (sim_tmpT (i := 8) (sim_or (sim_test (sim_op sr_ne (sim_callB (sim_cons (sim_op sr_ix sim_var sim_int) (sim_cons (sim_op sr_ix sim_var sim_int) sim_nil))) sim_var)) (sim_not (sim_testB (sim_call0 (sim_cons (sim_op sr_ix sim_var sim_int) sim_nil)))))) (sim_ret sim_bl) sim_next)
      (sim_seq (sim_app sim_var)
      (sim_seq (sim_asg (sim_op sr_add (sim_op sr_I sim_var (sim_ixO sim_int)) (sim_op sr_I sim_var (sim_ixO sim_int))) sim_gn)
      (sim_asg (sim_op sr_I sim_var (sim_ixO sim_int)) sim_gn)))))))))
      (sim_seq (sim_freeze (i := 2) (sim_asg (sim_cb srl_list (sim_cons sim_var sim_nil)) sim_gn))
      (sim_seq (sim_for (sim_itS sim_var) sim_gn (sim_for (sim_itS (sim_op sr_add sim_var (sim_frz (sim_lstO (sim_cons (sim_tup (sim_cons sim_int (sim_cons sim_int sim_nil))) sim_nil))))) sim_gn (sim_ifS (sim_not (sim_testB (sim_call0 (sim_cons sim_var (sim_cons sim_var sim_nil))))) (sim_ret sim_bl) sim_next)))
      (sim_seq (sim_ifS (sim_or (sim_not (sim_testB (sim_call0 (sim_cons (sim_call0 (sim_cons sim_var sim_nil)) (sim_cons sim_var (sim_cons sim_var sim_nil)))))) (sim_test (sim_op sr_ne (sim_call0 (sim_cons (sim_cb srl_tuple (sim_cons sim_var sim_nil)) sim_nil)) (sim_call0 (sim_cons sim_var sim_nil))))) (sim_ret sim_bl) sim_next)
      (sim_ret (sim_andV (sim_op sr_eq sim_var sim_var) (sim_op sr_eq (sim_call0 (sim_cons (sim_frz (sim_lstO sim_nil)) sim_nil)) (sim_tup (sim_cons sim_int (sim_cons sim_int sim_nil)))))))))))))⟩) d_law
end
theorem all_mk {l : PySem.W.OpenLaw} {w : World} {K : PySem.W.Frag} {h : Heap} {mg : Str → Option Value} {fa : Addr} (X : K.In h) (G : h.Ns mainGlobals mg) (hfa : mg "law" = some (.ref fa))
    {f0 : Addr} {od0 an0 : Option Addr} {sl0 : Array (Option Value)} {oc0 kV0 dc0 pm0 cd0 ct0 : Value}
    {T0 : Addr} {tc0 : Value} {to0 : Option Addr} {tn0 : Nat} {tt0 : Tok} {ts0 : Array (Option Value)}
    {f1 : Addr} {od1 an1 : Option Addr} {sl1 : Array (Option Value)} {oc1 kV1 dc1 pm1 cd1 ct1 : Value}
    {f2 : Addr} {od2 an2 : Option Addr} {sl2 : Array (Option Value)} {oc2 kV2 dc2 pm2 cd2 ct2 : Value}
    {f3 : Addr} {od3 an3 : Option Addr} {sl3 : Array (Option Value)} {oc3 kV3 dc3 pm3 cd3 ct3 : Value}
    {f4 : Addr} {od4 an4 : Option Addr} {sl4 : Array (Option Value)} {oc4 kV4 dc4 pm4 cd4 ct4 : Value}
    {f5 : Addr} {od5 an5 : Option Addr} {sl5 : Array (Option Value)} {oc5 kV5 dc5 pm5 cd5 ct5 : Value}
    {f6 : Addr} {od6 an6 : Option Addr} {sl6 : Array (Option Value)} {oc6 kV6 dc6 pm6 cd6 ct6 : Value}
    {f7 : Addr} {od7 an7 : Option Addr} {sl7 : Array (Option Value)} {oc7 kV7 dc7 pm7 cd7 ct7 : Value}
    {f8 : Addr} {od8 an8 : Option Addr} {sl8 : Array (Option Value)} {oc8 kV8 dc8 pm8 cd8 ct8 : Value}
    {f9 : Addr} {od9 an9 : Option Addr} {sl9 : Array (Option Value)} {oc9 kV9 dc9 pm9 cd9 ct9 : Value}
    {f10 : Addr} {od10 an10 : Option Addr} {sl10 : Array (Option Value)} {oc10 kV10 dc10 pm10 cd10 ct10 : Value}
    {f11 : Addr} {od11 an11 : Option Addr} {sl11 : Array (Option Value)} {oc11 kV11 dc11 pm11 cd11 ct11 : Value}
    {f12 : Addr} {od12 an12 : Option Addr} {sl12 : Array (Option Value)} {oc12 kV12 dc12 pm12 cd12 ct12 : Value}
    {f13 : Addr} {od13 an13 : Option Addr} {sl13 : Array (Option Value)} {oc13 kV13 dc13 pm13 cd13 ct13 : Value}
    {f14 : Addr} {od14 an14 : Option Addr} {sl14 : Array (Option Value)} {oc14 kV14 dc14 pm14 cd14 ct14 : Value}
    {f15 : Addr} {od15 an15 : Option Addr} {sl15 : Array (Option Value)} {oc15 kV15 dc15 pm15 cd15 ct15 : Value}
    {f16 : Addr} {od16 an16 : Option Addr} {sl16 : Array (Option Value)} {oc16 kV16 dc16 pm16 cd16 ct16 : Value}
    {f17 : Addr} {od17 an17 : Option Addr} {sl17 : Array (Option Value)} {oc17 kV17 dc17 pm17 cd17 ct17 : Value}
    {C0 fI0 N0 : Addr} {nm0 q0 : Str} {bs0 bm0 sub0 : List Value} {sn0 : List Str} {ab0 : Bool} {col0 : Option Bool} {dd0 : Option Addr} {xa0 xb0 xc0 xd0 xe0 : Option Value} {iod0 ian0 : Option Addr} {isl0 : Array (Option Value)} {ioc0 ikV0 idc0 ipm0 icd0 ict0 : Value}
    (a0 : PySem.W.nsIn K mainGlobals "ratio" = some (some (.ref f0))) (l0 : K.lookup f0 = some ⟨oc0, od0, .func (PySem.W.fnOf "ratio" "ratio" (defArgs s_ratio) (defBody s_ratio) (defScope s_ratio) (.ref T0) kV0 dc0 pm0 an0 cd0 ct0), sl0⟩) (c0 : PySem.W.codeIn K cd0 "ratio" = true) (k0 : PySem.W.keepIn K (.ref f0) = true)
    (d0 : K.lookup T0 = some ⟨tc0, to0, .seq #[.int 1 tt0] tn0, ts0⟩)
    (a1 : PySem.W.nsIn K mainGlobals "plus" = some (some (.ref f1))) (l1 : K.lookup f1 = some ⟨oc1, od1, .func (PySem.W.fnOf "plus" "plus" (defArgs s_plus) (defBody s_plus) (defScope s_plus) .none kV1 dc1 pm1 an1 cd1 ct1), sl1⟩) (c1 : PySem.W.codeIn K cd1 "plus" = true) (k1 : PySem.W.keepIn K (.ref f1) = true)
    (a2 : PySem.W.nsIn K mainGlobals "minus" = some (some (.ref f2))) (l2 : K.lookup f2 = some ⟨oc2, od2, .func (PySem.W.fnOf "minus" "minus" (defArgs s_minus) (defBody s_minus) (defScope s_minus) .none kV2 dc2 pm2 an2 cd2 ct2), sl2⟩) (c2 : PySem.W.codeIn K cd2 "minus" = true) (k2 : PySem.W.keepIn K (.ref f2) = true)
    (a3 : PySem.W.nsIn K mainGlobals "times" = some (some (.ref f3))) (l3 : K.lookup f3 = some ⟨oc3, od3, .func (PySem.W.fnOf "times" "times" (defArgs s_times) (defBody s_times) (defScope s_times) .none kV3 dc3 pm3 an3 cd3 ct3), sl3⟩) (c3 : PySem.W.codeIn K cd3 "times" = true) (k3 : PySem.W.keepIn K (.ref f3) = true)
    (a4 : PySem.W.nsIn K mainGlobals "over" = some (some (.ref f4))) (l4 : K.lookup f4 = some ⟨oc4, od4, .func (PySem.W.fnOf "over" "over" (defArgs s_over) (defBody s_over) (defScope s_over) .none kV4 dc4 pm4 an4 cd4 ct4), sl4⟩) (c4 : PySem.W.codeIn K cd4 "over" = true) (k4 : PySem.W.keepIn K (.ref f4) = true)
    (a5 : PySem.W.nsIn K mainGlobals "compare" = some (some (.ref f5))) (l5 : K.lookup f5 = some ⟨oc5, od5, .func (PySem.W.fnOf "compare" "compare" (defArgs s_compare) (defBody s_compare) (defScope s_compare) .none kV5 dc5 pm5 an5 cd5 ct5), sl5⟩) (c5 : PySem.W.codeIn K cd5 "compare" = true) (k5 : PySem.W.keepIn K (.ref f5) = true)
    (a6 : PySem.W.nsIn K mainGlobals "total" = some (some (.ref f6))) (l6 : K.lookup f6 = some ⟨oc6, od6, .func (PySem.W.fnOf "total" "total" (defArgs s_total) (defBody s_total) (defScope s_total) .none kV6 dc6 pm6 an6 cd6 ct6), sl6⟩) (c6 : PySem.W.codeIn K cd6 "total" = true) (k6 : PySem.W.keepIn K (.ref f6) = true)
    (a7 : PySem.W.nsIn K mainGlobals "_law_pool" = some (some (.ref f7))) (l7 : K.lookup f7 = some ⟨oc7, od7, .func (PySem.W.fnOf "_law_pool" "_law_pool" (defArgs s_law_pool) (defBody s_law_pool) (defScope s_law_pool) .none kV7 dc7 pm7 an7 cd7 ct7), sl7⟩) (c7 : PySem.W.codeIn K cd7 "_law_pool" = true) (k7 : PySem.W.keepIn K (.ref f7) = true)
    (a8 : PySem.W.nsIn K mainGlobals "_law_take" = some (some (.ref f8))) (l8 : K.lookup f8 = some ⟨oc8, od8, .func (PySem.W.fnOf "_law_take" "_law_take" (defArgs s_law_take) (defBody s_law_take) (defScope s_law_take) .none kV8 dc8 pm8 an8 cd8 ct8), sl8⟩) (c8 : PySem.W.codeIn K cd8 "_law_take" = true) (k8 : PySem.W.keepIn K (.ref f8) = true)
    (a9 : PySem.W.nsIn K mainGlobals "_law_is_number" = some (some (.ref f9))) (l9 : K.lookup f9 = some ⟨oc9, od9, .func (PySem.W.fnOf "_law_is_number" "_law_is_number" (defArgs s_law_is_number) (defBody s_law_is_number) (defScope s_law_is_number) .none kV9 dc9 pm9 an9 cd9 ct9), sl9⟩) (c9 : PySem.W.codeIn K cd9 "_law_is_number" = true) (k9 : PySem.W.keepIn K (.ref f9) = true)
    (a10 : PySem.W.nsIn K mainGlobals "_law_divisor" = some (some (.ref f10))) (l10 : K.lookup f10 = some ⟨oc10, od10, .func (PySem.W.fnOf "_law_divisor" "_law_divisor" (defArgs s_law_divisor) (defBody s_law_divisor) (defScope s_law_divisor) .none kV10 dc10 pm10 an10 cd10 ct10), sl10⟩) (c10 : PySem.W.codeIn K cd10 "_law_divisor" = true) (k10 : PySem.W.keepIn K (.ref f10) = true)
    (a11 : PySem.W.nsIn K mainGlobals "_law_ratio" = some (some (.ref f11))) (l11 : K.lookup f11 = some ⟨oc11, od11, .func (PySem.W.fnOf "_law_ratio" "_law_ratio" (defArgs s_law_ratio) (defBody s_law_ratio) (defScope s_law_ratio) .none kV11 dc11 pm11 an11 cd11 ct11), sl11⟩) (c11 : PySem.W.codeIn K cd11 "_law_ratio" = true) (k11 : PySem.W.keepIn K (.ref f11) = true)
    (a12 : PySem.W.nsIn K mainGlobals "_law_integer" = some (some (.ref f12))) (l12 : K.lookup f12 = some ⟨oc12, od12, .func (PySem.W.fnOf "_law_integer" "_law_integer" (defArgs s_law_integer) (defBody s_law_integer) (defScope s_law_integer) .none kV12 dc12 pm12 an12 cd12 ct12), sl12⟩) (c12 : PySem.W.codeIn K cd12 "_law_integer" = true) (k12 : PySem.W.keepIn K (.ref f12) = true)
    (a13 : PySem.W.nsIn K mainGlobals "_law_refused" = some (some (.ref f13))) (l13 : K.lookup f13 = some ⟨oc13, od13, .func (PySem.W.fnOf "_law_refused" "_law_refused" (defArgs s_law_refused) (defBody s_law_refused) (defScope s_law_refused) .none kV13 dc13 pm13 an13 cd13 ct13), sl13⟩) (c13 : PySem.W.codeIn K cd13 "_law_refused" = true) (k13 : PySem.W.keepIn K (.ref f13) = true)
    (a14 : PySem.W.nsIn K mainGlobals "_law_over" = some (some (.ref f14))) (l14 : K.lookup f14 = some ⟨oc14, od14, .func (PySem.W.fnOf "_law_over" "_law_over" (defArgs s_law_over) (defBody s_law_over) (defScope s_law_over) .none kV14 dc14 pm14 an14 cd14 ct14), sl14⟩) (c14 : PySem.W.codeIn K cd14 "_law_over" = true) (k14 : PySem.W.keepIn K (.ref f14) = true)
    (a15 : PySem.W.nsIn K mainGlobals "_law_in_terms" = some (some (.ref f15))) (l15 : K.lookup f15 = some ⟨oc15, od15, .func (PySem.W.fnOf "_law_in_terms" "_law_in_terms" (defArgs s_law_in_terms) (defBody s_law_in_terms) (defScope s_law_in_terms) .none kV15 dc15 pm15 an15 cd15 ct15), sl15⟩) (c15 : PySem.W.codeIn K cd15 "_law_in_terms" = true) (k15 : PySem.W.keepIn K (.ref f15) = true)
    (a16 : PySem.W.nsIn K mainGlobals "_law_two_right" = some (some (.ref f16))) (l16 : K.lookup f16 = some ⟨oc16, od16, .func (PySem.W.fnOf "_law_two_right" "_law_two_right" (defArgs s_law_two_right) (defBody s_law_two_right) (defScope s_law_two_right) .none kV16 dc16 pm16 an16 cd16 ct16), sl16⟩) (c16 : PySem.W.codeIn K cd16 "_law_two_right" = true) (k16 : PySem.W.keepIn K (.ref f16) = true)
    (a17 : PySem.W.nsIn K mainGlobals "law" = some (some (.ref f17))) (l17 : K.lookup f17 = some ⟨oc17, od17, .func (PySem.W.fnOf "law" "law" (defArgs s_law) (defBody s_law) (defScope s_law) .none kV17 dc17 pm17 an17 cd17 ct17), sl17⟩) (c17 : PySem.W.codeIn K cd17 "law" = true) (k17 : PySem.W.keepIn K (.ref f17) = true)
    (ea0 : PySem.W.nsIn K mainGlobals "BadRatio" = some (some (.ref C0))) (eb0 : K.lookup C0 = some (excClassObj nm0 q0 C0 N0 bs0 bm0 true sn0 sub0 ab0 col0 dd0 xa0 xb0 xc0 xd0 xe0 "ValueError.__new__")) (ec0 : PySem.HandSPX.refsVE bm0 = true) (ed0 : PySem.W.findIn K (.ref C0) "__setattr__" = some (some (.builtin "object.__setattr__"))) (ee0 : PySem.W.subIn K (.ref C0) (.type "BaseException") = some true) (ef0 : PySem.W.typeIn K (.ref C0) = some (.type "type")) (eg0 : PySem.W.keepIn K (.ref C0) = true) (eh0 : PySem.W.findIn K (.ref C0) "__getattribute__" = some (some (.builtin "BaseException.__getattribute__"))) (ei0 : PySem.W.findIn K (.ref C0) "__getattr__" = some none) (ej0 : PySem.W.hasDictIn K C0 = true) (ek0 : PySem.W.findIn K (.ref C0) "bottom" = some none) (el0 : PySem.W.findIn K (.ref C0) "__init__" = some (some (.ref fI0))) (em0 : PySem.W.typeIn K (.ref fI0) = some (.type "function")) (en0 : K.lookup fI0 = some ⟨ioc0, iod0, .func (PySem.W.fnOf "__init__" "BadRatio.__init__" (defArgs s_init_BadRatio) (defBody s_init_BadRatio) (defScope s_init_BadRatio) .none ikV0 idc0 ipm0 ian0 icd0 ict0), isl0⟩) (eo0 : PySem.W.codeIn K icd0 "BadRatio.__init__" = true) (ep0 : PySem.W.keepIn K (.ref fI0) = true)
    (es0_0 : PySem.W.subIn K (.ref C0) (.ref C0) = some true)
    (z_gcd : PySem.W.nsIn K mainGlobals "gcd" = some (some (.builtin "math.gcd"))) (z_list : PySem.W.nsIn K mainGlobals "list" = some none) (z_int : PySem.W.nsIn K mainGlobals "int" = some none) (z_max : PySem.W.nsIn K mainGlobals "max" = some none) (z_len : PySem.W.nsIn K mainGlobals "len" = some none) (z_isinstance : PySem.W.nsIn K mainGlobals "isinstance" = some none) (z_bool : PySem.W.nsIn K mainGlobals "bool" = some none) (z_abs : PySem.W.nsIn K mainGlobals "abs" = some none) (z_tuple : PySem.W.nsIn K mainGlobals "tuple" = some none) (z_range : PySem.W.nsIn K mainGlobals "range" = some none) :
    ∃ fd : FuncData, (∀ (s : Shared) (v : Value), BindsTo s fd ⟨[v], []⟩ [("_law_script", v)]) ∧ ∀ base : Heap, K.In base → base.Ns mainGlobals mg → FnOk l.prog w K mg base CX0 7 fa fd ["_law_script"] (spLaw K) := by
  have e := hfa.symm.trans (PySem.W.mg_of X G a17)
  cases e
  have g_gcd := PySem.W.mg_of X G z_gcd
  have g_list := PySem.W.mg_none_of X G z_list
  have g_int := PySem.W.mg_none_of X G z_int
  have g_max := PySem.W.mg_none_of X G z_max
  have g_len := PySem.W.mg_none_of X G z_len
  have g_isinstance := PySem.W.mg_none_of X G z_isinstance
  have g_bool := PySem.W.mg_none_of X G z_bool
  have g_abs := PySem.W.mg_none_of X G z_abs
  have g_tuple := PySem.W.mg_none_of X G z_tuple
  have g_range := PySem.W.mg_none_of X G z_range
  have F0 : FunD K "ratio" "ratio" (defArgs s_ratio) (defBody s_ratio) (defScope s_ratio) [.int 1] [] f0 _ := ⟨⟨_, _, .ref T0, _, _, _, _, _, _, _, rfl, l0, c0, .inr ⟨by simp, T0, _, [.int 1 tt0], tn0, rfl, d0, rfl, .cons (by first | exact rfl | exact ⟨_, rfl⟩) .nil⟩, .inl rfl⟩, k0⟩
  have F1 := fun_mk (st := s_plus) l1 c1 k1
  have b1 := F1.binds (ps := ["one", "other"]) fun _ _ _ _ _ _ us hl => match us, hl with | [_, _], _ => rfl
  have F2 := fun_mk (st := s_minus) l2 c2 k2
  have b2 := F2.binds (ps := ["one", "other"]) fun _ _ _ _ _ _ us hl => match us, hl with | [_, _], _ => rfl
  have F3 := fun_mk (st := s_times) l3 c3 k3
  have b3 := F3.binds (ps := ["one", "other"]) fun _ _ _ _ _ _ us hl => match us, hl with | [_, _], _ => rfl
  have F4 := fun_mk (st := s_over) l4 c4 k4
  have b4 := F4.binds (ps := ["one", "other"]) fun _ _ _ _ _ _ us hl => match us, hl with | [_, _], _ => rfl
  have F5 := fun_mk (st := s_compare) l5 c5 k5
  have b5 := F5.binds (ps := ["one", "other"]) fun _ _ _ _ _ _ us hl => match us, hl with | [_, _], _ => rfl
  have F6 := fun_mk (st := s_total) l6 c6 k6
  have b6 := F6.binds (ps := ["ratios"]) fun _ _ _ _ _ _ us hl => match us, hl with | [_], _ => rfl
  have F7 := fun_mk (st := s_law_pool) l7 c7 k7
  have b7 := F7.binds (ps := ["_law_script"]) fun _ _ _ _ _ _ us hl => match us, hl with | [_], _ => rfl
  have F8 := fun_mk (st := s_law_take) l8 c8 k8
  have b8 := F8.binds (ps := ["_law_pool_here", "_law_many"]) fun _ _ _ _ _ _ us hl => match us, hl with | [_, _], _ => rfl
  have F9 := fun_mk (st := s_law_is_number) l9 c9 k9
  have b9 := F9.binds (ps := ["_law_thing"]) fun _ _ _ _ _ _ us hl => match us, hl with | [_], _ => rfl
  have F10 := fun_mk (st := s_law_divisor) l10 c10 k10
  have b10 := F10.binds (ps := ["_law_numbers"]) fun _ _ _ _ _ _ us hl => match us, hl with | [_], _ => rfl
  have F11 := fun_mk (st := s_law_ratio) l11 c11 k11
  have b11 := F11.binds (ps := ["_law_up", "_law_down"]) fun _ _ _ _ _ _ us hl => match us, hl with | [_, _], _ => rfl
  have F12 := fun_mk (st := s_law_integer) l12 c12 k12
  have b12 := F12.binds (ps := ["_law_pool_here"]) fun _ _ _ _ _ _ us hl => match us, hl with | [_], _ => rfl
  have F13 := fun_mk (st := s_law_refused) l13 c13 k13
  have b13 := F13.binds (ps := ["_law_up"]) fun _ _ _ _ _ _ us hl => match us, hl with | [_], _ => rfl
  have F14 := fun_mk (st := s_law_over) l14 c14 k14
  have b14 := F14.binds (ps := ["_law_one", "_law_other"]) fun _ _ _ _ _ _ us hl => match us, hl with | [_, _], _ => rfl
  have F15 := fun_mk (st := s_law_in_terms) l15 c15 k15
  have b15 := F15.binds (ps := ["_law_one", "_law_up", "_law_down"]) fun _ _ _ _ _ _ us hl => match us, hl with | [_, _, _], _ => rfl
  have F16 := fun_mk (st := s_law_two_right) l16 c16 k16
  have b16 := F16.binds (ps := ["_law_one", "_law_other"]) fun _ _ _ _ _ _ us hl => match us, hl with | [_, _], _ => rfl
  have F17 := fun_mk (st := s_law) l17 c17 k17
  have T_BadRatio : OexC K C0 := ⟨⟨_, _, _, _, _, _, _, _, _, _, _, _, _, _, _, eb0, ec0⟩, ed0, ee0, ef0, eg0⟩
  have t_BadRatio : XfC K C0 := ⟨eh0, ei0, ee0, ej0⟩
  have m_BadRatio : mg "BadRatio" = some (.ref C0) := PySem.W.mg_of X G ea0
  have n_BadRatio := ek0
  have I_BadRatio := fun_mk (st := s_init_BadRatio) en0 eo0 ep0
  have bI_BadRatio := I_BadRatio.binds (ps := ["self", "bottom"]) fun _ _ _ _ _ _ us hl => match us, hl with | [_, _], _ => rfl
  have tabOk : Tab.Ok ⟨K, mg⟩ tab := tab_of fun e he => by
    simp only [tab, List.mem_cons, List.not_mem_nil, or_false] at he
    rcases he with rfl
    · exact ⟨_, _, m_BadRatio, m_BadRatio, PySem.W.exm_ref ee0 ej0 ef0 es0_0⟩
  refine ⟨PySem.W.fnOf "law" "law" (defArgs s_law) (defBody s_law) (defScope s_law) .none kV17 dc17 pm17 an17 cd17 ct17, fun s v => .of_eq rfl, fun base _ _ => ?_⟩
  have e_BadRatio : OkErr l.prog w K mg base "BadRatio" "bottom" := okErr m_BadRatio T_BadRatio n_BadRatio el0 em0 I_BadRatio sc_init_BadRatio bI_BadRatio (by decide) (by decide) (fun _ _ => ⟨Or.inl rfl, Or.inl rfl⟩) rfl
  have o_law_pool := ok_law_pool (P := l.prog) (w := w) (base := base) F7 (PySem.W.mg_of X G a7) b7 g_list
  have o_law_take := ok_law_take (P := l.prog) (w := w) (base := base) F8 (PySem.W.mg_of X G a8) b8 g_int g_max g_len
  have o_law_is_number := ok_law_is_number (P := l.prog) (w := w) (base := base) F9 (PySem.W.mg_of X G a9) b9 g_isinstance g_int g_bool
  have oc_law_is_number := oc_law_is_number (P := l.prog) (w := w) (base := base) F9 (PySem.W.mg_of X G a9) b9 g_isinstance g_int g_bool
  have o_law_divisor := ok_law_divisor (P := l.prog) (w := w) (base := base) F10 (PySem.W.mg_of X G a10) b10 g_abs g_int
  have o_law_ratio := ok_law_ratio (P := l.prog) (w := w) (base := base) F11 (PySem.W.mg_of X G a11) b11 o_law_divisor
  have o_law_integer := ok_law_integer (P := l.prog) (w := w) (base := base) F12 (PySem.W.mg_of X G a12) b12 o_law_take
  have oo_ratio := ok_ratio (P := l.prog) (w := w) (base := base) F0 e_BadRatio g_gcd
  obtain ⟨o_ratio, od_ratio, ob_ratio⟩ := packD F0 (PySem.W.mg_of X G a0) oo_ratio (fun _ _ _ _ _ _ _ us its l1 l2 => match us, its, l1, l2 with | [_, _], [_], _, _ => ⟨_, rfl, rfl⟩) (fun _ _ _ _ _ _ _ us its l1 l2 => match us, its, l1, l2 with | [_], [_], _, _ => ⟨_, rfl, rfl⟩) (fun _ _ _ _ _ _ _ _ _ _ => ⟨_, rfl, rfl⟩)
  have o_law_in_terms := ok_law_in_terms (P := l.prog) (w := w) (base := base) F15 (PySem.W.mg_of X G a15) b15 g_isinstance g_tuple g_len o_law_is_number o_law_ratio
  have o_plus := ok_plus (P := l.prog) (w := w) (base := base) F1 (PySem.W.mg_of X G a1) b1 o_ratio
  have o_minus := ok_minus (P := l.prog) (w := w) (base := base) F2 (PySem.W.mg_of X G a2) b2 o_ratio
  have o_times := ok_times (P := l.prog) (w := w) (base := base) F3 (PySem.W.mg_of X G a3) b3 o_ratio
  have o_over := ok_over (P := l.prog) (w := w) (base := base) F4 (PySem.W.mg_of X G a4) b4 o_ratio
  have o_law_refused := ok_law_refused (P := l.prog) (w := w) (base := base) F13 (PySem.W.mg_of X G a13) b13 o_ratio oc_law_is_number m_BadRatio t_BadRatio n_BadRatio tabOk
  have o_compare := ok_compare (P := l.prog) (w := w) (base := base) F5 (PySem.W.mg_of X G a5) b5 o_minus
  have o_total := ok_total (P := l.prog) (w := w) (base := base) F6 (PySem.W.mg_of X G a6) b6 o_plus
  have o_law_over := ok_law_over (P := l.prog) (w := w) (base := base) F14 (PySem.W.mg_of X G a14) b14 o_over m_BadRatio t_BadRatio n_BadRatio tabOk
  have o_law_two_right := ok_law_two_right (P := l.prog) (w := w) (base := base) F16 (PySem.W.mg_of X G a16) b16 o_law_in_terms o_plus o_minus o_times o_law_over o_over o_compare o_law_is_number g_int
  exact ok_law F17 o_law_pool g_range o_law_take o_law_integer o_ratio o_law_in_terms od_ratio ob_ratio o_law_refused g_list o_law_two_right o_total g_tuple
theorem walk {l : PySem.W.OpenLaw} {q : Program} {loose : List Str} {XP : (Str → Option Value) → Heap → Prop} {YP : World → Heap → Prop} {d : DefRec} {K : Params → PySem.W.Frag} (hn : l.most = some 63) (hdf : d.params.defaults = [])
    (hY : ∀ (w : World) (h : Heap), YP w h → (K w.params).In h)
    (F : ∀ (w : World) (mg : Str → Option Value) (fa : Addr) (h : Heap), (K w.params).In h → h.Ns mainGlobals mg → mg d.name = some (.ref fa) →
      ∃ fd : FuncData, (∀ (s : Shared) (u : Value), BindsTo s fd ⟨[u], []⟩ [("_law_script", u)]) ∧ ∀ base : Heap, (K w.params).In base → base.Ns mainGlobals mg → FnOk l.prog w (K w.params) mg base CX0 7 fa fd ["_law_script"] (spLaw (K w.params))) :
    PySem.W.WalkO q loose XP YP l.row.toRowW d [] (fun f vs => PySem.call f vs) :=
  L2.walk_of (n := 63) (k := 7) (x := "_law_script") (CX := fun _ => CX0) (sp := fun w => spLaw (K w.params)) hn (by decide) hdf ⟨rfl, by decide, by decide⟩ hY F (fun _ _ a ns hl _ hS => ⟨a, ns, rfl, hS, hl, fun _ => rfl⟩) fun _ _ _ _ _ z => z
end Lw
open PySem PySem.W PyProof.Rows
set_option maxRecDepth 100000 in
set_option maxHeartbeats 0 in
theorem PySem.Challenge.cw_everydecider_k11_ratios_holds : PySem.Challenge.rw_everydecider_k11_ratios.Holds := by
  w_on; o_law; k_head; (case hw => w_witness2)
  k_fill
  refine Lw.walk (l := PySem.Challenge.rw_everydecider_k11_ratios) rfl rfl (fun w h Y => PySem.W.kIn_of Y) ?F
  case F =>
    intro w mg fa h KX G hmg
    refine' Lw.all_mk KX G hmg ?a0 ?l0 ?c0 ?k0 ?d0 ?a1 ?l1 ?c1 ?k1 ?a2 ?l2 ?c2 ?k2 ?a3 ?l3 ?c3 ?k3 ?a4 ?l4 ?c4 ?k4 ?a5 ?l5 ?c5 ?k5 ?a6 ?l6 ?c6 ?k6 ?a7 ?l7 ?c7 ?k7 ?a8 ?l8 ?c8 ?k8 ?a9 ?l9 ?c9 ?k9 ?a10 ?l10 ?c10 ?k10 ?a11 ?l11 ?c11 ?k11 ?a12 ?l12 ?c12 ?k12 ?a13 ?l13 ?c13 ?k13 ?a14 ?l14 ?c14 ?k14 ?a15 ?l15 ?c15 ?k15 ?a16 ?l16 ?c16 ?k16 ?a17 ?l17 ?c17 ?k17 ?ea0 ?eb0 ?ec0 ?ed0 ?ee0 ?ef0 ?eg0 ?eh0 ?ei0 ?ej0 ?ek0 ?el0 ?em0 ?en0 ?eo0 ?ep0 ?es0_0 ?z_gcd ?z_list ?z_int ?z_max ?z_len ?z_isinstance ?z_bool ?z_abs ?z_tuple ?z_range
    (case a0 => k_is)
    (case l0 => k_is)
    (case c0 => k_is)
    (case k0 => k_is)
    (case d0 => k_is)
    (case a1 => k_is)
    (case l1 => k_is)
    (case c1 => k_is)
    (case k1 => k_is)
    (case a2 => k_is)
    (case l2 => k_is)
    (case c2 => k_is)
    (case k2 => k_is)
    (case a3 => k_is)
    (case l3 => k_is)
    (case c3 => k_is)
    (case k3 => k_is)
    (case a4 => k_is)
    (case l4 => k_is)
    (case c4 => k_is)
    (case k4 => k_is)
    (case a5 => k_is)
    (case l5 => k_is)
    (case c5 => k_is)
    (case k5 => k_is)
    (case a6 => k_is)
    (case l6 => k_is)
    (case c6 => k_is)
    (case k6 => k_is)
    (case a7 => k_is)
    (case l7 => k_is)
    (case c7 => k_is)
    (case k7 => k_is)
    (case a8 => k_is)
    (case l8 => k_is)
    (case c8 => k_is)
    (case k8 => k_is)
    (case a9 => k_is)
    (case l9 => k_is)
    (case c9 => k_is)
    (case k9 => k_is)
    (case a10 => k_is)
    (case l10 => k_is)
    (case c10 => k_is)
    (case k10 => k_is)
    (case a11 => k_is)
    (case l11 => k_is)
    (case c11 => k_is)
    (case k11 => k_is)
    (case a12 => k_is)
    (case l12 => k_is)
    (case c12 => k_is)
    (case k12 => k_is)
    (case a13 => k_is)
    (case l13 => k_is)
    (case c13 => k_is)
    (case k13 => k_is)
    (case a14 => k_is)
    (case l14 => k_is)
    (case c14 => k_is)
    (case k14 => k_is)
    (case a15 => k_is)
    (case l15 => k_is)
    (case c15 => k_is)
    (case k15 => k_is)
    (case a16 => k_is)
    (case l16 => k_is)
    (case c16 => k_is)
    (case k16 => k_is)
    (case a17 => k_is)
    (case l17 => k_is)
    (case c17 => k_is)
    (case k17 => k_is)
    (case ea0 => k_is)
    (case eb0 => k_is)
    (case ed0 => k_is)
    (case ee0 => k_is)
    (case ef0 => k_is)
    (case eg0 => k_is)
    (case eh0 => k_is)
    (case ei0 => k_is)
    (case ej0 => k_is)
    (case ek0 => k_is)
    (case el0 => k_is)
    (case em0 => k_is)
    (case en0 => k_is)
    (case eo0 => k_is)
    (case ep0 => k_is)
    (case es0_0 => k_is)
    (case z_gcd => k_is)
    (case z_list => k_is)
    (case z_int => k_is)
    (case z_max => k_is)
    (case z_len => k_is)
    (case z_isinstance => k_is)
    (case z_bool => k_is)
    (case z_abs => k_is)
    (case z_tuple => k_is)
    (case z_range => k_is)
    (case ec0 => exact rfl)
