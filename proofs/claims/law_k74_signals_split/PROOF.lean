import PyProof.Rows.All
import Wide.All
import OpenK.AllK
import Wide.FinOn
import HandS.ForMost
import HandS.Gcd
import HandS.Wide
import HandS.Evl
import HandS.IsInst
import HandS.TryMany
import HandS.TryOnly
import HandS.WordsExc
import HandS.ExcInit
import HandS.ExcField
import HandS.Defaults
import HandS.HotCalls
import HandS.ExcIs
import HandS.Small
import HandS.List
import KE.GoesEnum
import KE.GoesMore
import HandS.OwnEq
import HandS.Property
import HandS.ExcOwn
import KE.GoesZip
import HandS.Conv
import HandS.Style
import HandS.SortOrd
import HandS.SortInts
import HandS.TupAny
import KE.SortData
import KE.DatumOrd
import HandS.Iter
import HandS.Deep
import HandS.Star
import PyProof.EqAt
import PyProof.Rows.SeqRoads
import HandS.Dict
import HandS.SetKeys
import PyProof.DictMoreH
import KE.KDictCopyH
import KE.KDictZip
import HandS.DictSubView
import HandS.More
import PySem.Challenge.RW_everydecider_k74_signals_split
set_option Elab.async false
set_option linter.all false
set_option maxRecDepth 100000
set_option maxHeartbeats 2000000
namespace Dm
open PySem L2 Evl

/-- the module: its written part, its names; the program, the world -/
structure Cz where
  K : PySem.W.Frag
  mg : Str → Option Value
  P : Program
  w : World
inductive D where
  | non | bl (b : Bool) | int (i : Int) | str (x : Str) | lst (l : List D) | tup (l : List D) | ins (nm : Str) (fs : List (Str × D)) | pool

mutual
/-- v stands for d in the heap G of what doesn't change; p is the pool -/
inductive Rp (K : Cz) (p : Addr) (G : Hp) : V → D → Prop
  | non : Rp K p G .non .non
  | bl (b : Bool) : Rp K p G (.bl b) (.bl b)
  | int (i : Int) : Rp K p G (.int i) (.int i)
  | str (x : Str) : Rp K p G (.str x) (.str x)
  | lst {a : Addr} {xs : List V} {ds : List D} : G a = some (.lst xs) → RpL K p G xs ds → Rp K p G (.ref a) (.lst ds)
  | tup {a : Addr} {xs : List V} {ds : List D} : G a = some (.tup xs) → RpL K p G xs ds → Rp K p G (.ref a) (.tup ds)
  | ins {nm : Str} {a C dx : Addr} {fs : List (Str × V)} {gs : List (Str × D)} : K.mg nm = some (.ref C) → G a = some (.ins C dx fs) → RpF K p G fs gs → Rp K p G (.ref a) (.ins nm gs)
  | pool : Rp K p G (.ref p) .pool
inductive RpL (K : Cz) (p : Addr) (G : Hp) : List V → List D → Prop
  | nil : RpL K p G [] []
  | cons {v : V} {vs : List V} {d : D} {ds : List D} : Rp K p G v d → RpL K p G vs ds → RpL K p G (v :: vs) (d :: ds)
inductive RpF (K : Cz) (p : Addr) (G : Hp) : List (Str × V) → List (Str × D) → Prop
  | nil : RpF K p G [] []
  | cons {f : Str} {v : V} {vs : List (Str × V)} {d : D} {ds : List (Str × D)} : Rp K p G v d → RpF K p G vs ds → RpF K p G ((f, v) :: vs) ((f, d) :: ds)
end

section
variable {K : Cz} {p : Addr} {G G' : Hp}
mutual
theorem Rp.mono (e : Ex G G') : ∀ (d : D) (v : V), Rp K p G v d → Rp K p G' v d
  | .non, _, h => by cases h; exact .non
  | .bl _, _, h => by cases h; exact .bl _
  | .int _, _, h => by cases h; exact .int _
  | .str _, _, h => by cases h; exact .str _
  | .lst ds, _, h => by
    cases h with
    | lst h1 h2 => exact .lst (e _ _ h1) (RpL.mono e ds _ h2)
  | .tup ds, _, h => by
    cases h with
    | tup h1 h2 => exact .tup (e _ _ h1) (RpL.mono e ds _ h2)
  | .ins C fs, _, h => by
    cases h with
    | ins h0 h1 h2 => exact .ins h0 (e _ _ h1) (RpF.mono e fs _ h2)
  | .pool, _, h => by cases h; exact .pool
theorem RpL.mono (e : Ex G G') : ∀ (ds : List D) (vs : List V), RpL K p G vs ds → RpL K p G' vs ds
  | [], _, h => by cases h; exact .nil
  | d :: ds, _, h => by
    cases h with
    | cons h1 h2 => exact .cons (Rp.mono e d _ h1) (RpL.mono e ds _ h2)
theorem RpF.mono (e : Ex G G') : ∀ (ds : List (Str × D)) (vs : List (Str × V)), RpF K p G vs ds → RpF K p G' vs ds
  | [], _, h => by cases h; exact .nil
  | (f, d) :: ds, _, h => by
    cases h with
    | cons h1 h2 => exact .cons (Rp.mono e d _ h1) (RpF.mono e ds _ h2)
end
theorem Rp.up {v : V} {d : D} (r : Rp K p G v d) (e : Ex G G') : Rp K p G' v d := Rp.mono e d v r
theorem RpL.up {v : List V} {d : List D} (r : RpL K p G v d) (e : Ex G G') : RpL K p G' v d := RpL.mono e d v r
theorem RpF.up {v : List (Str × V)} {d : List (Str × D)} (r : RpF K p G v d) (e : Ex G G') : RpF K p G' v d := RpF.mono e d v r
theorem RpL.len : ∀ {ds : List D} {vs : List V}, RpL K p G vs ds → vs.length = ds.length
  | [], _, h => by cases h; rfl
  | d :: ds, _, h => by
    cases h with
    | cons h1 h2 => show _ + 1 = _ + 1; rw [RpL.len h2]
theorem RpL.get : ∀ {ds : List D} {vs : List V} {i : Nat} {d : D}, RpL K p G vs ds → ds[i]? = some d → ∃ v, vs[i]? = some v ∧ Rp K p G v d
  | [], _, _, _, _, e => by simp at e
  | _ :: _, _, 0, _, h, e => by
    cases h with
    | cons h1 h2 => simp at e; subst e; exact ⟨_, rfl, h1⟩
  | _ :: ds, _, i + 1, d, h, e => by
    cases h with
    | cons h1 h2 =>
      obtain ⟨v, a, b⟩ := RpL.get (i := i) (d := d) h2 (by simpa using e)
      exact ⟨v, by simpa using a, b⟩
theorem RpL.append : ∀ {ds es : List D} {vs us : List V}, RpL K p G vs ds → RpL K p G us es → RpL K p G (vs ++ us) (ds ++ es)
  | [], _, _, _, h, g => by cases h; exact g
  | _ :: _, _, _, _, h, g => by
    cases h with
    | cons h1 h2 => exact .cons h1 (h2.append g)
theorem RpL.set {v : V} {d : D} (r : Rp K p G v d) : ∀ {ds : List D} {vs : List V} (i : Nat), RpL K p G vs ds → RpL K p G (vs.set i v) (ds.set i d)
  | [], _, _, h => by cases h; exact .nil
  | _ :: _, _, 0, h => by
    cases h with
    | cons h1 h2 => exact .cons r h2
  | _ :: _, _, i + 1, h => by
    cases h with
    | cons h1 h2 => exact .cons h1 (RpL.set r i h2)
theorem RpL.drop : ∀ {ds : List D} {vs : List V} (n : Nat), RpL K p G vs ds → RpL K p G (vs.drop n) (ds.drop n)
  | _, _, 0, h => h
  | [], _, _ + 1, h => by cases h; exact .nil
  | _ :: _, _, n + 1, h => by
    cases h with
    | cons h1 h2 => exact RpL.drop n h2
theorem RpL.take : ∀ {ds : List D} {vs : List V} (n : Nat), RpL K p G vs ds → RpL K p G (vs.take n) (ds.take n)
  | _, _, 0, h => .nil
  | [], _, _ + 1, h => by cases h; exact .nil
  | _ :: _, _, n + 1, h => by
    cases h with
    | cons h1 h2 => exact .cons h1 (RpL.take n h2)
theorem RpL.ints : ∀ {ns : List Int} {vs : List V}, RpL K p G vs (ns.map D.int) → vs = ns.map V.int
  | [], _, h => by cases h; rfl
  | n :: ns, _, h => by
    cases h with
    | cons h1 h2 => cases h1; rw [RpL.ints h2]; rfl
theorem RpL.of_ints : ∀ (ns : List Int), RpL K p G (ns.map V.int) (ns.map D.int)
  | [] => .nil
  | n :: ns => .cons (.int n) (RpL.of_ints ns)
theorem RpL.bls : ∀ {ns : List Bool} {vs : List V}, RpL K p G vs (ns.map D.bl) → vs = ns.map V.bl
  | [], _, h => by cases h; rfl
  | n :: ns, _, h => by
    cases h with
    | cons h1 h2 => cases h1; rw [RpL.bls h2]; rfl
end

/-- the pool: [at, rest, cells] -/
def Pool (K : Cz) (p : Addr) (c : Nat) (G H : Hp) : Prop :=
  ∃ (t r : Int) (cs : Addr) (ns : List Int), H p = some (.lst [.int t, .int r, .ref cs]) ∧ G cs = some (.lst (ns.map V.int)) ∧ ns.length ≤ 63 ∧ 0 ≤ t ∧ t ≤ c
structure Wd (K : Cz) (p : Addr) (c : Nat) (G H : Hp) : Prop where
  sub : Ex G H
  gp : G p = none
  pl : Pool K p c G H
structure Grow (p : Addr) (G0 H0 G H : Hp) : Prop where
  ex : Ex G0 G
  new : ∀ a o, G a = some o → G0 a = some o ∨ H0 a = none
  keep : ∀ a o, a ≠ p → H0 a = some o → H a = some o
  pc : ∀ xs, H0 p = some (.lst xs) → ∃ ys, H p = some (.lst ys) ∧ ys[2]? = xs[2]?
theorem Grow.refl {p : Addr} {G H : Hp} : Grow p G H G H := ⟨Ex.refl _, fun _ _ h => .inl h, fun _ _ _ h => h, fun xs h => ⟨xs, h, rfl⟩⟩
theorem Grow.trans {p : Addr} {G0 H0 G1 H1 G2 H2 : Hp} (gp : G2 p = none) (a : Grow p G0 H0 G1 H1) (b : Grow p G1 H1 G2 H2) : Grow p G0 H0 G2 H2 := by
  refine ⟨a.ex.trans b.ex, fun x o h => ?_, fun x o hx h => b.keep x o hx (a.keep x o hx h), fun xs h => ?_⟩
  · rcases b.new x o h with h1 | h1
    · exact a.new x o h1
    · right
      cases q : H0 x with
      | none => rfl
      | some u =>
        have hx : x ≠ p := fun z => by rw [z, gp] at h; cases h
        have e := a.keep x u hx q
        rw [e] at h1
        cases h1
  · obtain ⟨ys, h1, e1⟩ := a.pc xs h
    obtain ⟨zs, h2, e2⟩ := b.pc ys h1
    exact ⟨zs, h2, e2.trans e1⟩

structure Err where
  nm : Str
  arg : Option (Str × D)
def ErrR (K : Cz) (p : Addr) (G : Hp) (cls : Value) (d : Option Addr) (e : Err) : Prop :=
  ∃ C, K.mg e.nm = some (.ref C) ∧ cls = .ref C ∧ ∀ f x, e.arg = some (f, x) → ∃ dd v, d = some dd ∧ G dd = some (.xd [(f, v)]) ∧ Rp K p G v x
theorem ErrR.up {K : Cz} {p : Addr} {G G' : Hp} {cls : Value} {d : Option Addr} {e : Err} (h : ErrR K p G cls d e) (x : Ex G G') : ErrR K p G' cls d e := by
  obtain ⟨C, h1, h2, h3⟩ := h
  refine ⟨C, h1, h2, fun f y z => ?_⟩
  obtain ⟨dd, v, q1, q2, q3⟩ := h3 f y z
  exact ⟨dd, v, q1, x _ _ q2, q3.up x⟩
/-- a value with lists of one's own: leaves are data that is shared, nodes are lists at addresses -/
inductive T where
  | lf (d : D) | ls (a : Addr) (ts : List T)
mutual
def T.d : T → D
  | .lf d => d
  | .ls _ ts => .lst (T.dL ts)
def T.dL : List T → List D
  | [] => []
  | t :: ts => T.d t :: T.dL ts
end
mutual
def T.as : T → List Addr
  | .lf _ => []
  | .ls a ts => a :: T.asL ts
def T.asL : List T → List Addr
  | [] => []
  | t :: ts => T.as t ++ T.asL ts
end
mutual
inductive TrR (K : Cz) (p : Addr) (G H : Hp) : V → T → Prop
  | lf {v : V} {d : D} : Rp K p G v d → TrR K p G H v (.lf d)
  | ls {a : Addr} {xs : List V} {ts : List T} : H a = some (.lst xs) → TrRL K p G H xs ts → TrR K p G H (.ref a) (.ls a ts)
inductive TrRL (K : Cz) (p : Addr) (G H : Hp) : List V → List T → Prop
  | nil : TrRL K p G H [] []
  | cons {v : V} {vs : List V} {t : T} {ts : List T} : TrR K p G H v t → TrRL K p G H vs ts → TrRL K p G H (v :: vs) (t :: ts)
end
section
variable {K : Cz} {p : Addr} {G G' H H' : Hp}
mutual
theorem TrR.frame (e : Ex G G') : ∀ (t : T) (v : V), (∀ a ∈ t.as, H' a = H a) → TrR K p G H v t → TrR K p G' H' v t
  | .lf d, _, _, h => by cases h with | lf r => exact .lf (r.up e)
  | .ls a ts, _, k, h => by
    cases h with
    | ls h1 h2 => exact .ls (by rw [k a (by simp [T.as])]; exact h1) (TrRL.frame e ts _ (fun b hb => k b (by simp [T.as, hb])) h2)
theorem TrRL.frame (e : Ex G G') : ∀ (ts : List T) (vs : List V), (∀ a ∈ T.asL ts, H' a = H a) → TrRL K p G H vs ts → TrRL K p G' H' vs ts
  | [], _, _, h => by cases h; exact .nil
  | t :: ts, _, k, h => by
    cases h with
    | cons h1 h2 => exact .cons (TrR.frame e t _ (fun b hb => k b (by simp [T.asL, hb])) h1) (TrRL.frame e ts _ (fun b hb => k b (by simp [T.asL, hb])) h2)
end
mutual
theorem TrR.has : ∀ (t : T) (v : V) (b : Addr), TrR K p G H v t → b ∈ t.as → ∃ xs, H b = some (.lst xs)
  | .lf d, _, _, h, q => by simp [T.as] at q
  | .ls a ts, _, b, h, q => by
    cases h with
    | ls h1 h2 =>
      rcases List.mem_cons.mp q with e | e
      · subst e; exact ⟨_, h1⟩
      · exact TrRL.has ts _ b h2 e
theorem TrRL.has : ∀ (ts : List T) (vs : List V) (b : Addr), TrRL K p G H vs ts → b ∈ T.asL ts → ∃ xs, H b = some (.lst xs)
  | [], _, _, h, q => by simp [T.asL] at q
  | t :: ts, _, b, h, q => by
    cases h with
    | cons h1 h2 =>
      rcases List.mem_append.mp q with e | e
      · exact TrR.has t _ b h1 e
      · exact TrRL.has ts _ b h2 e
end
end
inductive S where
  | no
  | sh (d : D)
  | own (l : List D)
  /-- new data in a region of its own -/
  | frs (F : Hp) (d : D)
  /-- an instance that is being made -/
  | obj (a : Addr) (nm : Str) (fs : List (Str × D))
  /-- an exception that is handled, at a -/
  | exc (a : Addr) (cls : Value) (d : Option Addr) (e : Err)
  /-- a tree of lists of one's own -/
  | tr (t : T)
  /-- a list in one of them, at a -/
  | adr (a : Addr)
  /-- the script: a list that is only counted -/
  | scr
  /-- a dict of one's own at a: its keys; its values, lists of one's own at bs -/
  | dc (a : Addr) (ks : List (List Int)) (bs : List Addr) (vs : List (List D))
  /-- such a dict that stays as it is, its values shared -/
  | dz (ks : List (List Int)) (ds : List D)
  /-- an instance of one's own; its fields may be lists of one's own -/
  | ob (a : Addr) (nm : Str) (fs : List (Str × T))
/-- the addresses of what the fields have of their own -/
def fas (fs : List (Str × T)) : List Addr := T.asL (fs.map (·.2))
abbrev Ro := List S
def mrg (G F : Hp) : Hp := fun a => match F a with | some o => some o | none => G a
theorem mg_ex {G F : Hp} (h : ∀ a o, F a = some o → G a = none) : Ex G (mrg G F) := fun a o e => by
  unfold mrg
  cases q : F a with
  | none => exact e
  | some u => rw [h a u q] at e; cases e
theorem mg_mono {G G' F : Hp} (e : Ex G G') : Ex (mrg G F) (mrg G' F) := fun a o h => by
  unfold mrg at h ⊢
  cases q : F a with
  | none => rw [q] at h; exact e a o h
  | some u => rw [q] at h; exact h
/-- what a slot has of its own -/
def S.reg : Option V → S → Addr → Prop
  | some (.ref a), .own _, b => b = a
  | some (.ref a), .obj _ _ _, b => b = a
  | _, .frs F _, b => F b ≠ none
  | _, .tr t, b => b ∈ t.as
  | _, .ob a _ fs, b => b = a ∨ b ∈ fas fs
  | _, .dc a _ bs _, b => b = a ∨ b ∈ bs
  | _, _, _ => False
/-- a key as the house has it -/
def keyI (k : List Int) : List L2.Key := k.map .inl
/-- the dict at a is this object -/
def dkO (a : Addr) (od : Obj) : HO := .ext fun h => h.get? a = some od
/-- a dict with these entries -/
def DkOf (K : Cz) (od : Obj) (xs : List (List L2.Key × Addr × Value)) : Prop := od.ExactDict ∧ ∃ es ep, od.data = .dict es ep ∧ es.toList = xs.map (PySem.entryOfKey (PySem.tupleKind (L2.mixKind K.P K.w)))
/-- keys, the addresses of their tuples, the addresses of the values -/
def ents : List (List Int) → List Addr → List Addr → List (List L2.Key × Addr × Value)
  | k :: ks, q :: qs, b :: bs => (keyI k, q, .ref b) :: ents ks qs bs
  | _, _, _ => []
def KeysIn (G : Hp) : List Addr → List (List Int) → Prop
  | q :: qs, k :: ks => G q = some (.tup (k.map V.int)) ∧ KeysIn G qs ks
  | [], [] => True
  | _, _ => False
theorem KeysIn.up {G G' : Hp} (e : Ex G G') : ∀ {qs : List Addr} {ks : List (List Int)}, KeysIn G qs ks → KeysIn G' qs ks
  | _ :: _, _ :: _, h => ⟨e _ _ h.1, KeysIn.up e h.2⟩
  | [], [], _ => True.intro
  | [], _ :: _, h => h
  | _ :: _, [], h => h
/-- lists of one's own at these addresses -/
def OwL (K : Cz) (p : Addr) (G H : Hp) : List Addr → List (List D) → Prop
  | b :: bs, l :: vs => (∃ xs, H b = some (.lst xs) ∧ RpL K p G xs l) ∧ OwL K p G H bs vs
  | [], [] => True
  | _, _ => False
theorem OwL.frame {K : Cz} {p : Addr} {G G' H H' : Hp} (e : Ex G G') : ∀ {bs : List Addr} {vs : List (List D)}, (∀ b ∈ bs, H' b = H b) → OwL K p G H bs vs → OwL K p G' H' bs vs
  | b :: bs, l :: vs, k, h => ⟨by obtain ⟨xs, h1, h2⟩ := h.1; exact ⟨xs, (k b (by simp)).trans h1, h2.up e⟩, OwL.frame e (fun c hc => k c (by simp [hc])) h.2⟩
  | [], [], _, _ => True.intro
  | [], _ :: _, _, h => h
  | _ :: _, [], _, h => h
theorem OwL.has {K : Cz} {p : Addr} {G H : Hp} : ∀ {bs : List Addr} {vs : List (List D)} {b : Addr}, OwL K p G H bs vs → b ∈ bs → ∃ xs, H b = some (.lst xs)
  | c :: bs, l :: vs, b, h, q => by
    rcases List.mem_cons.mp q with e | e
    · subst e; obtain ⟨xs, h1, _⟩ := h.1; exact ⟨xs, h1⟩
    · exact OwL.has h.2 e
  | [], _, _, _, q => by simp at q
  | _ :: _, [], _, h, _ => h.elim
theorem OwL.len {K : Cz} {p : Addr} {G H : Hp} : ∀ {bs : List Addr} {vs : List (List D)}, OwL K p G H bs vs → bs.length = vs.length
  | c :: bs, l :: vs, h => by show _ + 1 = _ + 1; rw [OwL.len h.2]
  | [], [], _ => rfl
  | _ :: _, [], h => h.elim
  | [], _ :: _, h => h.elim
def DcR (K : Cz) (p : Addr) (G H : Hp) (a : Addr) (ks : List (List Int)) (bs : List Addr) (vs : List (List D)) : Prop :=
  ∃ (qs : List Addr) (od : Obj), H a = some (dkO a od) ∧ OwL K p G H bs vs ∧ KeysIn G qs ks ∧ DkOf K od (ents ks qs bs) ∧ bs.length = ks.length ∧ a ∉ bs ∧ bs.Nodup ∧ ks.Nodup ∧ (a == sysModules) = false
theorem DcR.frame {K : Cz} {p : Addr} {G G' H H' : Hp} {a : Addr} {ks : List (List Int)} {bs : List Addr} {vs : List (List D)} (e : Ex G G') (hH : ∀ b, b = a ∨ b ∈ bs → H' b = H b) (h : DcR K p G H a ks bs vs) : DcR K p G' H' a ks bs vs := by
  obtain ⟨qs, od, h1, h3, h2, h4⟩ := h
  exact ⟨qs, od, by rw [hH a (.inl rfl)]; exact h1, OwL.frame e (fun b hb => hH b (.inr hb)) h3, h2.up e, h4⟩
/-- such a dict that stays -/
def DzR (K : Cz) (p : Addr) (G : Hp) (a : Addr) (ks : List (List Int)) (ds : List D) : Prop :=
  ∃ (qs bs : List Addr) (od : Obj), G a = some (dkO a od) ∧ RpL K p G (bs.map V.ref) ds ∧ KeysIn G qs ks ∧ DkOf K od (ents ks qs bs) ∧ bs.length = ks.length ∧ ks.Nodup ∧ (a == sysModules) = false
theorem DzR.up {K : Cz} {p : Addr} {G G' : Hp} {a : Addr} {ks : List (List Int)} {ds : List D} (e : Ex G G') (h : DzR K p G a ks ds) : DzR K p G' a ks ds := by
  obtain ⟨qs, bs, od, h1, h3, h2, h4⟩ := h
  exact ⟨qs, bs, od, e _ _ h1, h3.up e, h2.up e, h4⟩
theorem DcR.has {K : Cz} {p : Addr} {G H : Hp} {a : Addr} {ks : List (List Int)} {bs : List Addr} {vs : List (List D)} (h : DcR K p G H a ks bs vs) {b : Addr} (hb : b = a ∨ b ∈ bs) : ∃ o, H b = some o := by
  obtain ⟨qs, od, h1, h3, h2, h4⟩ := h
  rcases hb with rfl | hb
  · exact ⟨_, h1⟩
  · obtain ⟨xs, hx⟩ := h3.has hb
    exact ⟨_, hx⟩
/-- an instance at a with these fields -/
def ObR (K : Cz) (p : Addr) (G H : Hp) (a : Addr) (nm : Str) (fs : List (Str × T)) : Prop :=
  ∃ (C dx : Addr) (vs : List (Str × V)), K.mg nm = some (.ref C) ∧ H a = some (.ins C dx vs) ∧ vs.map (·.1) = fs.map (·.1) ∧ TrRL K p G H (vs.map (·.2)) (fs.map (·.2)) ∧ a ∉ fas fs ∧ (fas fs).Nodup
theorem ObR.frame {K : Cz} {p : Addr} {G G' H H' : Hp} {a : Addr} {nm : Str} {fs : List (Str × T)} (e : Ex G G') (hH : ∀ b, b = a ∨ b ∈ fas fs → H' b = H b) (h : ObR K p G H a nm fs) : ObR K p G' H' a nm fs := by
  obtain ⟨C, dx, vs, h1, h2, h3, h4, h5, h6⟩ := h
  exact ⟨C, dx, vs, h1, by rw [hH a (.inl rfl)]; exact h2, h3, TrRL.frame e _ _ (fun b hb => hH b (.inr hb)) h4, h5, h6⟩
theorem ObR.has {K : Cz} {p : Addr} {G H : Hp} {a : Addr} {nm : Str} {fs : List (Str × T)} (h : ObR K p G H a nm fs) {b : Addr} (hb : b = a ∨ b ∈ fas fs) : ∃ o, H b = some o := by
  obtain ⟨C, dx, vs, h1, h2, h3, h4, h5, h6⟩ := h
  rcases hb with rfl | hb
  · exact ⟨_, h2⟩
  · obtain ⟨xs, hx⟩ := TrRL.has _ _ b h4 hb
    exact ⟨_, hx⟩
theorem sql_up {K : PySem.W.Frag} {G G' : Hp} {a : Addr} {xs : List V} (e : Ex G G') (h : L2.SqL K G a xs) : L2.SqL K G' a xs := by
  rcases h with (h | ⟨o, h⟩) | h
  · exact .inl (.inl (e _ _ h))
  · exact .inl (.inr ⟨o, e _ _ h⟩)
  · exact .inr h
/-- of d the lists and tuples at the top stand in F -/
inductive RpN (K : Cz) (p : Addr) (G F : Hp) : V → D → Prop
  | lst {a : Addr} {xs : List V} {ds : List D} : F a = some (.lst xs) → RpL K p (mrg G F) xs ds → RpN K p G F (.ref a) (.lst ds)
  | tup {a : Addr} {xs : List V} {ds : List D} : F a = some (.tup xs) → xs.length = ds.length → (∀ (i : Nat) (v : V) (d : D), xs[i]? = some v → ds[i]? = some d → RpN K p G F v d) → RpN K p G F (.ref a) (.tup ds)
  | non : RpN K p G F .non .non
  | bl (b : Bool) : RpN K p G F (.bl b) (.bl b)
  | int (i : Int) : RpN K p G F (.int i) (.int i)
  | str (x : Str) : RpN K p G F (.str x) (.str x)
section
variable {K : Cz} {p : Addr} {G G' F : Hp}
theorem mg_at {a : Addr} {o : HO} (h : F a = some o) : mrg G F a = some o := by unfold mrg; rw [h]
theorem RpL.of_get : ∀ {ds : List D} {vs : List V}, vs.length = ds.length → (∀ (i : Nat) (v : V) (d : D), vs[i]? = some v → ds[i]? = some d → Rp K p G v d) → RpL K p G vs ds
  | [], [], _, _ => .nil
  | [], _ :: _, e, _ => by simp at e
  | _ :: _, [], e, _ => by simp at e
  | d :: ds, v :: vs, e, h => .cons (h 0 v d rfl rfl) (RpL.of_get (by simpa using e) fun i v' d' a b => h (i + 1) v' d' (by simpa using a) (by simpa using b))
theorem RpN.rp {v : V} {d : D} (h : RpN K p G F v d) : Rp K p (mrg G F) v d := by
  induction h with
  | lst h1 h2 => exact .lst (mg_at h1) h2
  | tup h1 h2 _ ih => exact .tup (mg_at h1) (RpL.of_get h2 ih)
  | non => exact .non
  | bl b => exact .bl b
  | int b => exact .int b
  | str b => exact .str b
theorem RpN.up {v : V} {d : D} (h : RpN K p G F v d) (e : Ex G G') : RpN K p G' F v d := by
  induction h with
  | lst h1 h2 => exact .lst h1 (h2.up (mg_mono e))
  | tup h1 h2 _ ih => exact .tup h1 h2 ih
  | non => exact .non
  | bl b => exact .bl b
  | int b => exact .int b
  | str b => exact .str b
end
inductive SlotR (K : Cz) (p : Addr) (H0 G H : Hp) : Option V → S → Prop
  | no {o : Option V} : SlotR K p H0 G H o .no
  | sh {v : V} {d : D} : Rp K p G v d → SlotR K p H0 G H (some v) (.sh d)
  | own {a : Addr} {xs : List V} {l : List D} : a ≠ p → H0 a = none → G a = none → H a = some (.lst xs) → RpL K p G xs l → SlotR K p H0 G H (some (.ref a)) (.own l)
  | frs {v : V} {F : Hp} {d : D} : (∀ a o, F a = some o → G a = none ∧ H0 a = none ∧ a ≠ p ∧ H a = some o) → RpN K p G F v d → SlotR K p H0 G H (some v) (.frs F d)
  | obj {nm : Str} {a C dx : Addr} {fs : List (Str × V)} {gs : List (Str × D)} : K.mg nm = some (.ref C) → a ≠ p → H0 a = none → G a = none → H a = some (.ins C dx fs) → RpF K p G fs gs → SlotR K p H0 G H (some (.ref a)) (.obj a nm gs)
  | exc {a : Addr} {cls : Value} {d : Option Addr} {e : Err} : ErrR K p G cls d e → SlotR K p H0 G H (some (.ref a)) (.exc a cls d e)
  | tr {v : V} {t : T} : TrR K p G H v t → t.as.Nodup → (∀ a ∈ t.as, G a = none ∧ H0 a = none ∧ a ≠ p) → SlotR K p H0 G H (some v) (.tr t)
  | adr {a : Addr} : SlotR K p H0 G H (some (.ref a)) (.adr a)
  | dc {a : Addr} {ks : List (List Int)} {bs : List Addr} {vs : List (List D)} : DcR K p G H a ks bs vs → (∀ b, b = a ∨ b ∈ bs → G b = none ∧ H0 b = none ∧ b ≠ p) → SlotR K p H0 G H (some (.ref a)) (.dc a ks bs vs)
  | dz {a : Addr} {ks : List (List Int)} {ds : List D} : DzR K p G a ks ds → SlotR K p H0 G H (some (.ref a)) (.dz ks ds)
  | scr {a : Addr} {xs : List V} : xs.length ≤ 63 → L2.SqL K.K G a xs → SlotR K p H0 G H (some (.ref a)) .scr
  | ob {a : Addr} {nm : Str} {fs : List (Str × T)} : ObR K p G H a nm fs → (∀ b, b = a ∨ b ∈ fas fs → G b = none ∧ H0 b = none ∧ b ≠ p) → SlotR K p H0 G H (some (.ref a)) (.ob a nm fs)
structure EnvR (K : Cz) (p : Addr) (H0 G H : Hp) (σ : St) (ρ : Ro) : Prop where
  len : σ.length = ρ.length
  sl : ∀ (i : Nat) (o : Option V) (s : S), σ[i]? = some o → ρ[i]? = some s → SlotR K p H0 G H o s
  dis : ∀ (i j : Nat) (o o' : Option V) (s s' : S), i ≠ j → σ[i]? = some o → ρ[i]? = some s → σ[j]? = some o' → ρ[j]? = some s' → ∀ b, s.reg o b → ¬ s'.reg o' b
/-- all of it -/
structure WS (K : Cz) (p : Addr) (G0 H0 : Hp) (c : Nat) (G H : Hp) (σ : St) (ρ : Ro) : Prop where
  gr : Grow p G0 H0 G H
  wd : Wd K p c G H
  en : EnvR K p H0 G H σ ρ

section
variable {K : Cz} {p : Addr} {G0 H0 G H G' H' : Hp} {c c' : Nat} {σ : St} {ρ : Ro}
theorem Grow.stay (g : Grow p G H G' H') {a : Addr} {o : HO} (hg : G a = none) (hh : H a = some o) (np : a ≠ p) : G' a = none ∧ H' a = some o := by
  refine ⟨?_, g.keep _ _ np hh⟩
  cases q : G' a with
  | none => rfl
  | some u =>
    rcases g.new _ _ q with z | z
    · rw [hg] at z; cases z
    · rw [hh] at z; cases z
theorem SlotR.grow {o : Option V} {s : S} (g : Grow p G H G' H') (h : SlotR K p H0 G H o s) : SlotR K p H0 G' H' o s := by
  cases h with
  | no => exact .no
  | sh r => exact .sh (r.up g.ex)
  | own n h0 hg hh r =>
    obtain ⟨a1, a2⟩ := g.stay hg hh n
    exact .own n h0 a1 a2 (r.up g.ex)
  | frs hf r =>
    refine .frs (fun a o q => ?_) (r.up g.ex)
    obtain ⟨q1, q2, q3, q4⟩ := hf a o q
    obtain ⟨a1, a2⟩ := g.stay q1 q4 q3
    exact ⟨a1, q2, q3, a2⟩
  | exc h => exact .exc (h.up g.ex)
  | adr => exact .adr
  | scr h1 h2 => exact .scr h1 (sql_up g.ex h2)
  | dz h => exact .dz (h.up g.ex)
  | @dc a ks bs vs h hf =>
    have st : ∀ b, b = a ∨ b ∈ bs → G' b = none ∧ H' b = H b := fun b q => by
      obtain ⟨o, ho⟩ := h.has q
      obtain ⟨q1, q2, q3⟩ := hf b q
      obtain ⟨a1, a2⟩ := g.stay q1 ho q3
      exact ⟨a1, a2.trans ho.symm⟩
    exact .dc (h.frame g.ex fun b q => (st b q).2) fun b q => ⟨(st b q).1, (hf b q).2⟩
  | @ob a nm fs h hf =>
    have st : ∀ b, b = a ∨ b ∈ fas fs → G' b = none ∧ H' b = H b := fun b q => by
      obtain ⟨o, ho⟩ := h.has q
      obtain ⟨q1, q2, q3⟩ := hf b q
      obtain ⟨a1, a2⟩ := g.stay q1 ho q3
      exact ⟨a1, a2.trans ho.symm⟩
    exact .ob (h.frame g.ex fun b q => (st b q).2) fun b q => ⟨(st b q).1, (hf b q).2⟩
  | @tr v t h n hf =>
    have st : ∀ a ∈ t.as, G' a = none ∧ H0 a = none ∧ a ≠ p ∧ H' a = H a := fun a q => by
      obtain ⟨xs, hx⟩ := TrR.has _ _ a h q
      obtain ⟨q1, q2, q3⟩ := hf a q
      obtain ⟨a1, a2⟩ := g.stay q1 hx q3
      exact ⟨a1, q2, q3, a2.trans hx.symm⟩
    exact .tr (TrR.frame g.ex _ _ (fun a q => (st a q).2.2.2) h) n fun a q => ⟨(st a q).1, (st a q).2.1, (st a q).2.2.1⟩
  | obj hc n h0 hg hh r =>
    obtain ⟨a1, a2⟩ := g.stay hg hh n
    exact .obj hc n h0 a1 a2 (r.up g.ex)
theorem EnvR.grow (g : Grow p G H G' H') (h : EnvR K p H0 G H σ ρ) : EnvR K p H0 G' H' σ ρ :=
  ⟨h.len, fun i o s a b => (h.sl i o s a b).grow g, h.dis⟩
/-- behind something that grew -/
theorem WS.grow (h : WS K p G0 H0 c G H σ ρ) (g : Grow p G H G' H') (w : Wd K p c' G' H') : WS K p G0 H0 c' G' H' σ ρ :=
  ⟨h.gr.trans w.gp g, w, h.en.grow g⟩
theorem Grow.laid {a : Addr} {o : HO} (hn : H a = none) (s : Ex G H) : Grow p G H (upd G a o) (upd H a o) :=
  ⟨Ex.new (by cases q : G a with
    | none => rfl
    | some u => rw [s a u q] at hn; cases hn), fun b u h => by
      by_cases e : b = a
      · subst e; exact .inr hn
      · rw [upd_ne e] at h; exact .inl h, fun b u _ h => by rw [upd_ne (ne_of_none h hn)]; exact h, fun xs h => ⟨xs, by rw [upd_ne (ne_of_none h hn)]; exact h, rfl⟩⟩
theorem Pool.of (g : Ex G G') (k : ∀ o, H p = some o → H' p = some o) (h : Pool K p c G H) : Pool K p c G' H' := by
  obtain ⟨t, r, cs, ns, h1, h2, h3⟩ := h
  exact ⟨t, r, cs, ns, k _ h1, g _ _ h2, h3⟩
theorem Wd.np (h : Wd K p c G H) : ∃ o, H p = some o := let ⟨_, _, _, _, h1, _⟩ := h.pl; ⟨_, h1⟩
theorem Wd.laid {a : Addr} {o : HO} (hn : H a = none) (h : Wd K p c G H) : Wd K p c (upd G a o) (upd H a o) := by
  obtain ⟨u, hu⟩ := h.np
  have hp : p ≠ a := ne_of_none hu hn
  refine ⟨fun b w q => ?_, by rw [upd_ne hp]; exact h.gp, h.pl.of (Grow.laid (p := p) hn h.sub).ex fun o q => by rw [upd_ne hp]; exact q⟩
  by_cases e : b = a
  · subst e; rw [upd_same] at q ⊢; exact q
  · rw [upd_ne e] at q ⊢; exact h.sub b w q
/-- a new object is laid, frozen at once -/
theorem WS.laid {a : Addr} {o : HO} (hn : H a = none) (h : WS K p G0 H0 c G H σ ρ) : WS K p G0 H0 c (upd G a o) (upd H a o) σ ρ :=
  h.grow (Grow.laid hn h.wd.sub) (h.wd.laid hn)
/-- a new list is laid, not frozen -/
theorem Grow.laidO {a : Addr} {o : HO} (hn : H a = none) : Grow p G H G (upd H a o) :=
  ⟨Ex.refl _, fun _ _ h => .inl h, fun b u _ h => by rw [upd_ne (ne_of_none h hn)]; exact h, fun xs h => ⟨xs, by rw [upd_ne (ne_of_none h hn)]; exact h, rfl⟩⟩
theorem Wd.laidO {a : Addr} {o : HO} (hn : H a = none) (h : Wd K p c G H) : Wd K p c G (upd H a o) := by
  obtain ⟨u, hu⟩ := h.np
  exact ⟨h.sub.trans (Ex.new hn), h.gp, h.pl.of (Ex.refl _) fun o q => by rw [upd_ne (ne_of_none hu hn)]; exact q⟩
theorem WS.laidO {a : Addr} {o : HO} (hn : H a = none) (h : WS K p G0 H0 c G H σ ρ) : WS K p G0 H0 c G (upd H a o) σ ρ :=
  h.grow (Grow.laidO hn) (h.wd.laidO hn)
theorem EnvR.get {i : Nat} {s : S} (h : EnvR K p H0 G H σ ρ) (e : ρ[i]? = some s) : ∃ o, σ[i]? = some o ∧ SlotR K p H0 G H o s := by
  have hl : i < σ.length := by rw [h.len]; exact (List.getElem?_eq_some_iff.mp e).1
  exact ⟨σ[i], List.getElem?_eq_getElem hl, h.sl i _ _ (List.getElem?_eq_getElem hl) e⟩
theorem EnvR.sh {i : Nat} {d : D} (h : EnvR K p H0 G H σ ρ) (e : ρ[i]? = some (.sh d)) : ∃ v, σ[i]? = some (some v) ∧ Rp K p G v d := by
  obtain ⟨o, h1, h2⟩ := h.get e
  cases h2 with
  | sh r => exact ⟨_, h1, r⟩
theorem EnvR.own {i : Nat} {l : List D} (h : EnvR K p H0 G H σ ρ) (e : ρ[i]? = some (.own l)) : ∃ a xs, σ[i]? = some (some (.ref a)) ∧ a ≠ p ∧ H0 a = none ∧ G a = none ∧ H a = some (.lst xs) ∧ RpL K p G xs l := by
  obtain ⟨o, h1, h2⟩ := h.get e
  cases h2 with
  | own n h0 hg hh r => exact ⟨_, _, h1, n, h0, hg, hh, r⟩
/-- a slot is stored: what is new there has nothing of the other slots' own -/
theorem EnvR.put {i : Nat} {v : Option V} {s : S} (h : EnvR K p H0 G H σ ρ) (r : SlotR K p H0 G H v s) (dj : ∀ (j : Nat) (o : Option V) (s' : S), j ≠ i → σ[j]? = some o → ρ[j]? = some s' → ∀ b, s.reg v b → ¬ s'.reg o b) :
    EnvR K p H0 G H (σ.set i v) (ρ.set i s) := by
  have at_i : ∀ (o : Option V) (s' : S), (σ.set i v)[i]? = some o → (ρ.set i s)[i]? = some s' → o = v ∧ s' = s := fun o s' a b => by
    have h1 : i < σ.length := by have := (List.getElem?_eq_some_iff.mp a).1; simpa using this
    have h2 : i < ρ.length := by have := (List.getElem?_eq_some_iff.mp b).1; simpa using this
    rw [List.getElem?_set_self h1] at a
    rw [List.getElem?_set_self h2] at b
    cases a; cases b; exact ⟨rfl, rfl⟩
  refine ⟨by simp [h.len], fun j o s' a b => ?_, fun j k o o' s1 s2 n e1 e2 e3 e4 b z => ?_⟩
  · by_cases e : i = j
    · subst e
      obtain ⟨rfl, rfl⟩ := at_i o s' a b
      exact r
    · rw [List.getElem?_set_ne e] at a b
      exact h.sl j o s' a b
  · by_cases n1 : i = j
    · subst n1
      obtain ⟨rfl, rfl⟩ := at_i o s1 e1 e2
      rw [List.getElem?_set_ne n] at e3 e4
      exact dj k o' s2 (Ne.symm n) e3 e4 b z
    · rw [List.getElem?_set_ne n1] at e1 e2
      by_cases n2 : i = k
      · subst n2
        obtain ⟨rfl, rfl⟩ := at_i o' s2 e3 e4
        exact fun y => dj j o s1 (Ne.symm n1) e1 e2 b y z
      · rw [List.getElem?_set_ne n2] at e3 e4
        exact h.dis j k o o' s1 s2 n e1 e2 e3 e4 b z
theorem reg_sh {v : Option V} {d : D} {b : Addr} : ¬ (S.sh d).reg v b := by
  intro h
  unfold S.reg at h
  split at h <;> simp_all
theorem reg_no {v : Option V} {b : Addr} : ¬ S.no.reg v b := by
  intro h
  unfold S.reg at h
  split at h <;> simp_all
theorem reg_exc {v : Option V} {a b : Addr} {cls : Value} {d : Option Addr} {e : Err} : ¬ (S.exc a cls d e).reg v b := by
  intro h
  unfold S.reg at h
  split at h <;> simp_all
theorem reg_scr {v : Option V} {b : Addr} : ¬ S.scr.reg v b := by
  intro z
  cases v with
  | none => exact z
  | some v => cases v <;> exact z
theorem reg_dz {v : Option V} {b : Addr} {ks : List (List Int)} {ds : List D} : ¬ (S.dz ks ds).reg v b := by
  intro z
  cases v with
  | none => exact z
  | some v => cases v <;> exact z
theorem reg_dc {v : Option V} {a b : Addr} {ks : List (List Int)} {bs : List Addr} {vs : List (List D)} : (S.dc a ks bs vs).reg v b = (b = a ∨ b ∈ bs) := by
  cases v with
  | none => rfl
  | some v => cases v <;> rfl
theorem reg_adr {v : Option V} {a b : Addr} : ¬ (S.adr a).reg v b := by
  intro h
  unfold S.reg at h
  split at h <;> simp_all
theorem reg_tr {v : Option V} {t : T} {b : Addr} : (S.tr t).reg v b = (b ∈ t.as) := by
  cases v with
  | none => rfl
  | some v => cases v <;> rfl
theorem reg_ob {v : Option V} {a b : Addr} {nm : Str} {fs : List (Str × T)} : (S.ob a nm fs).reg v b = (b = a ∨ b ∈ fas fs) := by
  cases v with
  | none => rfl
  | some v => cases v <;> rfl
theorem EnvR.setSh {i : Nat} {v : V} {d : D} (h : EnvR K p H0 G H σ ρ) (r : Rp K p G v d) : EnvR K p H0 G H (σ.set i (some v)) (ρ.set i (.sh d)) := h.put (.sh r) fun _ _ _ _ _ _ _ z => absurd z reg_sh
theorem EnvR.setNo {i : Nat} {v : Option V} (h : EnvR K p H0 G H σ ρ) : EnvR K p H0 G H (σ.set i v) (ρ.set i .no) := h.put .no fun _ _ _ _ _ _ _ z => absurd z reg_no
/-- what a slot has of its own stands in the heap -/
theorem SlotR.reg_in {o : Option V} {s : S} {b : Addr} (h : SlotR K p H0 G H o s) (z : s.reg o b) : ∃ u, H b = some u := by
  cases h with
  | no => exact absurd z reg_no
  | sh => exact absurd z reg_sh
  | exc => exact absurd z reg_exc
  | adr => exact absurd z reg_adr
  | scr => exact absurd z reg_scr
  | dz => exact absurd z reg_dz
  | dc h _ => rw [reg_dc] at z; exact h.has z
  | ob h _ => rw [reg_ob] at z; exact h.has z
  | tr h _ _ =>
    rw [reg_tr] at z
    obtain ⟨xs, hx⟩ := TrR.has _ _ b h z
    exact ⟨_, hx⟩
  | own _ _ _ hh _ => cases (show b = _ from z); exact ⟨_, hh⟩
  | obj _ _ _ _ hh _ => cases (show b = _ from z); exact ⟨_, hh⟩
  | @frs v F d hf r =>
    have z' : F b ≠ none := by cases v <;> exact z
    cases q : F b with
    | none => exact absurd q z'
    | some u => exact ⟨u, (hf b u q).2.2.2⟩
/-- a new list, not frozen, is stored in a slot -/
theorem EnvR.setOwn {i : Nat} {a : Addr} {xs : List V} {l : List D} (h : EnvR K p H0 G H σ ρ) (np : a ≠ p) (n0 : H0 a = none) (ng : G a = none) (hh : H a = some (.lst xs)) (r : RpL K p G xs l)
    (fresh : ∀ (j : Nat) (o : Option V) (s' : S), j ≠ i → σ[j]? = some o → ρ[j]? = some s' → ¬ s'.reg o a) : EnvR K p H0 G H (σ.set i (some (.ref a))) (ρ.set i (.own l)) :=
  h.put (.own np n0 ng hh r) fun j o s' n e1 e2 b z => by
    cases (show b = a from z)
    exact fresh j o s' n e1 e2
theorem WS.setSh {i : Nat} {v : V} {d : D} (h : WS K p G0 H0 c G H σ ρ) (r : Rp K p G v d) : WS K p G0 H0 c G H (σ.set i (some v)) (ρ.set i (.sh d)) := ⟨h.gr, h.wd, h.en.setSh r⟩
theorem WS.setNo {i : Nat} {v : Option V} (h : WS K p G0 H0 c G H σ ρ) : WS K p G0 H0 c G H (σ.set i v) (ρ.set i .no) := ⟨h.gr, h.wd, h.en.setNo⟩
/-- fresh now is fresh at the entry -/
theorem WS.fresh0 {a : Addr} (h : WS K p G0 H0 c G H σ ρ) (hn : H a = none) : a ≠ p ∧ H0 a = none ∧ G a = none := by
  obtain ⟨u, hu⟩ := h.wd.np
  have np : a ≠ p := (ne_of_none hu hn).symm
  refine ⟨np, ?_, ?_⟩
  · cases q : H0 a with
    | none => rfl
    | some o => rw [h.gr.keep a o np q] at hn; cases hn
  · cases q : G a with
    | none => rfl
    | some o => rw [h.wd.sub a o q] at hn; cases hn
end
end Dm

namespace Dm
open PySem L2 Evl

abbrev XP := Err → Ro → Nat → Prop
/-- what is wished of an exception: on data (xe), on heaps (W) -/
def Xc (K : Cz) (p : Addr) (G0 H0 : Hp) (xe : XP) (W : WX) : Prop :=
  ∀ (e : Err) (ρ : Ro) (c : Nat) (σ : St) (G H : Hp) (cls : Value) (d : Option Addr), WS K p G0 H0 c G H σ ρ → ErrR K p G cls d e → xe e ρ c → W cls d σ H
abbrev DE := XP → Ro → Nat → (D → Nat → Prop) → Prop
abbrev DT := XP → Ro → Nat → (Bool → Nat → Prop) → Prop
abbrev DL := XP → Ro → Nat → (List D → Nat → Prop) → Prop
structure DEnds where
  nx : Ro → Nat → Prop
  rt : D → Nat → Prop
  /-- an answer that is new -/
  rtN : D → Nat → Prop := fun _ _ => False
  /-- an answer whose lists are new -/
  rtT : T → Nat → Prop := fun _ _ => False
  /-- an answer, the slots as they are then -/
  rtV : D → Ro → Nat → Prop := fun _ _ _ => False
  bk : Ro → Nat → Prop := fun _ _ => False
  ct : Ro → Nat → Prop := fun _ _ => False
abbrev DS := XP → DEnds → Ro → Nat → Prop
abbrev DG := D → Ro → (Ro → Prop) → Prop

section
variable (K : Cz) (W : WX)
def SimE (te : TE) (me : DE) : Prop := ∀ (p : Addr) (G0 H0 : Hp) (c : Nat) (G H : Hp) (σ : St) (ρ : Ro) (xe : XP) (Q : VK) (post : D → Nat → Prop), WS K p G0 H0 c G H σ ρ → Xc K p G0 H0 xe W → me xe ρ c post →
  (∀ d c' v G' H', post d c' → Grow p G H G' H' → Wd K p c' G' H' → Rp K p G' v d → Q v H') → te σ H Q
def SimO (te : TE) (me : DL) : Prop := ∀ (p : Addr) (G0 H0 : Hp) (c : Nat) (G H : Hp) (σ : St) (ρ : Ro) (xe : XP) (Q : VK) (post : List D → Nat → Prop), WS K p G0 H0 c G H σ ρ → Xc K p G0 H0 xe W → me xe ρ c post →
  (∀ l c' a xs G' H', post l c' → Grow p G H G' H' → Wd K p c' G' H' → H a = none → G' a = none → H' a = some (.lst xs) → RpL K p G' xs l → Q (.ref a) H') → te σ H Q
def SimT (te : TT) (me : DT) : Prop := ∀ (p : Addr) (G0 H0 : Hp) (c : Nat) (G H : Hp) (σ : St) (ρ : Ro) (xe : XP) (Q : Bool → Hp → Prop) (post : Bool → Nat → Prop), WS K p G0 H0 c G H σ ρ → Xc K p G0 H0 xe W → me xe ρ c post →
  (∀ b c' G' H', post b c' → Grow p G H G' H' → Wd K p c' G' H' → Q b H') → te σ H Q
def SimA (te : TA) (me : DL) : Prop := ∀ (p : Addr) (G0 H0 : Hp) (c : Nat) (G H : Hp) (σ : St) (ρ : Ro) (xe : XP) (Q : List V → Hp → Prop) (post : List D → Nat → Prop), WS K p G0 H0 c G H σ ρ → Xc K p G0 H0 xe W → me xe ρ c post →
  (∀ ds c' vs G' H', post ds c' → Grow p G H G' H' → Wd K p c' G' H' → RpL K p G' vs ds → Q vs H') → te σ H Q
structure EndsR (p : Addr) (G0 H0 : Hp) (N : Ends) (E : DEnds) : Prop where
  nx : ∀ (σ : St) (ρ : Ro) (c : Nat) (G H : Hp), WS K p G0 H0 c G H σ ρ → E.nx ρ c → N.nx σ H
  bk : ∀ (σ : St) (ρ : Ro) (c : Nat) (G H : Hp), WS K p G0 H0 c G H σ ρ → E.bk ρ c → N.bk σ H
  ct : ∀ (σ : St) (ρ : Ro) (c : Nat) (G H : Hp), WS K p G0 H0 c G H σ ρ → E.ct ρ c → N.ct σ H
  rt : ∀ (v : V) (d : D) (c : Nat) (G H : Hp), Grow p G0 H0 G H → Wd K p c G H → Rp K p G v d → E.rt d c → N.rt v H
  rtN : ∀ (v : V) (d : D) (c : Nat) (F G H : Hp), Grow p G0 H0 G H → Wd K p c G H → (∀ a o, F a = some o → G a = none ∧ H0 a = none ∧ a ≠ p ∧ H a = some o) → RpN K p G F v d → E.rtN d c → N.rt v H
  rtT : ∀ (v : V) (t : T) (c : Nat) (G H : Hp), Grow p G0 H0 G H → Wd K p c G H → TrR K p G H v t → t.as.Nodup → (∀ a ∈ t.as, G a = none ∧ H0 a = none ∧ a ≠ p) → E.rtT t c → N.rt v H
  rtV : ∀ (σ : St) (ρ : Ro) (v : V) (d : D) (c : Nat) (G H : Hp), WS K p G0 H0 c G H σ ρ → Rp K p G v d → E.rtV d ρ c → N.rt v H
def SimS (t : TS) (m : DS) : Prop := ∀ (p : Addr) (G0 H0 : Hp) (c : Nat) (G H : Hp) (σ : St) (ρ : Ro) (xe : XP) (N : Ends) (E : DEnds), WS K p G0 H0 c G H σ ρ → Xc K p G0 H0 xe W → EndsR K p G0 H0 N E → m xe E ρ c → t N σ H
/-- operations by values -/
abbrev DR1 := D → (D → Prop) → Prop
abbrev DR2 := D → D → (D → Prop) → Prop
abbrev DRL := List D → (D → Prop) → Prop
def SimR1 (r : V → Hp → VK → Prop) (f : DR1) : Prop := ∀ (p : Addr) (c : Nat) (G H : Hp) (x : V) (d : D) (Q : VK) (post : D → Prop), Wd K p c G H → Rp K p G x d → f d post →
  (∀ z v G' H', post z → Grow p G H G' H' → Wd K p c G' H' → Rp K p G' v z → Q v H') → r x H Q
def SimR2 (r : R2) (f : DR2) : Prop := ∀ (p : Addr) (c : Nat) (G H : Hp) (x y : V) (d e : D) (Q : VK) (post : D → Prop), Wd K p c G H → Rp K p G x d → Rp K p G y e → f d e post →
  (∀ z v G' H', post z → Grow p G H G' H' → Wd K p c G' H' → Rp K p G' v z → Q v H') → r x y H Q
def SimRL (r : List V → Hp → VK → Prop) (f : DRL) : Prop := ∀ (p : Addr) (c : Nat) (G H : Hp) (xs : List V) (ds : List D) (Q : VK) (post : D → Prop), Wd K p c G H → RpL K p G xs ds → f ds post →
  (∀ z v G' H', post z → Grow p G H G' H' → Wd K p c G' H' → Rp K p G' v z → Q v H') → r xs H Q
/-- targets -/
def SimG (g : TG) (mg : DG) : Prop := ∀ (p : Addr) (G0 H0 : Hp) (c : Nat) (G H : Hp) (σ : St) (ρ : Ro) (v : V) (d : D) (Q : St → Hp → Prop) (post : Ro → Prop), WS K p G0 H0 c G H σ ρ → Rp K p G v d → mg d ρ post →
  (∀ σ' ρ', post ρ' → WS K p G0 H0 c G H σ' ρ' → Q σ' H) → g v σ H Q
end

section
variable {K : Cz} {W : WX}
variable {p : Addr} {G0 H0 G H G' H' : Hp} {c c' : Nat} {σ : St} {ρ : Ro}

theorem Grow.tr {G1 H1 G2 H2 : Hp} (a : Grow p G H G1 H1) (b : Grow p G1 H1 G2 H2) (w : Wd K p c G2 H2) : Grow p G H G2 H2 := a.trans w.gp b

def mVar (i : Nat) : DE := fun _ ρ c Q => match ρ[i]? with | some (.sh d) => Q d c | _ => False
theorem sim_var {i : Nat} : SimE K W (tVar i) (mVar i) := by
  intro p G0 H0 c G H σ ρ xe Q post ws xc m k
  unfold mVar at m
  split at m
  · rename_i d e
    obtain ⟨v, h1, r⟩ := ws.en.sh e
    exact ⟨v, h1, k d c v G H m .refl ws.wd r⟩
  · exact m.elim
def mC (d : D) : DE := fun _ _ c Q => Q d c
theorem sim_int {i : Int} : SimE K W (tC (.int i)) (mC (.int i)) := fun p G0 H0 c G H σ ρ xe Q post ws xc m k => k _ c _ G H m .refl ws.wd (.int i)
theorem sim_bl {i : Bool} : SimE K W (tC (.bl i)) (mC (.bl i)) := fun p G0 H0 c G H σ ρ xe Q post ws xc m k => k _ c _ G H m .refl ws.wd (.bl i)
theorem sim_non : SimE K W (tC .non) (mC .non) := fun p G0 H0 c G H σ ρ xe Q post ws xc m k => k _ c _ G H m .refl ws.wd .non
theorem sim_str {i : Str} : SimE K W (tC (.str i)) (mC (.str i)) := fun p G0 H0 c G H σ ρ xe Q post ws xc m k => k _ c _ G H m .refl ws.wd (.str i)
def mOp (f : DR2) (ma mb : DE) : DE := fun xe ρ c Q => ma xe ρ c fun x c1 => mb xe ρ c1 fun y c2 => f x y fun z => Q z c2
theorem sim_op {r : R2} {f : DR2} {ta tb : TE} {ma mb : DE} (hr : SimR2 K r f) (ha : SimE K W ta ma) (hb : SimE K W tb mb) : SimE K W (tOp r ta tb) (mOp f ma mb) := by
  intro p G0 H0 c G H σ ρ xe Q post ws xc m k
  refine ha p G0 H0 c G H σ ρ xe _ _ ws xc m fun d c1 v G1 H1 m1 g1 w1 r1 => ?_
  refine hb p G0 H0 c1 G1 H1 σ ρ xe _ _ (ws.grow g1 w1) xc m1 fun e c2 u G2 H2 m2 g2 w2 r2 => ?_
  refine hr p c2 G2 H2 v u d e _ _ w2 (r1.up g2.ex) r2 m2 fun z y G3 H3 m3 g3 w3 r3 => ?_
  exact k z c2 y G3 H3 m3 ((g1.tr g2 w2).tr g3 w3) w3 r3
def mUn (f : DR1) (ma : DE) : DE := fun xe ρ c Q => ma xe ρ c fun x c1 => f x fun z => Q z c1
theorem sim_un {r : V → Hp → VK → Prop} {f : DR1} {ta : TE} {ma : DE} (hr : SimR1 K r f) (ha : SimE K W ta ma) : SimE K W (tUn r ta) (mUn f ma) := by
  intro p G0 H0 c G H σ ρ xe Q post ws xc m k
  refine ha p G0 H0 c G H σ ρ xe _ _ ws xc m fun d c1 v G1 H1 m1 g1 w1 r1 => ?_
  refine hr p c1 G1 H1 v d _ _ w1 r1 m1 fun z y G3 H3 m3 g3 w3 r3 => ?_
  exact k z c1 y G3 H3 m3 (g1.tr g3 w3) w3 r3
def mNil : DL := fun _ _ c Q => Q [] c
def mCons (ma : DE) (mr : DL) : DL := fun xe ρ c Q => ma xe ρ c fun x c1 => mr xe ρ c1 fun xs c2 => Q (x :: xs) c2
theorem sim_nil : SimA K W tNil mNil := fun p G0 H0 c G H σ ρ xe Q post ws xc m k => k [] c [] G H m .refl ws.wd .nil
theorem sim_cons {ta : TE} {ma : DE} {tr : TA} {mr : DL} (ha : SimE K W ta ma) (hr : SimA K W tr mr) : SimA K W (tCons ta tr) (mCons ma mr) := by
  intro p G0 H0 c G H σ ρ xe Q post ws xc m k
  refine ha p G0 H0 c G H σ ρ xe _ _ ws xc m fun d c1 v G1 H1 m1 g1 w1 r1 => ?_
  refine hr p G0 H0 c1 G1 H1 σ ρ xe _ _ (ws.grow g1 w1) xc m1 fun es c2 us G2 H2 m2 g2 w2 r2 => ?_
  exact k (d :: es) c2 (v :: us) G2 H2 m2 (g1.tr g2 w2) w2 (.cons (r1.up g2.ex) r2)
theorem Grow.sz : (1000000 : Nat) ≤ sizeLine := by decide
def mTup (ma : DL) : DE := fun xe ρ c Q => ma xe ρ c fun ds c1 => ds.length ≤ 1000000 ∧ Q (.tup ds) c1
theorem sim_tup {ta : TA} {ma : DL} (ha : SimA K W ta ma) : SimE K W (tTup ta) (mTup ma) := by
  intro p G0 H0 c G H σ ρ xe Q post ws xc m k
  refine ha p G0 H0 c G H σ ρ xe _ _ ws xc m fun ds c1 vs G1 H1 m1 g1 w1 r1 => ?_
  refine ⟨by rw [r1.len]; exact Nat.le_trans m1.1 Grow.sz, fun a ha => ?_⟩
  have g2 : Grow p G1 H1 (upd G1 a (.tup vs)) (upd H1 a (.tup vs)) := Grow.laid ha w1.sub
  have w2 := w1.laid (o := .tup vs) ha
  exact k _ c1 _ _ _ m1.2 (g1.tr g2 w2) w2 (.tup upd_same (r1.up g2.ex))
def mLst (ma : DL) : DL := fun xe ρ c Q => ma xe ρ c fun ds c1 => ds.length ≤ 1000000 ∧ Q ds c1
theorem sim_lstO {ta : TA} {ma : DL} (ha : SimA K W ta ma) : SimO K W (tLst ta) (mLst ma) := by
  intro p G0 H0 c G H σ ρ xe Q post ws xc m k
  refine ha p G0 H0 c G H σ ρ xe _ _ ws xc m fun ds c1 vs G1 H1 m1 g1 w1 r1 => ?_
  refine ⟨by rw [r1.len]; exact Nat.le_trans m1.1 Grow.sz, fun a ha => ?_⟩
  have g2 : Grow p G1 H1 G1 (upd H1 a (.lst vs)) := Grow.laidO ha
  have w2 := w1.laidO (o := .lst vs) ha
  have hG : G1 a = none := ((ws.grow g1 w1).fresh0 ha).2.2
  refine k ds c1 a vs _ _ m1.2 (g1.tr g2 w2) w2 ?_ hG upd_same r1
  cases q : H a with
  | none => rfl
  | some o =>
    have np : a ≠ p := ((ws.grow g1 w1).fresh0 ha).1
    rw [g1.keep a o np q] at ha; cases ha
/-- a new list, frozen -/
def mFrz (mo : DL) : DE := fun xe ρ c Q => mo xe ρ c fun l c1 => Q (.lst l) c1
theorem Wd.frz {a : Addr} {xs : List V} (w : Wd K p c G H) (hn : G a = none) (hh : H a = some (.lst xs)) (np : a ≠ p) : Wd K p c (upd G a (.lst xs)) H :=
  ⟨fun b o q => by
    by_cases e : b = a
    · subst e; rw [upd_same] at q; cases q; exact hh
    · rw [upd_ne e] at q; exact w.sub b o q, by rw [upd_ne np.symm]; exact w.gp, w.pl.of (Ex.new hn) fun _ h => h⟩
theorem sim_frz {te : TE} {mo : DL} (h : SimO K W te mo) : SimE K W te (mFrz mo) := by
  intro p G0 H0 c G H σ ρ xe Q post ws xc m k
  refine h p G0 H0 c G H σ ρ xe _ _ ws xc m fun l c1 a xs G1 H1 m1 g1 w1 ha hg hh r => ?_
  have np : a ≠ p := (ws.fresh0 ha).1
  have w2 := w1.frz hg hh np
  refine k _ c1 _ (upd G1 a (.lst xs)) H1 m1 ⟨g1.ex.trans (Ex.new hg), fun b o q => ?_, g1.keep, g1.pc⟩ w2 (.lst upd_same (r.up (Ex.new hg)))
  by_cases e : b = a
  · subst e; exact .inr ha
  · rw [upd_ne e] at q; exact g1.new b o q
def mTest (me : DE) : DT := fun xe ρ c Q => me xe ρ c fun d c' => match d with | .bl b => Q b c' | _ => False
theorem sim_test {te : TE} {me : DE} (h : SimE K W te me) : SimT K W (tTest te) (mTest me) := by
  intro p G0 H0 c G H σ ρ xe Q post ws xc m k
  refine h p G0 H0 c G H σ ρ xe _ _ ws xc m fun d c1 v G1 H1 m1 g1 w1 r1 => ?_
  cases r1 with
  | bl b => exact ⟨b, rfl, k b c1 G1 H1 m1 g1 w1⟩
  | _ => exact m1.elim
theorem sim_testB {te : TE} {me : DE} (h : SimE K W te me) : SimT K W (tB te) (mTest me) := sim_test h
def mAnd (mt mu : DT) : DT := fun xe ρ c Q => mt xe ρ c fun b c1 => if b = true then mu xe ρ c1 Q else Q false c1
def mOr (mt mu : DT) : DT := fun xe ρ c Q => mt xe ρ c fun b c1 => if b = true then Q true c1 else mu xe ρ c1 Q
def mNot (mt : DT) : DT := fun xe ρ c Q => mt xe ρ c fun b c1 => Q (!b) c1
variable {t u : TT} {mt mu : DT}
theorem sim_or (ha : SimT K W t mt) (hb : SimT K W u mu) : SimT K W (tOr t u) (mOr mt mu) := by
  intro p G0 H0 c G H σ ρ xe Q post ws xc m k
  refine ha p G0 H0 c G H σ ρ xe _ _ ws xc m fun b c1 G1 H1 m1 g1 w1 => ?_
  cases b with
  | false => exact hb p G0 H0 c1 G1 H1 σ ρ xe _ _ (ws.grow g1 w1) xc m1 fun b c2 G2 H2 m2 g2 w2 => k b c2 G2 H2 m2 (g1.tr g2 w2) w2
  | true => exact k true c1 G1 H1 m1 g1 w1
theorem sim_not (ha : SimT K W t mt) : SimT K W (tNot t) (mNot mt) := by
  intro p G0 H0 c G H σ ρ xe Q post ws xc m k
  exact ha p G0 H0 c G H σ ρ xe _ _ ws xc m fun b c1 G1 H1 m1 g1 w1 => k (!b) c1 G1 H1 m1 g1 w1
def mIf (mt : DT) (ma mb : DE) : DE := fun xe ρ c Q => mt xe ρ c fun b c1 => if b = true then ma xe ρ c1 Q else mb xe ρ c1 Q
theorem sim_if {ta tb : TE} {ma mb : DE} (ht : SimT K W t mt) (ha : SimE K W ta ma) (hb : SimE K W tb mb) : SimE K W (tIf t ta tb) (mIf mt ma mb) := by
  intro p G0 H0 c G H σ ρ xe Q post ws xc m k
  refine ht p G0 H0 c G H σ ρ xe _ _ ws xc m fun b c1 G1 H1 m1 g1 w1 => ?_
  cases b with
  | true => exact ha p G0 H0 c1 G1 H1 σ ρ xe _ _ (ws.grow g1 w1) xc m1 fun d c2 v G2 H2 m2 g2 w2 => k d c2 v G2 H2 m2 (g1.tr g2 w2) w2
  | false => exact hb p G0 H0 c1 G1 H1 σ ρ xe _ _ (ws.grow g1 w1) xc m1 fun d c2 v G2 H2 m2 g2 w2 => k d c2 v G2 H2 m2 (g1.tr g2 w2) w2
/-- and, or, not as values -/
def mAndV (ma mb : DE) : DE := fun xe ρ c Q => ma xe ρ c fun d c1 => match d with | .bl b => if b = true then mb xe ρ c1 Q else Q (.bl false) c1 | _ => False
def mOrV (ma mb : DE) : DE := fun xe ρ c Q => ma xe ρ c fun d c1 => match d with | .bl b => if b = true then Q (.bl true) c1 else mb xe ρ c1 Q | _ => False
def mNotV (ma : DE) : DE := fun xe ρ c Q => ma xe ρ c fun d c1 => match d with | .bl b => Q (.bl (!b)) c1 | _ => False
theorem sim_andV {ta tb : TE} {ma mb : DE} (ha : SimE K W ta ma) (hb : SimE K W tb mb) : SimE K W (tAndV ta tb) (mAndV ma mb) := by
  intro p G0 H0 c G H σ ρ xe Q post ws xc m k
  refine ha p G0 H0 c G H σ ρ xe _ _ ws xc m fun d c1 v G1 H1 m1 g1 w1 r1 => ?_
  cases r1 with
  | bl b =>
    refine ⟨b, rfl, ?_⟩
    cases b with
    | true => exact hb p G0 H0 c1 G1 H1 σ ρ xe _ _ (ws.grow g1 w1) xc m1 fun d c2 v G2 H2 m2 g2 w2 => k d c2 v G2 H2 m2 (g1.tr g2 w2) w2
    | false => exact k _ c1 _ G1 H1 m1 g1 w1 (.bl false)
  | _ => exact m1.elim
theorem sim_notV {ta : TE} {ma : DE} (ha : SimE K W ta ma) : SimE K W (tNotV ta) (mNotV ma) := by
  intro p G0 H0 c G H σ ρ xe Q post ws xc m k
  refine ha p G0 H0 c G H σ ρ xe _ _ ws xc m fun d c1 v G1 H1 m1 g1 w1 r1 => ?_
  cases r1 with
  | bl b => exact ⟨b, rfl, k _ c1 _ G1 H1 m1 g1 w1 (.bl _)⟩
  | _ => exact m1.elim
def mCB (f : DRL) (ma : DL) : DE := fun xe ρ c Q => ma xe ρ c fun ds c1 => f ds fun z => Q z c1
theorem sim_cb {r : List V → Hp → VK → Prop} {f : DRL} {ta : TA} {ma : DL} (hr : SimRL K r f) (ha : SimA K W ta ma) : SimE K W (tCB r ta) (mCB f ma) := by
  intro p G0 H0 c G H σ ρ xe Q post ws xc m k
  refine ha p G0 H0 c G H σ ρ xe _ _ ws xc m fun ds c1 vs G1 H1 m1 g1 w1 r1 => ?_
  refine hr p c1 G1 H1 vs ds _ _ w1 r1 m1 fun z y G3 H3 m3 g3 w3 r3 => ?_
  exact k z c1 y G3 H3 m3 (g1.tr g3 w3) w3 r3
/-- what a def says on data: wished of errors, arguments, draws so far, wished of the answer -/
abbrev DF := (Err → Nat → Prop) → List D → Nat → (D → Nat → Prop) → Prop
def spS (K : Cz) (f : DF) : Sp := fun vs H Q E => ∃ (p : Addr) (G : Hp) (c : Nat) (ds : List D) (xe : Err → Nat → Prop) (rt : D → Nat → Prop), Wd K p c G H ∧ RpL K p G vs ds ∧ f xe ds c rt ∧
  (∀ d c' v G' H', rt d c' → Grow p G H G' H' → Wd K p c' G' H' → Rp K p G' v d → Q v H') ∧ (∀ e c' cls dd G' H', xe e c' → Grow p G H G' H' → Wd K p c' G' H' → ErrR K p G' cls dd e → E cls dd H')
def mCall (f : DF) (ma : DL) : DE := fun xe ρ c Q => ma xe ρ c fun ds c1 => f (fun e c' => xe e ρ c') ds c1 Q
def mCall0 (f : DF) (ma : DL) : DE := fun xe ρ c Q => ma xe ρ c fun ds c1 => f (fun _ _ => False) ds c1 Q
theorem sim_call0 {f : DF} {ta : TA} {ma : DL} (ha : SimA K W ta ma) : SimE K W (tCall (spS K f) [] E0 ta) (mCall0 f ma) := by
  intro p G0 H0 c G H σ ρ xe Q post ws xc m k
  refine ha p G0 H0 c G H σ ρ xe _ _ ws xc m fun ds c1 vs G1 H1 m1 g1 w1 r1 => ?_
  rw [List.append_nil]
  exact ⟨p, G1, c1, ds, _, post, w1, r1, m1, fun d c2 v G2 H2 m2 g2 w2 r2 => k d c2 v G2 H2 m2 (g1.tr g2 w2) w2 r2, fun e c2 cls dd G2 H2 m2 g2 w2 r2 => m2⟩

def gN (i : Nat) : DG := fun d ρ Q => Q (ρ.set i (.sh d))
theorem sim_gn {i : Nat} : SimG K (gName i) (gN i) := fun p G0 H0 c G H σ ρ v d Q post ws r m k => k _ _ m (ws.setSh r)
def SimGs (K : Cz) (g : TGs) (mg : List D → Ro → (Ro → Prop) → Prop) : Prop := ∀ (p : Addr) (G0 H0 : Hp) (c : Nat) (G H : Hp) (σ : St) (ρ : Ro) (vs : List V) (ds : List D) (Q : St → Hp → Prop) (post : Ro → Prop), WS K p G0 H0 c G H σ ρ → RpL K p G vs ds → mg ds ρ post →
  (∀ σ' ρ', post ρ' → WS K p G0 H0 c G H σ' ρ' → Q σ' H) → g vs σ H Q
def gsN : List D → Ro → (Ro → Prop) → Prop := fun ds ρ Q => match ds with | [] => Q ρ | _ => False
def gsC (mg : DG) (mr : List D → Ro → (Ro → Prop) → Prop) : List D → Ro → (Ro → Prop) → Prop := fun ds ρ Q => match ds with | d :: r => mg d ρ fun ρ' => mr r ρ' Q | [] => False
theorem sim_gsn : SimGs K gNil gsN := by
  intro p G0 H0 c G H σ ρ vs ds Q post ws r m k
  cases r with
  | nil => exact ⟨rfl, k _ _ m ws⟩
  | cons => exact m.elim
theorem sim_gsc {g : TG} {mg : DG} {gr : TGs} {mr : List D → Ro → (Ro → Prop) → Prop} (h : SimG K g mg) (hr : SimGs K gr mr) : SimGs K (gCons g gr) (gsC mg mr) := by
  intro p G0 H0 c G H σ ρ vs ds Q post ws r m k
  cases r with
  | nil => exact m.elim
  | cons r1 r2 =>
    refine ⟨_, _, rfl, h p G0 H0 c G H σ ρ _ _ _ _ ws r1 m fun σ' ρ' m' ws' => ?_⟩
    exact hr p G0 H0 c G H σ' ρ' _ _ _ _ ws' r2 m' k
def gT (n : Nat) (mg : List D → Ro → (Ro → Prop) → Prop) : DG := fun d ρ Q => match d with | .tup l => l.length = n ∧ mg l ρ Q | _ => False
theorem sim_gt {n : Nat} {g : TGs} {mg : List D → Ro → (Ro → Prop) → Prop} (h : SimGs K g mg) : SimG K (gTup K.K n g) (gT n mg) := by
  intro p G0 H0 c G H σ ρ v d Q post ws r m k
  cases r with
  | tup h1 h2 => exact ⟨_, _, rfl, st_of (ws.wd.sub _ _ h1), by rw [h2.len]; exact m.1, h p G0 H0 c G H σ ρ _ _ _ _ ws h2 m.2 k⟩
  | _ => exact m.elim

variable {t1 t2 : TS} {m1 m2 : DS}
def mNext : DS := fun _ E ρ c => E.nx ρ c
def mSeq (m1 m2 : DS) : DS := fun xe E ρ c => m1 xe { E with nx := m2 xe E } ρ c
theorem sim_next : SimS K W tNext mNext := fun p G0 H0 c G H σ ρ xe N E ws xc er m => er.nx _ _ _ _ _ ws m
theorem sim_seq (h1 : SimS K W t1 m1) (h2 : SimS K W t2 m2) : SimS K W (tSeq t1 t2) (mSeq m1 m2) := by
  intro p G0 H0 c G H σ ρ xe N E ws xc er m
  exact h1 p G0 H0 c G H σ ρ xe _ { E with nx := m2 xe E } ws xc ⟨fun σ ρ c G H ws' m' => h2 p G0 H0 c G H σ ρ xe N E ws' xc er m', er.bk, er.ct, er.rt, er.rtN, er.rtT, er.rtV⟩ m
def mAsg (me : DE) (mg : DG) : DS := fun xe E ρ c => me xe ρ c fun d c1 => mg d ρ fun ρ' => E.nx ρ' c1
theorem sim_asg {te : TE} {me : DE} {g : TG} {mg : DG} (h : SimE K W te me) (hg : SimG K g mg) : SimS K W (tAsg te g) (mAsg me mg) := by
  intro p G0 H0 c G H σ ρ xe N E ws xc er m
  refine h p G0 H0 c G H σ ρ xe _ _ ws xc m fun d c1 v G1 H1 m1 g1 w1 r1 => ?_
  exact hg p G0 H0 c1 G1 H1 σ ρ v d _ _ (ws.grow g1 w1) r1 m1 fun σ' ρ' m' ws' => er.nx _ _ _ _ _ ws' m'
/-- x = a new list, of one's own -/
def mAsgO (mo : DL) (i : Nat) : DS := fun xe E ρ c => mo xe ρ c fun l c1 => E.nx (ρ.set i (.own l)) c1
theorem sim_asgO {te : TE} {mo : DL} {i : Nat} (h : SimO K W te mo) : SimS K W (tAsg te (gName i)) (mAsgO mo i) := by
  intro p G0 H0 c G H σ ρ xe N E ws xc er m
  refine h p G0 H0 c G H σ ρ xe _ _ ws xc m fun l c1 a xs G1 H1 m1 g1 w1 ha hg hh r => ?_
  obtain ⟨np, n0, _⟩ := ws.fresh0 ha
  have ws1 := ws.grow g1 w1
  exact er.nx _ _ _ _ _ ⟨ws1.gr, ws1.wd, ws1.en.setOwn np n0 hg hh r fun j o s' ne e1 e2 z => by
    obtain ⟨u, hu⟩ := (ws.en.sl j o s' e1 e2).reg_in z
    rw [ha] at hu; cases hu⟩ m1
def mRet (me : DE) : DS := fun xe E ρ c => me xe ρ c fun d c1 => E.rt d c1
theorem sim_ret {te : TE} {me : DE} (h : SimE K W te me) : SimS K W (tRet te) (mRet me) := by
  intro p G0 H0 c G H σ ρ xe N E ws xc er m
  exact h p G0 H0 c G H σ ρ xe _ _ ws xc m fun d c1 v G1 H1 m1 g1 w1 r1 => er.rt v d c1 G1 H1 (ws.gr.trans w1.gp g1) w1 r1 m1
def mRetN : DS := fun _ E ρ c => E.rt .non c
def mIfS (mt : DT) (m1 m2 : DS) : DS := fun xe E ρ c => mt xe ρ c fun b c1 => if b = true then m1 xe E ρ c1 else m2 xe E ρ c1
theorem sim_ifS (ht : SimT K W t mt) (h1 : SimS K W t1 m1) (h2 : SimS K W t2 m2) : SimS K W (tIfS t t1 t2) (mIfS mt m1 m2) := by
  intro p G0 H0 c G H σ ρ xe N E ws xc er m
  refine ht p G0 H0 c G H σ ρ xe _ _ ws xc m fun b c1 G1 H1 m1 g1 w1 => ?_
  cases b with
  | true => exact h1 p G0 H0 c1 G1 H1 σ ρ xe N E (ws.grow g1 w1) xc er m1
  | false => exact h2 p G0 H0 c1 G1 H1 σ ρ xe N E (ws.grow g1 w1) xc er m1
def mDrop (me : DE) : DS := fun xe E ρ c => me xe ρ c fun _ c1 => E.nx ρ c1
theorem sim_drop {te : TE} {me : DE} (h : SimE K W te me) : SimS K W (tDrop te) (mDrop me) := by
  intro p G0 H0 c G H σ ρ xe N E ws xc er m
  exact h p G0 H0 c G H σ ρ xe _ _ ws xc m fun d c1 v G1 H1 m1 g1 w1 r1 => er.nx _ _ _ _ _ (ws.grow g1 w1) m1
/-- a, b = x, y -/
def mPar (i j : Nat) (ma : DL) : DS := fun xe E ρ c => ma xe ρ c fun ds c1 => match ds with | [x, y] => E.nx ((ρ.set i (.sh x)).set j (.sh y)) c1 | _ => False
theorem sim_par {i j : Nat} {ta : TA} {ma : DL} (h : SimA K W ta ma) : SimS K W (tPar i j ta) (mPar i j ma) := by
  intro p G0 H0 c G H σ ρ xe N E ws xc er m
  refine h p G0 H0 c G H σ ρ xe _ _ ws xc m fun ds c1 vs G1 H1 m1 g1 w1 r1 => ?_
  cases r1 with
  | nil => exact m1.elim
  | cons r1 r2 =>
    cases r2 with
    | nil => exact m1.elim
    | cons r2 r3 =>
      cases r3 with
      | nil => exact ⟨_, _, rfl, er.nx _ _ _ _ _ (((ws.grow g1 w1).setSh r1).setSh r2) m1⟩
      | cons => exact m1.elim
/-- another slot's description behind a change at a, which is no part of its own -/
theorem SlotR.apart {o : Option V} {s : S} {a : Addr} {u : HO} (h : SlotR K p H0 G H o s) (n : ¬ s.reg o a) : SlotR K p H0 G (upd H a u) o s := by
  cases h with
  | no => exact .no
  | sh r => exact .sh r
  | exc h => exact .exc h
  | adr => exact .adr
  | scr h1 h2 => exact .scr h1 h2
  | dz h => exact .dz h
  | dc h hf =>
    rw [reg_dc] at n
    exact .dc (h.frame (Ex.refl _) fun b q => upd_ne fun z => n (by rw [← z]; exact q)) hf
  | ob h hf =>
    rw [reg_ob] at n
    exact .ob (h.frame (Ex.refl _) fun b q => upd_ne fun z => n (by rw [← z]; exact q)) hf
  | @tr v t h nd hf =>
    rw [reg_tr] at n
    exact .tr (TrR.frame (Ex.refl _) _ _ (fun b q => upd_ne fun z => n (by rw [← z]; exact q)) h) nd hf
  | own np n0 hg hh r => exact .own np n0 hg (by rw [upd_ne (fun z => n z.symm)]; exact hh) r
  | obj hc np n0 hg hh r => exact .obj hc np n0 hg (by rw [upd_ne (fun z => n z.symm)]; exact hh) r
  | @frs v F d hf r =>
    refine .frs (fun b w q => ?_) r
    obtain ⟨q1, q2, q3, q4⟩ := hf b w q
    refine ⟨q1, q2, q3, ?_⟩
    have nb : b ≠ a := fun z => by
      subst z
      have : F b ≠ none := by rw [q]; exact nofun
      exact n (by cases v <;> exact this)
    rw [upd_ne nb]; exact q4
theorem WS.ownUpd {i : Nat} {a : Addr} {l m : List D} {xs ys : List V} (h : WS K p G0 H0 c G H σ ρ) (e : ρ[i]? = some (.own l)) (e2 : σ[i]? = some (some (.ref a))) (hh : H a = some (.lst xs)) (np : a ≠ p) (n0 : H0 a = none) (hg : G a = none)
    (r : RpL K p G ys m) : WS K p G0 H0 c G (upd H a (.lst ys)) σ (ρ.set i (.own m)) := by
  have il : i < ρ.length := (List.getElem?_eq_some_iff.mp e).1
  refine ⟨⟨h.gr.ex, h.gr.new, fun b o hb q => ?_, fun zs q => ?_⟩, ⟨fun b o q => ?_, h.wd.gp, h.wd.pl.of (Ex.refl _) fun o q => by rw [upd_ne np.symm]; exact q⟩, by simp [h.en.len], fun j o s q1 q2 => ?_, fun j k o o' s s' ne q1 q2 q3 q4 b z => ?_⟩
  · rw [upd_ne (ne_of_none q n0)]; exact h.gr.keep b o hb q
  · obtain ⟨us, h1, h2⟩ := h.gr.pc zs q
    exact ⟨us, by rw [upd_ne np.symm]; exact h1, h2⟩
  · rw [upd_ne (ne_of_none q hg)]; exact h.wd.sub b o q
  · by_cases z : i = j
    · subst z
      rw [List.getElem?_set_self il] at q2
      cases q2
      rw [e2] at q1; cases q1
      exact .own np n0 hg upd_same r
    · rw [List.getElem?_set_ne z] at q2
      exact (h.en.sl j o s q1 q2).apart fun y => h.en.dis i j _ o _ s z e2 e q1 q2 a rfl y
  · have old : ∀ (j : Nat) (o : Option V) (s : S), σ[j]? = some o → (ρ.set i (.own m))[j]? = some s → ∃ s1, ρ[j]? = some s1 ∧ ∀ b, s.reg o b ↔ s1.reg o b := fun j o s y1 y2 => by
      by_cases z : i = j
      · subst z
        rw [List.getElem?_set_self il] at y2
        cases y2
        rw [e2] at y1; cases y1
        exact ⟨_, e, fun b => Iff.rfl⟩
      · rw [List.getElem?_set_ne z] at y2; exact ⟨_, y2, fun b => Iff.rfl⟩
    obtain ⟨s1, a1, b1⟩ := old j o s q1 q2
    obtain ⟨s2, a2, b2⟩ := old k o' s' q3 q4
    exact fun y => h.en.dis j k o o' s1 s2 ne q1 a1 q3 a2 b ((b1 b).mp z) ((b2 b).mp y)
/-- what a slot has of its own is frozen -/
theorem WS.meltS {i : Nat} {v : V} {s s1 : S} {F : Hp} (h : WS K p G0 H0 c G H σ ρ) (e2 : σ[i]? = some (some v)) (e : ρ[i]? = some s) (hf : ∀ a o, F a = some o → G a = none ∧ H0 a = none ∧ a ≠ p ∧ H a = some o) (hr : ∀ a, F a ≠ none → s.reg (some v) a) (r : SlotR K p H0 (mrg G F) H (some v) s1) (nr : ∀ b, ¬ s1.reg (some v) b) :
    WS K p G0 H0 c (mrg G F) H σ (ρ.set i s1) := by
  have il : i < ρ.length := (List.getElem?_eq_some_iff.mp e).1
  have ex : Ex G (mrg G F) := mg_ex fun a o q => (hf a o q).1
  have inv : ∀ a o, mrg G F a = some o → F a = some o ∨ (F a = none ∧ G a = some o) := fun a o q => by
    unfold mrg at q
    cases z : F a with
    | none => rw [z] at q; exact .inr ⟨rfl, q⟩
    | some u => rw [z] at q; exact .inl q
  refine ⟨⟨h.gr.ex.trans ex, fun a o q => ?_, h.gr.keep, h.gr.pc⟩, ⟨fun a o q => ?_, ?_, h.wd.pl.of ex fun _ q => q⟩, by simp [h.en.len], fun j o s' q1 q2 => ?_, fun j k o o' s' s'' ne q1 q2 q3 q4 b z => ?_⟩
  · rcases inv a o q with z | z
    · exact .inr (hf a o z).2.1
    · exact h.gr.new a o z.2
  · rcases inv a o q with z | z
    · exact (hf a o z).2.2.2
    · exact h.wd.sub a o z.2
  · cases q : mrg G F p with
    | none => rfl
    | some o =>
      rcases inv p o q with z | z
      · exact absurd rfl (hf p o z).2.2.1
      · rw [h.wd.gp] at z; cases z.2
  · by_cases z : i = j
    · subst z
      rw [List.getElem?_set_self il] at q2
      cases q2
      rw [e2] at q1; cases q1
      exact r
    · rw [List.getElem?_set_ne z] at q2
      have s0 := h.en.sl j o s' q1 q2
      have dj := h.en.dis i j _ o _ s' z e2 e q1 q2
      cases s0 with
      | no => exact .no
      | sh r => exact .sh (r.up ex)
      | exc h => exact .exc (h.up ex)
      | adr => exact .adr
      | scr h1 h2 => exact .scr h1 (sql_up ex h2)
      | dz h => exact .dz (h.up ex)
      | dc h' hf' =>
        refine .dc (h'.frame ex fun _ _ => rfl) fun a q => ?_
        obtain ⟨y1, y2, y3⟩ := hf' a q
        refine ⟨?_, y2, y3⟩
        unfold mrg
        cases y : F a with
        | none => exact y1
        | some u => exact absurd (by rw [reg_dc]; exact q) (dj a (hr a (by rw [y]; exact nofun)))
      | ob h' hf' =>
        refine .ob (h'.frame ex fun _ _ => rfl) fun a q => ?_
        obtain ⟨y1, y2, y3⟩ := hf' a q
        refine ⟨?_, y2, y3⟩
        unfold mrg
        cases y : F a with
        | none => exact y1
        | some u => exact absurd (by rw [reg_ob]; exact q) (dj a (hr a (by rw [y]; exact nofun)))
      | @tr v' t' h' nd' hf' =>
        refine .tr (TrR.frame ex _ _ (fun _ _ => rfl) h') nd' fun a q => ?_
        obtain ⟨y1, y2, y3⟩ := hf' a q
        refine ⟨?_, y2, y3⟩
        unfold mrg
        cases y : F a with
        | none => exact y1
        | some u => exact absurd (by rw [reg_tr]; exact q) (dj a (hr a (by rw [y]; exact nofun)))
      | @obj nm a C dx fs gs hc np' n0' hg' hh' r' =>
        refine .obj hc np' n0' ?_ hh' (r'.up ex)
        unfold mrg
        cases y : F a with
        | none => exact hg'
        | some u => exact absurd rfl (dj a (hr a (by rw [y]; exact nofun)))
      | @own a xs l np' n0' hg' hh' r' =>
        refine .own np' n0' ?_ hh' (r'.up ex)
        unfold mrg
        cases y : F a with
        | none => exact hg'
        | some u => exact absurd rfl (dj a (hr a (by rw [y]; exact nofun)))
      | @frs v' F' d' hf' r' =>
        refine .frs (fun a o q => ?_) (r'.up ex)
        obtain ⟨y1, y2, y3, y4⟩ := hf' a o q
        refine ⟨?_, y2, y3, y4⟩
        unfold mrg
        cases y : F a with
        | none => exact y1
        | some u =>
          have : F' a ≠ none := by rw [q]; exact nofun
          exact absurd (by cases v' <;> exact this) (dj a (hr a (by rw [y]; exact nofun)))
  · have old : ∀ (j : Nat) (o : Option V) (s' : S), σ[j]? = some o → (ρ.set i s1)[j]? = some s' → s'.reg o b → j ≠ i ∧ ρ[j]? = some s' := fun j o s' y1 y2 y3 => by
      by_cases z : i = j
      · subst z
        rw [List.getElem?_set_self il] at y2
        rw [e2] at y1
        cases y2
        cases y1
        exact absurd y3 (nr b)
      · rw [List.getElem?_set_ne z] at y2; exact ⟨Ne.symm z, y2⟩
    intro y
    obtain ⟨_, a1⟩ := old j o s' q1 q2 z
    obtain ⟨_, a2⟩ := old k o' s'' q3 q4 y
    exact h.en.dis j k o o' s' s'' ne q1 a1 q3 a2 b z y
theorem WS.melt {i : Nat} {v : V} {s : S} {F : Hp} {d : D} (h : WS K p G0 H0 c G H σ ρ) (e2 : σ[i]? = some (some v)) (e : ρ[i]? = some s) (hf : ∀ a o, F a = some o → G a = none ∧ H0 a = none ∧ a ≠ p ∧ H a = some o) (hr : ∀ a, F a ≠ none → s.reg (some v) a) (r : Rp K p (mrg G F) v d) :
    WS K p G0 H0 c (mrg G F) H σ (ρ.set i (.sh d)) := h.meltS e2 e hf hr (.sh r) fun _ => reg_sh
/-- an own list's region -/
def one (a : Addr) (o : HO) : Hp := fun b => if b = a then some o else none
theorem one_at {a b : Addr} {o u : HO} (h : one a o b = some u) : b = a ∧ u = o := by
  unfold one at h
  split at h
  · rename_i e; exact ⟨e, (Option.some.inj h).symm⟩
  · cases h
theorem WS.freeze {i : Nat} {l : List D} (h : WS K p G0 H0 c G H σ ρ) (e : ρ[i]? = some (.own l)) : ∃ F, (∀ a o, F a = some o → G a = none) ∧ WS K p G0 H0 c (mrg G F) H σ (ρ.set i (.sh (.lst l))) := by
  obtain ⟨a, xs, e2, np, n0, hg, hh, r⟩ := h.en.own e
  have hf : ∀ b o, one a (.lst xs) b = some o → G b = none ∧ H0 b = none ∧ b ≠ p ∧ H b = some o := fun b o q => by
    obtain ⟨rfl, rfl⟩ := one_at q
    exact ⟨hg, n0, np, hh⟩
  refine ⟨one a (.lst xs), fun b o q => (hf b o q).1, h.melt e2 e hf (fun b q => ?_) (.lst ?_ (r.up (mg_ex fun b o q => (hf b o q).1)))⟩
  · show b = a
    cases y : one a (.lst xs) b with
    | none => exact absurd y q
    | some u => exact (one_at y).1
  · show mrg G (one a (.lst xs)) a = some (.lst xs)
    have z : one a (.lst xs) a = some (.lst xs) := if_pos rfl
    unfold mrg
    rw [z]
theorem EnvR.frs {i : Nat} {F : Hp} {d : D} (h : EnvR K p H0 G H σ ρ) (e : ρ[i]? = some (.frs F d)) : ∃ v, σ[i]? = some (some v) ∧ (∀ a o, F a = some o → G a = none ∧ H0 a = none ∧ a ≠ p ∧ H a = some o) ∧ RpN K p G F v d := by
  obtain ⟨o, h1, h2⟩ := h.get e
  cases h2 with
  | frs hf r => exact ⟨_, h1, hf, r⟩
theorem WS.freezeF {i : Nat} {F : Hp} {d : D} (h : WS K p G0 H0 c G H σ ρ) (e : ρ[i]? = some (.frs F d)) : WS K p G0 H0 c (mrg G F) H σ (ρ.set i (.sh d)) := by
  obtain ⟨v, e2, hf, r⟩ := h.en.frs e
  exact h.melt e2 e hf (fun a q => by cases v <;> exact q) r.rp
/-- back to what stood still before -/
theorem Wd.back {G1 : Hp} {c1 : Nat} (w : Wd K p c G H) (ex : Ex G G1) (g : Grow p G1 H G' H') (w' : Wd K p c1 G' H') : Wd K p c1 G H' ∧ Grow p G H G H' := by
  obtain ⟨t, r, cs, ns, q1, q2, q3, _⟩ := w.pl
  obtain ⟨t', r', cs', ns', z1, z2, z3, z4⟩ := w'.pl
  obtain ⟨ys, y1, y2⟩ := g.pc _ q1
  rw [z1] at y1
  have e0 : [V.int t', V.int r', V.ref cs'] = ys := by injection y1 with y1; injection y1
  rw [← e0] at y2
  have e : cs' = cs := by simpa using y2
  subst e
  have ew : G' cs' = some (.lst (ns.map V.int)) := g.ex _ _ (ex _ _ q2)
  have en : ns'.map V.int = ns.map V.int := by rw [z2] at ew; injection ew with ew; injection ew
  have hl : ns'.length = ns.length := by simpa using congrArg List.length en
  exact ⟨⟨fun a o q => w'.sub a o (g.ex a o (ex a o q)), w.gp, t', r', cs', ns, z1, q2, q3, z4⟩, Ex.refl _, fun _ _ q => .inl q, g.keep, g.pc⟩
/-- a test that looks at what a slot has of its own -/
def mTmpT (i : Nat) (mt : DT) : DT := fun xe ρ c Q => match ρ[i]? with
  | some (.own l) => mt (fun _ _ _ => False) (ρ.set i (.sh (.lst l))) c Q
  | some (.frs _ d) => mt (fun _ _ _ => False) (ρ.set i (.sh d)) c Q
  | _ => False
theorem sim_tmpT {i : Nat} (h : SimT K W t mt) : SimT K W t (mTmpT i mt) := by
  intro p G0 H0 c G H σ ρ xe Q post ws xc m k
  unfold mTmpT at m
  split at m
  · rename_i l e
    obtain ⟨F, hF, ws'⟩ := ws.freeze e
    refine h p G0 H0 c _ H σ _ _ _ _ ws' (fun _ _ _ _ _ _ _ _ _ _ z => z.elim) m fun b c1 G1 H1 m1 g1 w1 => ?_
    obtain ⟨w2, g2⟩ := ws.wd.back (mg_ex hF) g1 w1
    exact k b c1 G H1 m1 g2 w2
  · rename_i F d e
    have ws' := ws.freezeF e
    obtain ⟨v, e2, hf, r⟩ := ws.en.frs e
    refine h p G0 H0 c _ H σ _ _ _ _ ws' (fun _ _ _ _ _ _ _ _ _ _ z => z.elim) m fun b c1 G1 H1 m1 g1 w1 => ?_
    obtain ⟨w2, g2⟩ := ws.wd.back (mg_ex fun a o q => (hf a o q).1) g1 w1
    exact k b c1 G H1 m1 g2 w2
  · exact m.elim
end
end Dm

namespace Dm
open PySem L2 Evl
open PyProof.Rows (envOfC)
section
variable {K : Cz} {W : WX}
variable {p : Addr} {G0 H0 G H G' H' : Hp} {c c' : Nat} {σ : St} {ρ : Ro}
def mApp (i : Nat) (me : DE) : DS := fun xe E ρ c => match ρ[i]? with | some (.own l) => l.length < 1000000 ∧ me xe ρ c fun d c1 => E.nx (ρ.set i (.own (l ++ [d]))) c1 | _ => False
theorem sim_app {i : Nat} {te : TE} {me : DE} (h : SimE K W te me) : SimS K W (tDrop (tBM K.K "list" rAppend (tVar i) (tCons te tNil))) (mApp i me) := by
  intro p G0 H0 c G H σ ρ xe N E ws xc er m
  unfold mApp at m
  split at m
  · rename_i l e
    obtain ⟨a, xs, e2, np, n0, hg, hh, r⟩ := ws.en.own e
    refine ⟨.ref a, e2, Or.inl ⟨rfl, xs, sq_of hh⟩, ?_⟩
    refine h p G0 H0 c G H σ ρ xe _ _ ws xc m.2 fun d c1 v G1 H1 m1 g1 w1 r1 => ?_
    have ws1 := ws.grow g1 w1
    obtain ⟨a', xs', e2', np', n0', hg', hh', r'⟩ := ws1.en.own e
    rw [e2] at e2'; cases e2'
    refine ⟨a, xs', v, rfl, rfl, hh', by rw [r'.len]; exact Nat.lt_of_lt_of_le m.1 Grow.sz, ?_⟩
    exact er.nx _ _ _ _ _ (ws1.ownUpd e e2 hh' np n0 hg' (r'.append (.cons r1 .nil))) m1
  · exact m.elim
/-- the list of slot i is frozen ahead of a statement -/
def mFreeze (i : Nat) (m : DS) : DS := fun xe E ρ c => match ρ[i]? with | some (.own l) => m xe E (ρ.set i (.sh (.lst l))) c | _ => False
theorem sim_freeze {i : Nat} {t : TS} {m : DS} (h : SimS K W t m) : SimS K W t (mFreeze i m) := by
  intro p G0 H0 c G H σ ρ xe N E ws xc er q
  unfold mFreeze at q
  split at q
  · rename_i l e
    obtain ⟨F, hF, ws'⟩ := ws.freeze e
    exact h p G0 H0 c _ H σ _ xe N E ws' xc er q
  · exact q.elim
/-- x = e, x's list becomes one's own -/
def mSetI (i : Nat) (mj me : DE) : DS := fun xe E ρ c => match ρ[i]? with
  | some (.own l) => me xe ρ c fun d c1 => mj xe ρ c1 fun j c2 => match j with
    | .int k => (∃ n, ixN l.length k = some n ∧ E.nx (ρ.set i (.own (l.set n d))) c2)
    | _ => False
  | _ => False
theorem sim_setI {i : Nat} {tj te : TE} {mj me : DE} (hj : SimE K W tj mj) (h : SimE K W te me) : SimS K W (tAsg te (gSub (tVar i) tj rSetL)) (mSetI i mj me) := by
  intro p G0 H0 c G H σ ρ xe N E ws xc er m
  unfold mSetI at m
  split at m
  · rename_i l e
    refine h p G0 H0 c G H σ ρ xe _ _ ws xc m fun d c1 v G1 H1 m1 g1 w1 r1 => ?_
    have ws1 := ws.grow g1 w1
    obtain ⟨a, xs, e2, np, n0, hg, hh, r⟩ := ws1.en.own e
    refine ⟨.ref a, e2, ?_⟩
    refine hj p G0 H0 c1 G1 H1 σ ρ xe _ _ ws1 xc m1 fun j c2 u G2 H2 m2 g2 w2 r2 => ?_
    have ws2 := ws1.grow g2 w2
    obtain ⟨a', xs', e2', np', n0', hg', hh', r'⟩ := ws2.en.own e
    rw [e2] at e2'; cases e2'
    cases r2 with
    | int k =>
      obtain ⟨n, q1, q2⟩ := m2
      refine ⟨a, xs', k, n, rfl, rfl, hh', by rw [r'.len]; exact q1, ?_⟩
      exact er.nx _ _ _ _ _ (ws2.ownUpd e e2 hh' np n0 hg' (RpL.set (r1.up g2.ex) n r')) q2
    | _ => exact m2.elim
  · exact m.elim

theorem Grow.rebase {G1 : Hp} (g : Grow p G0 H0 G1 H) (h : Grow p G1 H0 G' H') : Grow p G0 H0 G' H' :=
  ⟨g.ex.trans h.ex, fun a o q => by
    rcases h.new a o q with z | z
    · exact g.new a o z
    · exact .inr z, h.keep, h.pc⟩
theorem WS.at1 (h : WS K p G0 H0 c G H σ ρ) : WS K p G H0 c G H σ ρ := ⟨⟨Ex.refl _, fun _ _ q => .inl q, h.gr.keep, h.gr.pc⟩, h.wd, h.en⟩
theorem WS.rebase {G1 : Hp} (g : Grow p G0 H0 G1 H) (h : WS K p G1 H0 c G' H' σ ρ) : WS K p G0 H0 c G' H' σ ρ := ⟨g.rebase h.gr, h.wd, h.en⟩
theorem Xc.rebase {G1 : Hp} {xe : XP} (g : Grow p G0 H0 G1 H) (x : Xc K p G0 H0 xe W) : Xc K p G1 H0 xe W := fun e ρ c σ G H cls d ws r q => x e ρ c σ G H cls d (ws.rebase g) r q

def ItOk (K : Cz) (p : Addr) (J : It) (G1 : Hp) (ds : List D) : Prop := ∀ (i c : Nat) (G' H' : Hp), Ex G1 G' → Wd K p c G' H' →
  (∀ d, ds[i]? = some d → J.go i H' ∧ ∀ x H'', J.yld i H' x H'' → ∃ G'', Grow p G' H' G'' H'' ∧ Wd K p c G'' H'' ∧ Rp K p G'' x d) ∧ (i = ds.length → ds.length ≤ i → J.stop i H')
def SimI (K : Cz) (W : WX) (wi : TI) (mi : DL) : Prop := ∀ (p : Addr) (G0 H0 : Hp) (c : Nat) (G H : Hp) (σ : St) (ρ : Ro) (xe : XP) (R : It → Hp → Prop) (post : List D → Nat → Prop), WS K p G0 H0 c G H σ ρ → Xc K p G0 H0 xe W → mi xe ρ c post →
  (∀ ds c' J G' H', post ds c' → Grow p G H G' H' → Wd K p c' G' H' → ItOk K p J G' ds → R J H') → wi σ H R
def mItL (me : DE) : DL := fun xe ρ c Q => me xe ρ c fun d c1 => match d with | .lst l => Q l c1 | _ => False
/-- a list or a tuple, its items -/
def dSeq (d : D) (A : List D → Prop) : Prop := match d with | .lst l => A l | .tup l => A l | _ => False
theorem dSeq_lst (l : List D) (A : List D → Prop) : dSeq (.lst l) A = A l := rfl
theorem dSeq_tup (l : List D) (A : List D → Prop) : dSeq (.tup l) A = A l := rfl
theorem dSeq_of {d : D} {l : List D} {A : List D → Prop} (h : d = .lst l ∨ d = .tup l) (q : A l) : dSeq d A := by rcases h with rfl | rfl <;> exact q
def mItS (me : DE) : DL := fun xe ρ c Q => me xe ρ c fun d c1 => dSeq d fun l => Q l c1
theorem it_tup {a : Addr} {xs : List V} {ds : List D} (h : G a = some (.tup xs)) (r : RpL K p G xs ds) : ItOk K p (Itt K.K a) G ds := by
  intro i c G' H' e w
  refine ⟨fun d hd => ?_, fun _ hi => ⟨xs, st_of (w.sub _ _ (e _ _ h)), by rw [r.len]; exact hi⟩⟩
  obtain ⟨v, hv, rv⟩ := r.get hd
  refine ⟨⟨xs, v, st_of (w.sub _ _ (e _ _ h)), hv⟩, fun x H'' q => ?_⟩
  obtain ⟨q1, q2⟩ := q
  subst q1
  have := q2 xs (st_of (w.sub _ _ (e _ _ h)))
  rw [hv] at this; cases this
  exact ⟨G', .refl, w, rv.up e⟩
theorem it_listA {a : Addr} {xs : List V} {ds : List D} (h : G a = some (.lst xs)) (r : RpL K p G xs ds) : ItOk K p (Itl K.K a) G ds := by
  intro i c G' H' e w
  refine ⟨fun d hd => ?_, fun _ hi => ⟨xs, sq_of (w.sub _ _ (e _ _ h)), by rw [r.len]; exact hi⟩⟩
  obtain ⟨v, hv, rv⟩ := r.get hd
  refine ⟨⟨xs, v, sq_of (w.sub _ _ (e _ _ h)), hv⟩, fun x H'' q => ?_⟩
  obtain ⟨q1, q2⟩ := q
  subst q1
  have := q2 xs (sq_of (w.sub _ _ (e _ _ h)))
  rw [hv] at this; cases this
  exact ⟨G', .refl, w, rv.up e⟩
/-- a list or a tuple -/
def iSeq (K : PySem.W.Frag) (tl : TE) : TI := fun σ H R => tl σ H fun x H1 => ∃ a, x = .ref a ∧ (((∃ xs, SqL K H1 a xs) ∧ R (Itl K a) H1) ∨ ((∃ xs, SqT K H1 a xs) ∧ R (Itt K a) H1))
theorem pi_seq {X : Cx} {tg l : Expr} {tl : TE} (hl : PE X l tl) : PI X tg l (iSeq X.K tl) := by
  constructor
  intro pins st σ H R inv hw
  refine thn (hl.run pins st σ H _ inv hw) ?_
  rintro v s1 ⟨x, H1, I1, r1, b, rfl, q⟩
  cases r1
  have fp : ∀ z ∈ [s1.heap.objs.size], FpOk X pins H1 z := fun z hz => by
    cases List.mem_singleton.mp hz
    have up := Nat.le_refl s1.heap.objs.size
    exact I1.fpOk up (I1.hok.fresh up)
  rcases q with ⟨⟨xs, hq⟩, q⟩ | ⟨⟨xs, hq⟩, q⟩
  · obtain ⟨_, _, pl, _⟩ := I1.list hq
    exact wpAny_pyIter_list pl.isList ⟨_, _, _, _, H1, rfl, I1.kept (t' := s1.toks) (fun _ _ => Heap.get?_push_of_some _), turn_list b _, ⟨_, Heap.get?_push_size _ rfl, rfl, rfl⟩, fp, q⟩
  · obtain ⟨its, _, pt, _⟩ := I1.tuple hq
    have pt' : s1.heap.IsTuple b its.toArray := pt
    exact wpAny_pyIter_tuple pt' ⟨_, _, _, _, H1, rfl, I1.kept (t' := s1.toks) (fun _ _ => Heap.get?_push_of_some _), turn_tuple b _, ⟨_, Heap.get?_push_size _ rfl, rfl, rfl⟩, fp, q⟩
theorem sim_itS {te : TE} {me : DE} (h : SimE K W te me) : SimI K W (iSeq K.K te) (mItS me) := by
  intro p G0 H0 c G H σ ρ xe R post ws xc m k
  refine h p G0 H0 c G H σ ρ xe _ _ ws xc m fun d c1 v G1 H1 m1 g1 w1 r1 => ?_
  cases r1 with
  | lst h1 h2 => exact ⟨_, rfl, .inl ⟨⟨_, sq_of (w1.sub _ _ h1)⟩, k _ c1 _ G1 H1 m1 g1 w1 (it_listA h1 h2)⟩⟩
  | tup h1 h2 => exact ⟨_, rfl, .inr ⟨⟨_, st_of (w1.sub _ _ h1)⟩, k _ c1 _ G1 H1 m1 g1 w1 (it_tup h1 h2)⟩⟩
  | _ => exact m1.elim
def rng (lo : Int) (n : Nat) : List D := (List.range n).map fun i => .int (lo + (i : Nat))
theorem it_rng {lo : Int} {n : Nat} : ItOk K p (Itr lo n) G (rng lo n) := by
  intro i c G' H' e w
  refine ⟨fun d hd => ?_, fun _ hi => by have hi' : (rng lo n).length ≤ i := hi; simp [rng] at hi'; exact hi'⟩
  unfold rng at hd
  rw [List.getElem?_map] at hd
  cases q : (List.range n)[i]? with
  | none => rw [q] at hd; cases hd
  | some j =>
    rw [q] at hd
    have hj := List.getElem?_eq_some_iff.mp q
    obtain ⟨h1, h2⟩ := hj
    have h3 : i < n := by simpa using h1
    rw [List.getElem_range] at h2
    subst h2
    have hd' : D.int (lo + (i : Nat)) = d := Option.some.inj hd
    refine ⟨h3, fun x H'' y => ?_⟩
    obtain ⟨y1, y2⟩ := y
    subst y1; subst y2
    rw [← hd']
    exact ⟨G', .refl, w, .int _⟩
def mRng1 (ma : DL) : DL := fun xe ρ c Q => ma xe ρ c fun ds c1 => match ds with | [.int n] => (-1000000000 ≤ n ∧ n ≤ 1000000000) ∧ Q (rng 0 n.toNat) c1 | _ => False
def mRng2 (ma : DL) : DL := fun xe ρ c Q => ma xe ρ c fun ds c1 => match ds with | [.int m, .int n] => (-1000000000 ≤ m ∧ m ≤ 1000000000 ∧ -1000000000 ≤ n ∧ n ≤ 1000000000) ∧ Q (rng m (n - m).toNat) c1 | _ => False
theorem RpL.one {xs : List V} {d : D} (r : RpL K p G xs [d]) : ∃ v, xs = [v] ∧ Rp K p G v d := by
  cases r with
  | cons h1 h2 => cases h2; exact ⟨_, rfl, h1⟩
theorem RpL.two {xs : List V} {d e : D} (r : RpL K p G xs [d, e]) : ∃ v u, xs = [v, u] ∧ Rp K p G v d ∧ Rp K p G u e := by
  cases r with
  | cons h1 h2 => obtain ⟨u, rfl, h3⟩ := h2.one; exact ⟨_, _, rfl, h1, h3⟩
theorem sim_rng1 {ta : TA} {ma : DL} (h : SimA K W ta ma) : SimI K W (iRng1 ta) (mRng1 ma) := by
  intro p G0 H0 c G H σ ρ xe R post ws xc m k
  refine h p G0 H0 c G H σ ρ xe _ _ ws xc m fun ds c1 vs G1 H1 m1 g1 w1 r1 => ?_
  split at m1
  · rename_i n
    obtain ⟨v, rfl, r⟩ := r1.one
    cases r
    exact ⟨n, rfl, by omega, by omega, k _ c1 _ G1 H1 m1.2 g1 w1 it_rng⟩
  · exact m1.elim
def mFor (mi : DL) (tg : DG) (body : DS) : DS := fun xe E ρ c => mi xe ρ c fun ds c1 => ∃ I : Nat → Ro → Nat → Prop, I 0 ρ c1 ∧
  (∀ i d ρ c, ds[i]? = some d → I i ρ c → tg d ρ fun ρ' => body xe { E with nx := I (i + 1), ct := I (i + 1), bk := E.nx } ρ' c) ∧ ∀ ρ c, I ds.length ρ c → E.nx ρ c
theorem sim_for {wi : TI} {mi : DL} {g : TG} {tg : DG} {tb : TS} {body : DS} (hi : SimI K W wi mi) (hg : SimG K g tg) (hb : SimS K W tb body) : SimS K W (tFor wi g tb) (mFor mi tg body) := by
  intro p G0 H0 c G H σ ρ xe N E ws xc er m
  refine hi p G0 H0 c G H σ ρ xe _ _ ws xc m fun ds c1 J G1 H1 m1 g1 w1 it => ?_
  obtain ⟨I, i0, is, ie⟩ := m1
  have ws1 := ws.grow g1 w1
  have er1 : ∀ σ ρ c G H, WS K p G1 H0 c G H σ ρ → WS K p G0 H0 c G H σ ρ := fun _ _ _ _ _ h => h.rebase ws1.gr
  refine ⟨fun i m σ H => ∃ ρ c G, WS K p G1 H0 c G H σ ρ ∧ m = ds.length - i ∧ i ≤ ds.length ∧ I i ρ c, ⟨ds.length, ρ, c1, G1, ws1.at1, by simp, Nat.zero_le _, i0⟩, ?_⟩
  rintro i m σ2 H2 ⟨ρ2, c2, G2, ws2, rfl, hi, q⟩
  by_cases hlt : i < ds.length
  · right
    obtain ⟨i1, _⟩ := it i c2 G2 H2 ws2.gr.ex ws2.wd
    obtain ⟨go, y⟩ := i1 ds[i] (List.getElem?_eq_getElem hlt)
    have q1 := is i ds[i] ρ2 c2 (List.getElem?_eq_getElem hlt) q
    refine ⟨go, fun σ' H' => ∃ ρ c G, WS K p G1 H0 c G H' σ' ρ ∧ I (i + 1) ρ c, fun σ' H' ⟨ρ3, c3, G3, ws3, q3⟩ => ⟨ds.length - (i + 1), by omega, ρ3, c3, G3, ws3, rfl, hlt, q3⟩, fun x H3 hy => ?_⟩
    obtain ⟨G3, g3, w3, r3⟩ := y x H3 hy
    refine hg p G1 H0 c2 G3 H3 σ2 ρ2 x ds[i] _ _ (ws2.grow g3 w3) r3 q1 fun σ4 ρ4 q4 ws4 => ?_
    refine hb p G1 H0 c2 G3 H3 σ4 ρ4 xe _ { E with nx := I (i + 1), ct := I (i + 1), bk := E.nx } ws4 (xc.rebase ws1.gr) ⟨fun σ ρ c G H ws' q' => ⟨ρ, c, G, ws', q'⟩, fun σ ρ c G H ws' q' => er.nx _ _ _ _ _ (er1 _ _ _ _ _ ws') q', fun σ ρ c G H ws' q' => ⟨ρ, c, G, ws', q'⟩, fun v d c G H gr wd rp q' => er.rt v d c G H (ws1.gr.rebase gr) wd rp q', fun v d c F G H gr wd hf rp q' => er.rtN v d c F G H (ws1.gr.rebase gr) wd hf rp q', fun v t c G H gr wd hf nd fr q' => er.rtT v t c G H (ws1.gr.rebase gr) wd hf nd fr q', fun σ ρ v d c G H ws' rp q' => er.rtV σ ρ v d c G H (er1 _ _ _ _ _ ws') rp q'⟩ q4
  · have e : i = ds.length := by omega
    subst e
    exact .inl ⟨(it ds.length c2 G2 H2 ws2.gr.ex ws2.wd).2 rfl (Nat.le_refl _), er.nx _ _ _ _ _ (er1 _ _ _ _ _ ws2) (ie _ _ q)⟩
def mWhile (mt : DT) (body : DS) : DS := fun xe E ρ c => ∃ V : Nat → Ro → Nat → Prop, (∃ m, V m ρ c) ∧ ∀ m ρ c, V m ρ c →
  mt xe ρ c fun b c1 => if b = true then body xe { E with nx := fun ρ' c' => ∃ m', m' < m ∧ V m' ρ' c', ct := fun ρ' c' => ∃ m', m' < m ∧ V m' ρ' c', bk := E.nx } ρ c1 else E.nx ρ c1
theorem sim_while {t : TT} {mt : DT} {tb : TS} {body : DS} (ht : SimT K W t mt) (hb : SimS K W tb body) : SimS K W (tWhile t tb) (mWhile mt body) := by
  intro p G0 H0 c G H σ ρ xe N E ws xc er m
  obtain ⟨Vv, ⟨m0, v0⟩, turn⟩ := m
  refine ⟨fun m σ H => ∃ ρ c G, WS K p G0 H0 c G H σ ρ ∧ Vv m ρ c, ⟨m0, ρ, c, G, ws, v0⟩, ?_⟩
  rintro m σ2 H2 ⟨ρ2, c2, G2, ws2, v2⟩
  refine ht p G0 H0 c2 G2 H2 σ2 ρ2 xe _ _ ws2 xc (turn m ρ2 c2 v2) fun b c3 G3 H3 q g3 w3 => ?_
  have ws3 := ws2.grow g3 w3
  cases b with
  | true =>
    show ∃ N', _ ∧ _
    refine ⟨fun σ' H' => ∃ m', m' < m ∧ ∃ ρ c G, WS K p G0 H0 c G H' σ' ρ ∧ Vv m' ρ c, fun σ' H' ⟨m', h1, h2⟩ => ⟨m', h1, h2⟩, ?_⟩
    refine hb p G0 H0 c3 G3 H3 σ2 ρ2 xe _ { E with nx := fun ρ' c' => ∃ m', m' < m ∧ Vv m' ρ' c', ct := fun ρ' c' => ∃ m', m' < m ∧ Vv m' ρ' c', bk := E.nx } ws3 xc ⟨fun σ ρ c G H ws' ⟨m', h1, h2⟩ => ⟨m', h1, ρ, c, G, ws', h2⟩, fun σ ρ c G H ws' q' => er.nx _ _ _ _ _ ws' q', fun σ ρ c G H ws' ⟨m', h1, h2⟩ => ⟨m', h1, ρ, c, G, ws', h2⟩, er.rt, er.rtN, er.rtT, er.rtV⟩ q
  | false => exact er.nx _ _ _ _ _ ws3 q

def wipeR (ρ : Ro) : List Nat → Ro
  | [] => ρ
  | v :: vs => (wipeR ρ vs).set v .no
theorem EnvR.wipe (h : EnvR K p H0 G H σ ρ) : ∀ vs : List Nat, EnvR K p H0 G H (wipe σ vs) (wipeR ρ vs)
  | [] => h
  | v :: vs => by
    show EnvR K p H0 G H ((L2.wipe σ vs).set v none) ((wipeR ρ vs).set v .no)
    exact (EnvR.wipe h vs).setNo
theorem wipe_get (σ : St) (i : Nat) : ∀ vs : List Nat, (wipe σ vs)[i]? = if i ∈ vs then (σ[i]?).map (fun _ => none) else σ[i]?
  | [] => by simp [wipe]
  | v :: vs => by
    show ((L2.wipe σ vs).set v none)[i]? = _
    by_cases e : v = i
    · subst e
      rw [if_pos List.mem_cons_self]
      by_cases hl : v < σ.length
      · rw [List.getElem?_set_self (by rw [wipe_length]; exact hl), List.getElem?_eq_getElem hl]; rfl
      · rw [List.getElem?_eq_none_iff.mpr (by rw [List.length_set, wipe_length]; omega), List.getElem?_eq_none_iff.mpr (by omega)]; rfl
    · rw [List.getElem?_set_ne e, wipe_get σ i vs]
      have : (i ∈ v :: vs) ↔ i ∈ vs := by
        rw [List.mem_cons]
        exact ⟨fun h => h.elim (fun z => absurd z.symm e) id, .inr⟩
      simp only [this]
/-- a comprehension's target: it stores to slots of vs alone -/
def SimGw (K : Cz) (vs : List Nat) (g : TG) (mg : DG) : Prop := ∀ (p : Addr) (G0 H0 : Hp) (c : Nat) (G H : Hp) (σ σ0 : St) (ρ : Ro) (v : V) (d : D) (Q : St → Hp → Prop) (post : Ro → Prop), WS K p G0 H0 c G H σ ρ → wipe σ vs = wipe σ0 vs → Rp K p G v d → mg d ρ post →
  (∀ σ' ρ', post ρ' → WS K p G0 H0 c G H σ' ρ' → wipe σ' vs = wipe σ0 vs → Q σ' H) → g v σ H Q
theorem wipe_set' {j : Nat} {vs : List Nat} (hj : j ∈ vs) (σ : St) (x : Option V) : wipe (σ.set j x) vs = wipe σ vs := by
  apply List.ext_getElem?
  intro i
  rw [wipe_get, wipe_get]
  by_cases h : i ∈ vs
  · rw [if_pos h, if_pos h]
    by_cases e : j = i
    · subst e
      by_cases hl : j < σ.length
      · rw [List.getElem?_set_self hl, List.getElem?_eq_getElem hl]; rfl
      · rw [List.getElem?_eq_none_iff.mpr (by rw [List.length_set]; omega), List.getElem?_eq_none_iff.mpr (by omega)]
    · rw [List.getElem?_set_ne e]
  · rw [if_neg h, if_neg h]
    have e : j ≠ i := fun z => h (z ▸ hj)
    rw [List.getElem?_set_ne e]
theorem wipe_wipe (σ : St) (vs : List Nat) : wipe (wipe σ vs) vs = wipe σ vs := by
  apply List.ext_getElem?
  intro i
  rw [wipe_get, wipe_get]
  split
  · cases σ[i]? <;> rfl
  · rfl
theorem sim_gnw {i : Nat} {vs : List Nat} (hi : i ∈ vs := by decide) : SimGw K vs (gName i) (gN i) := fun p G0 H0 c G H σ σ0 ρ v d Q post ws hw r m k => k _ _ m (ws.setSh r) (by rw [wipe_set' hi]; exact hw)
def SimGsw (K : Cz) (vs : List Nat) (g : TGs) (mg : List D → Ro → (Ro → Prop) → Prop) : Prop := ∀ (p : Addr) (G0 H0 : Hp) (c : Nat) (G H : Hp) (σ σ0 : St) (ρ : Ro) (us : List V) (ds : List D) (Q : St → Hp → Prop) (post : Ro → Prop), WS K p G0 H0 c G H σ ρ → wipe σ vs = wipe σ0 vs → RpL K p G us ds → mg ds ρ post →
  (∀ σ' ρ', post ρ' → WS K p G0 H0 c G H σ' ρ' → wipe σ' vs = wipe σ0 vs → Q σ' H) → g us σ H Q
theorem sim_gsnw {vs : List Nat} : SimGsw K vs gNil gsN := by
  intro p G0 H0 c G H σ σ0 ρ us ds Q post ws hw r m k
  cases r with
  | nil => exact ⟨rfl, k _ _ m ws hw⟩
  | cons => exact m.elim
theorem sim_gscw {vs : List Nat} {g : TG} {mg : DG} {gr : TGs} {mr : List D → Ro → (Ro → Prop) → Prop} (h : SimGw K vs g mg) (hr : SimGsw K vs gr mr) : SimGsw K vs (gCons g gr) (gsC mg mr) := by
  intro p G0 H0 c G H σ σ0 ρ us ds Q post ws hw r m k
  cases r with
  | nil => exact m.elim
  | cons r1 r2 =>
    refine ⟨_, _, rfl, h p G0 H0 c G H σ σ0 ρ _ _ _ _ ws hw r1 m fun σ' ρ' m' ws' hw' => ?_⟩
    exact hr p G0 H0 c G H σ' σ0 ρ' _ _ _ _ ws' hw' r2 m' k
theorem sim_gtw {vs : List Nat} {n : Nat} {g : TGs} {mg : List D → Ro → (Ro → Prop) → Prop} (h : SimGsw K vs g mg) : SimGw K vs (gTup K.K n g) (gT n mg) := by
  intro p G0 H0 c G H σ σ0 ρ v d Q post ws hw r m k
  cases r with
  | tup h1 h2 => exact ⟨_, _, rfl, st_of (ws.wd.sub _ _ h1), by rw [h2.len]; exact m.1, h p G0 H0 c G H σ σ0 ρ _ _ _ _ ws hw h2 m.2 k⟩
  | _ => exact m.elim
def mYes : DT := fun _ _ c Q => Q true c
def mLc (mi : DL) (tg : DG) (mt : DT) (me : DE) (vs : List Nat) : DL := fun xe ρ c Q => mi xe ρ c fun ds c1 => ds.length ≤ 1000000 ∧ ∃ I : Nat → List D → Nat → Prop, I 0 [] c1 ∧
  (∀ i d acc c, ds[i]? = some d → I i acc c → tg d (wipeR ρ vs) fun ρ' => mt xe ρ' c fun b c1 => if b = true then me xe ρ' c1 fun x c2 => I (i + 1) (acc ++ [x]) c2 else I (i + 1) acc c1) ∧ ∀ acc c, I ds.length acc c → Q acc c
theorem sim_lc {wi : TI} {mi : DL} {g : TG} {tg : DG} {tt : TT} {mt : DT} {te : TE} {me : DE} {vs : List Nat} (hi : SimI K W wi mi) (hg : SimGw K vs g tg) (ht : SimT K W tt mt) (he : SimE K W te me) : SimO K W (tLc wi g tt te vs) (mLc mi tg mt me vs) := by
  intro p G0 H0 c G H σ ρ xe Q post ws xc m k
  refine hi p G0 H0 c G H σ ρ xe _ _ ws xc m fun ds c1 J G1 H1 m1 g1 w1 it a ha => ?_
  obtain ⟨mlen, I, i0, is, ie⟩ := m1
  have ws1 := ws.grow g1 w1
  obtain ⟨np, n0, hg1⟩ := ws1.fresh0 ha
  have haH : H a = none := by
    cases q : H a with
    | none => rfl
    | some o => rw [g1.keep a o np q] at ha; cases ha
  have wsw : WS K p G0 H0 c1 G1 H1 (wipe σ vs) (wipeR ρ vs) := ⟨ws1.gr, ws1.wd, ws1.en.wipe vs⟩
  refine ⟨fun i m H' => ∃ acc xs c2 G2, Grow p G1 H1 G2 H' ∧ Wd K p c2 G2 H' ∧ G2 a = none ∧ H' a = some (.lst xs) ∧ RpL K p G2 xs acc ∧ m = ds.length - i ∧ i ≤ ds.length ∧ acc.length ≤ i ∧ I i acc c2,
    ⟨ds.length, [], [], c1, G1, Grow.laidO ha, w1.laidO ha, hg1, upd_same, .nil, by simp, Nat.zero_le _, Nat.zero_le _, i0⟩, ?_⟩
  rintro i m H2 ⟨acc, xs, c2, G2, g2, w2, hga, hha, ra, rfl, hil, hacc, q⟩
  by_cases hlt : i < ds.length
  · right
    have q1 := is i ds[i] acc c2 (List.getElem?_eq_getElem hlt) q
    obtain ⟨i1, _⟩ := it i c2 G2 H2 g2.ex w2
    obtain ⟨go, y⟩ := i1 ds[i] (List.getElem?_eq_getElem hlt)
    refine ⟨go, fun H' => ∃ acc xs c2 G2, Grow p G1 H1 G2 H' ∧ Wd K p c2 G2 H' ∧ G2 a = none ∧ H' a = some (.lst xs) ∧ RpL K p G2 xs acc ∧ acc.length ≤ i + 1 ∧ I (i + 1) acc c2,
      fun H' ⟨acc, xs, c2, G2, a1, a2, a3, a4, a5, a6, a7⟩ => ⟨ds.length - (i + 1), by omega, acc, xs, c2, G2, a1, a2, a3, a4, a5, rfl, hlt, a6, a7⟩, fun x H3 hy => ?_⟩
    obtain ⟨G3, g3, w3, r3⟩ := y x H3 hy
    have stay : ∀ {Ga Ha Gb Hb : Hp} {zs : List V}, Ga a = none → Ha a = some (.lst zs) → Grow p Ga Ha Gb Hb → Gb a = none ∧ Hb a = some (.lst zs) := fun {Ga Ha Gb Hb zs} q1 q2 g => by
      refine ⟨?_, g.keep a _ np q2⟩
      cases q : Gb a with
      | none => rfl
      | some o =>
        rcases g.new a o q with z | z
        · rw [q1] at z; cases z
        · rw [q2] at z; cases z
    have g13 := g2.tr g3 w3
    have ws3 := wsw.grow g13 w3
    obtain ⟨hga3, hha3⟩ := stay hga hha g3
    refine hg p G0 H0 c2 G3 H3 (wipe σ vs) σ (wipeR ρ vs) x ds[i] _ _ ws3 (wipe_wipe _ _) r3 q1 fun σ4 ρ4 q4 ws4 hw4 => ⟨hw4, ?_⟩
    refine ht p G0 H0 c2 G3 H3 σ4 ρ4 xe _ _ ws4 xc q4 fun b c5 G5 H5 q5 g5 w5 => ?_
    obtain ⟨hga5, hha5⟩ := stay hga3 hha3 g5
    cases b with
    | true =>
      refine he p G0 H0 c5 G5 H5 σ4 ρ4 xe _ _ (ws4.grow g5 w5) xc q5 fun d c6 u G6 H6 q6 g6 w6 r6 => ?_
      obtain ⟨hga6, hha6⟩ := stay hga5 hha5 g6
      have g16 := (g13.tr g5 w5).tr g6 w6
      have ra6 : RpL K p G6 xs acc := ((ra.up g3.ex).up g5.ex).up g6.ex
      refine ⟨xs, hha6, by rw [ra6.len]; exact Nat.lt_of_lt_of_le (by omega : acc.length < 1000000) Grow.sz, acc ++ [d], xs ++ [u], c6, G6, ⟨g16.ex, g16.new, fun b o hb z => by rw [upd_ne (ne_of_none z ha)]; exact g16.keep b o hb z, fun zs z => by rw [upd_ne np.symm]; exact g16.pc zs z⟩, ⟨fun b o z => by rw [upd_ne (ne_of_none z hga6)]; exact w6.sub b o z, w6.gp, w6.pl.of (Ex.refl _) fun o z => by rw [upd_ne np.symm]; exact z⟩, hga6, upd_same, ra6.append (.cons r6 .nil), by simp; omega, q6⟩
    | false =>
      exact ⟨acc, xs, c5, G5, g13.tr g5 w5, w5, hga5, hha5, (ra.up g3.ex).up g5.ex, by omega, q5⟩
  · have e : i = ds.length := by omega
    subst e
    exact .inl ⟨(it ds.length c2 G2 H2 g2.ex w2).2 rfl (Nat.le_refl _), k acc c2 a xs G2 H2 (ie _ _ q) (g1.tr g2 w2) w2 haH hga hha ra⟩
theorem sim_yes : SimT K W tYes mYes := fun p G0 H0 c G H σ ρ xe Q post ws xc m k => k true c G H m .refl ws.wd
end

section
variable {P : Program} {w : World} {K : PySem.W.Frag} {mg : Str → Option Value} {base : Heap}
def ro0 (N : List Str) (ds : List D) : Ro := ds.map S.sh ++ List.replicate (N.length - ds.length) S.no
theorem env_start {K : Cz} {p : Addr} {H0 G H : Hp} {N : List Str} {vs : List V} {ds : List D} (r : RpL K p G vs ds) : EnvR K p H0 G H (L2.start N vs) (ro0 N ds) := by
  have hl := r.len
  have shape : ∀ (i : Nat) (s : S), (ro0 N ds)[i]? = some s → (∃ d, s = .sh d ∧ ds[i]? = some d) ∨ s = .no := fun i s b => by
    unfold ro0 at b
    by_cases hi : i < ds.length
    · rw [List.getElem?_append_left (by simpa using hi), List.getElem?_map, List.getElem?_eq_getElem hi] at b
      exact .inl ⟨ds[i], (Option.some.inj b).symm, List.getElem?_eq_getElem hi⟩
    · rw [List.getElem?_append_right (by simpa using Nat.le_of_not_lt hi)] at b
      obtain ⟨q1, q2⟩ := List.getElem?_eq_some_iff.mp b
      rw [List.getElem_replicate] at q2
      exact .inr q2.symm
  refine ⟨by simp [L2.start, ro0, hl], fun i o s a b => ?_, fun i j o o' s s' n _ e1 _ _ b z => ?_⟩
  · rcases shape i s b with ⟨d, rfl, hd⟩ | rfl
    · obtain ⟨v, h1, h2⟩ := r.get hd
      have hi : i < vs.length := (List.getElem?_eq_some_iff.mp h1).1
      unfold L2.start at a
      rw [List.getElem?_append_left (by simpa using hi), List.getElem?_map, h1] at a
      have a' : some v = o := Option.some.inj a
      subst a'
      exact .sh h2
    · exact .no
  · rcases shape i s e1 with ⟨d, rfl, _⟩ | rfl
    · exact absurd z reg_sh
    · exact absurd z reg_no
/-- what is new, frozen -/
theorem melt_ends {K : Cz} {p : Addr} {G H F G' H' : Hp} {c : Nat} (g : Grow p G H G' H') (w : Wd K p c G' H') (hf : ∀ a o, F a = some o → G' a = none ∧ H a = none ∧ a ≠ p ∧ H' a = some o) : Grow p G H (mrg G' F) H' ∧ Wd K p c (mrg G' F) H' := by
  have ex : Ex G' (mrg G' F) := mg_ex fun a o q => (hf a o q).1
  have inv : ∀ a o, mrg G' F a = some o → F a = some o ∨ G' a = some o := fun a o q => by
    unfold mrg at q
    cases z : F a with
    | none => rw [z] at q; exact .inr q
    | some u => rw [z] at q; exact .inl q
  refine ⟨⟨g.ex.trans ex, fun a o q => (inv a o q).elim (fun z => .inr (hf a o z).2.1) (g.new a o), g.keep, g.pc⟩, fun a o q => (inv a o q).elim (fun z => (hf a o z).2.2.2) (w.sub a o), ?_, w.pl.of ex fun _ q => q⟩
  cases q : mrg G' F p with
  | none => rfl
  | some o =>
    rcases inv p o q with z | z
    · exact absurd rfl (hf p o z).2.2.1
    · rw [w.gp] at z; cases z
/-- a def that lets nothing out -/
theorem fnS0 {x qual : Str} {st : Stmt} {f : Addr} {fd : FuncData} {N ps : List Str} {k : Nat} {mf : DF} {mb : DS} (F : Fun K x qual st f fd) (S : FnScope N ps (defScope st))
    (hb : ∀ (cdv : Value) (A : Around) (outer : List Env) (s : Shared) (H : Hp) (E : XK), Room k (A.deeper (envOfC qual (defScope st) s.heap.objs.size f cdv)) →
      ∃ t, PSs (cxOf CX0 P w K mg base N qual (defScope st) f cdv A outer s H E).nox (defBody st) t ∧ SimS ⟨K, mg, P, w⟩ (fun _ _ _ _ => False) t mb)
    (hm : ∀ ds c xe rt, mf xe ds c rt → ds.length = ps.length ∧ mb (fun _ _ _ => False) { nx := fun _ c' => rt .non c', rt := rt, rtN := rt } (ro0 N ds) c) : FnOk P w K mg base CX0 (k + 1) f fd ps (spS ⟨K, mg, P, w⟩ mf) := by
  refine F.ok S (fun vs H Q E h => ?_) (fun cdv A outer s H vs Q E hr h => ?_)
  · obtain ⟨p, G, c, ds, xe, rt, w1, r, q, _⟩ := h
    rw [r.len]; exact (hm ds c xe rt q).1
  · obtain ⟨p, G, c, ds, xe, rt, w1, r, q, k1, k2⟩ := h
    obtain ⟨t, h1, h2⟩ := hb cdv A outer s H E hr
    refine ⟨t, h1, h2 p G H c G H _ _ (fun _ _ _ => False) _ { nx := fun _ c' => rt .non c', rt := rt, rtN := rt } ⟨.refl, w1, env_start r⟩ (fun _ _ _ _ _ _ _ _ _ _ z => z) ⟨fun σ ρ c G' H' ws z => k1 _ _ _ _ _ z ws.gr ws.wd .non, fun σ ρ c G' H' ws z => z, fun σ ρ c G' H' ws z => z, fun v d c G' H' gr wd rp z => k1 _ _ _ _ _ z gr wd rp, fun v d c F G' H' gr wd hf rp z => let m := melt_ends gr wd hf; k1 _ _ _ _ _ z m.1 m.2 rp.rp, fun _ _ _ _ _ _ _ _ _ _ z => z.elim, fun _ _ _ _ _ _ _ _ _ z => z.elim⟩ (hm ds c xe rt q).2⟩
/-- a def that errors may leave -/
theorem fnSX {x qual : Str} {st : Stmt} {f : Addr} {fd : FuncData} {N ps : List Str} {k : Nat} {mf : DF} {mb : DS} (F : Fun K x qual st f fd) (S : FnScope N ps (defScope st))
    (hb : ∀ (cdv : Value) (A : Around) (outer : List Env) (s : Shared) (H : Hp) (E : XK), Room k (A.deeper (envOfC qual (defScope st) s.heap.objs.size f cdv)) →
      ∃ t, PSs (cxOf (L2.CX P w) P w K mg base N qual (defScope st) f cdv A outer s H E) (defBody st) t ∧ SimS ⟨K, mg, P, w⟩ (fun cls d _ H => E cls d H) t mb)
    (hm : ∀ ds c xe rt, mf xe ds c rt → ds.length = ps.length ∧ mb (fun e _ c' => xe e c') { nx := fun _ c' => rt .non c', rt := rt, rtN := rt } (ro0 N ds) c) : FnOk P w K mg base (L2.CX P w) (k + 1) f fd ps (spS ⟨K, mg, P, w⟩ mf) := by
  refine F.okX S (fun vs H Q E h => ?_) (fun cdv A outer s H vs Q E hr h => ?_)
  · obtain ⟨p, G, c, ds, xe, rt, w1, r, q, _⟩ := h
    rw [r.len]; exact (hm ds c xe rt q).1
  · obtain ⟨p, G, c, ds, xe, rt, w1, r, q, k1, k2⟩ := h
    obtain ⟨t, h1, h2⟩ := hb cdv A outer s H E hr
    refine ⟨t, h1, h2 p G H c G H _ _ (fun e _ c' => xe e c') _ { nx := fun _ c' => rt .non c', rt := rt, rtN := rt } ⟨.refl, w1, env_start r⟩ (fun e ρ c σ G' H' cls d ws er z => k2 e c cls d G' H' z ws.gr ws.wd er) ⟨fun σ ρ c G' H' ws z => k1 _ _ _ _ _ z ws.gr ws.wd .non, fun σ ρ c G' H' ws z => z, fun σ ρ c G' H' ws z => z, fun v d c G' H' gr wd rp z => k1 _ _ _ _ _ z gr wd rp, fun v d c F G' H' gr wd hf rp z => let m := melt_ends gr wd hf; k1 _ _ _ _ _ z m.1 m.2 rp.rp, fun _ _ _ _ _ _ _ _ _ _ z => z.elim, fun _ _ _ _ _ _ _ _ _ z => z.elim⟩ (hm ds c xe rt q).2⟩
/-- a def whose answer is new -/
def spF (K : Cz) (f : DF) : Sp := fun vs H Q E => ∃ (p : Addr) (G : Hp) (c : Nat) (ds : List D) (xe : Err → Nat → Prop) (rt : D → Nat → Prop), Wd K p c G H ∧ RpL K p G vs ds ∧ f xe ds c rt ∧
  (∀ d c' v F G' H', rt d c' → Grow p G H G' H' → Wd K p c' G' H' → (∀ a o, F a = some o → G' a = none ∧ H a = none ∧ a ≠ p ∧ H' a = some o) → RpN K p G' F v d → Q v H') ∧ (∀ e c' cls dd G' H', xe e c' → Grow p G H G' H' → Wd K p c' G' H' → ErrR K p G' cls dd e → E cls dd H')
theorem fnF0 {x qual : Str} {st : Stmt} {f : Addr} {fd : FuncData} {N ps : List Str} {k : Nat} {mf : DF} {mb : DS} (F : Fun K x qual st f fd) (S : FnScope N ps (defScope st))
    (hb : ∀ (cdv : Value) (A : Around) (outer : List Env) (s : Shared) (H : Hp) (E : XK), Room k (A.deeper (envOfC qual (defScope st) s.heap.objs.size f cdv)) →
      ∃ t, PSs (cxOf CX0 P w K mg base N qual (defScope st) f cdv A outer s H E).nox (defBody st) t ∧ SimS ⟨K, mg, P, w⟩ (fun _ _ _ _ => False) t mb)
    (hm : ∀ ds c xe rt, mf xe ds c rt → ds.length = ps.length ∧ mb (fun _ _ _ => False) { nx := fun _ c' => rt .non c', rt := fun _ _ => False, rtN := rt } (ro0 N ds) c) : FnOk P w K mg base CX0 (k + 1) f fd ps (spF ⟨K, mg, P, w⟩ mf) := by
  refine F.ok S (fun vs H Q E h => ?_) (fun cdv A outer s H vs Q E hr h => ?_)
  · obtain ⟨p, G, c, ds, xe, rt, w1, r, q, _⟩ := h
    rw [r.len]; exact (hm ds c xe rt q).1
  · obtain ⟨p, G, c, ds, xe, rt, w1, r, q, k1, k2⟩ := h
    obtain ⟨t, h1, h2⟩ := hb cdv A outer s H E hr
    refine ⟨t, h1, h2 p G H c G H _ _ (fun _ _ _ => False) _ { nx := fun _ c' => rt .non c', rt := fun _ _ => False, rtN := rt } ⟨.refl, w1, env_start r⟩ (fun _ _ _ _ _ _ _ _ _ _ z => z) ⟨fun σ ρ c G' H' ws z => k1 _ _ _ (fun _ => none) _ _ z ws.gr ws.wd (fun _ _ q => nomatch q) .non, fun σ ρ c G' H' ws z => z, fun σ ρ c G' H' ws z => z, fun v d c G' H' gr wd rp z => z.elim, fun v d c F G' H' gr wd hf rp z => k1 _ _ _ _ _ _ z gr wd hf rp, fun _ _ _ _ _ _ _ _ _ _ z => z.elim, fun _ _ _ _ _ _ _ _ _ z => z.elim⟩ (hm ds c xe rt q).2⟩
end

section
variable {K : Cz} {W : WX}
variable {p : Addr} {G0 H0 G H G' H' : Hp} {c c' : Nat} {σ : St} {ρ : Ro}
def SimF (K : Cz) (W : WX) (te : TE) (me : DE) : Prop := ∀ (p : Addr) (G0 H0 : Hp) (c : Nat) (G H : Hp) (σ : St) (ρ : Ro) (xe : XP) (Q : VK) (post : D → Nat → Prop), WS K p G0 H0 c G H σ ρ → Xc K p G0 H0 xe W → me xe ρ c post →
  (∀ d c' v F G' H', post d c' → Grow p G H G' H' → Wd K p c' G' H' → (∀ a o, F a = some o → G' a = none ∧ H0 a = none ∧ a ≠ p ∧ H' a = some o) → RpN K p G' F v d → Q v H') → te σ H Q
/-- an own list, handed out -/
def mVarO (i : Nat) : DE := fun _ ρ c Q => match ρ[i]? with | some (.own l) => Q (.lst l) c | _ => False
theorem sim_varO {i : Nat} : SimF K W (tVar i) (mVarO i) := by
  intro p G0 H0 c G H σ ρ xe Q post ws xc m k
  unfold mVarO at m
  split at m
  · rename_i l e
    obtain ⟨a, xs, e2, np, n0, hg, hh, r⟩ := ws.en.own e
    refine ⟨_, e2, k _ c _ (one a (.lst xs)) G H m .refl ws.wd (fun b o q => ?_) (.lst (if_pos rfl) (r.up (mg_ex fun b o q => ?_)))⟩
    · obtain ⟨rfl, rfl⟩ := one_at q; exact ⟨hg, n0, np, hh⟩
    · obtain ⟨rfl, rfl⟩ := one_at q; exact hg
  · exact m.elim
/-- a number, a text, none, a truth value -/
def D.scal : D → Bool | .non | .bl _ | .int _ | .str _ => true | _ => false
def mSc (me : DE) : DE := fun xe ρ c Q => me xe ρ c fun d c1 => d.scal = true ∧ Q d c1
def mRetF (me : DE) : DS := fun xe E ρ c => me xe ρ c fun d c1 => E.rtN d c1
theorem sim_retF {te : TE} {me : DE} (h : SimF K W te me) : SimS K W (tRet te) (mRetF me) := by
  intro p G0 H0 c G H σ ρ xe D E ws xc er m
  exact h p G0 H0 c G H σ ρ xe _ _ ws xc m fun d c1 v F G1 H1 m1 g1 w1 f1 r1 => er.rtN v d c1 F G1 H1 (ws.gr.trans w1.gp g1) w1 f1 r1 m1
/-- x = f(..), the answer new -/
def mAsgF (f : DF) (ma : DL) (i : Nat) : DS := fun xe E ρ c => ma xe ρ c fun ds c1 => f (fun _ _ => False) ds c1 fun d c2 => ∀ F, E.nx (ρ.set i (.frs F d)) c2
/-- told.append(e), told new and not looked at again -/
def mSpoil (i : Nat) (me : DE) : DS := fun xe E ρ c => match ρ[i]? with | some (.frs _ (.lst l)) => l.length < 1000000 ∧ me xe ρ c fun _ c1 => E.nx (ρ.set i .no) c1 | _ => False
/-- x = told[k]; x.append(e), told new and neither looked at again -/
def mSpoilK (i j : Nat) (k : Int) (me : DE) (m3 : DS) : DS := fun xe E ρ c => match ρ[i]? with
  | some (.frs _ (.tup l)) => (match atI l k with
    | some (.lst l') => (l'.length < 1000000 ∧ i ≠ j ∧ j < ρ.length) ∧ me xe (ρ.set j .no) c fun _ c1 => m3 xe E ((ρ.set j .no).set i .no) c1
    | _ => False)
  | _ => False
end
end Dm

namespace Dm
open PySem L2 Evl

mutual
def D.eqv : D → D → Bool
  | .non, .non => true
  | .bl a, .bl b => a == b
  | .bl a, .int j => (if a then 1 else 0) == j
  | .int i, .bl b => i == (if b then 1 else 0)
  | .int i, .int j => i == j
  | .str x, .str y => x == y
  | .lst xs, .lst ys => D.eqvL xs ys
  | .tup xs, .tup ys => D.eqvL xs ys
  | _, _ => false
def D.eqvL : List D → List D → Bool
  | [], [] => true
  | x :: xs, y :: ys => D.eqv x y && D.eqvL xs ys
  | _, _ => false
end
mutual
/-- none, bools, ints, texts, lists and tuples of them, at most n deep -/
def D.ok : Nat → D → Bool
  | _, .non | _, .bl _ | _, .int _ => true
  | _, .str x => PyData.strOk x
  | 0, .lst _ | 0, .tup _ => false
  | n + 1, .lst l | n + 1, .tup l => D.okL n l
  | _, .ins _ _ | _, .pool => false
def D.okL : Nat → List D → Bool
  | _, [] => true
  | n, d :: ds => D.ok n d && D.okL n ds
end
mutual
def py : D → PyData
  | .non => .none
  | .bl b => .bool b
  | .int i => .int i
  | .str x => .str x
  | .lst l => .list (pyL l)
  | .tup l => .tuple (pyL l)
  | _ => .none
def pyL : List D → List PyData
  | [] => []
  | d :: ds => py d :: pyL ds
end
section
variable {K : Cz} {W : WX} {p : Addr} {G H : Hp} {c : Nat}
mutual
theorem dp_of (w : Ex G H) : ∀ (n : Nat) (d : D) (v : V), D.ok n d = true → Rp K p G v d → Dp K.K H v (py d)
  | n, .non, _, _, h => by cases h; exact .non
  | n, .bl _, _, _, h => by cases h; exact .bl _
  | n, .int _, _, _, h => by cases h; exact .int _
  | n, .str _, _, _, h => by cases h; exact .str _
  | 0, .lst l, _, o, h => by simp [D.ok] at o
  | 0, .tup l, _, o, h => by simp [D.ok] at o
  | n + 1, .lst l, _, o, h => by
    cases h with
    | lst h1 h2 => exact .lst (sq_of (w _ _ h1)) (dpL_of w n l _ (by simpa [D.ok] using o) h2)
  | n + 1, .tup l, _, o, h => by
    cases h with
    | tup h1 h2 => exact .tup (st_of (w _ _ h1)) (dpL_of w n l _ (by simpa [D.ok] using o) h2)
  | n, .ins _ _, _, o, _ => by cases n <;> simp [D.ok] at o
  | n, .pool, _, o, _ => by cases n <;> simp [D.ok] at o
theorem dpL_of (w : Ex G H) : ∀ (n : Nat) (ds : List D) (vs : List V), D.okL n ds = true → RpL K p G vs ds → DpAll K.K H vs (pyL ds)
  | n, [], _, _, h => by cases h; exact .nil
  | n, d :: ds, _, o, h => by
    rw [D.okL, Bool.and_eq_true] at o
    cases h with
    | cons h1 h2 => exact .cons (dp_of w n d _ o.1 h1) (dpL_of w n ds _ o.2 h2)
end
mutual
theorem lay_of : ∀ (n : Nat) (d : D), D.ok n d = true → PyData.canLay0 (py d) = true ∧ (py d).depth ≤ n
  | n, .non, _ => by simp [py, PyData.canLay0, PyData.depth]
  | n, .bl _, _ => by simp [py, PyData.canLay0, PyData.depth]
  | n, .int _, _ => by simp [py, PyData.canLay0, PyData.depth]
  | n, .str _, o => by cases n <;> simpa [py, PyData.canLay0, PyData.depth, D.ok] using o
  | 0, .lst l, o => by simp [D.ok] at o
  | 0, .tup l, o => by simp [D.ok] at o
  | n + 1, .lst l, o => by
    obtain ⟨a, b⟩ := layL_of n l (by simpa [D.ok] using o)
    refine ⟨by simpa [py, PyData.canLay0] using a, ?_⟩
    simp only [py, PyData.depth]; omega
  | n + 1, .tup l, o => by
    obtain ⟨a, b⟩ := layL_of n l (by simpa [D.ok] using o)
    refine ⟨by simpa [py, PyData.canLay0] using a, ?_⟩
    simp only [py, PyData.depth]; omega
  | n, .ins _ _, o => by cases n <;> simp [D.ok] at o
  | n, .pool, o => by cases n <;> simp [D.ok] at o
theorem layL_of : ∀ (n : Nat) (ds : List D), D.okL n ds = true → PyData.canLayAll0 (pyL ds) = true ∧ PyData.depthAll (pyL ds) ≤ n
  | n, [], _ => by simp [pyL, PyData.canLayAll0, PyData.depthAll]
  | n, d :: ds, o => by
    rw [D.okL, Bool.and_eq_true] at o
    obtain ⟨a1, a2⟩ := lay_of n d o.1
    obtain ⟨b1, b2⟩ := layL_of n ds o.2
    refine ⟨by simp [pyL, PyData.canLayAll0, a1, b1], ?_⟩
    simp only [pyL, PyData.depthAll]; omega
end
mutual
theorem eqv_py : ∀ (n m : Nat) (d e : D), D.ok n d = true → D.ok m e = true → PyData.eqv (py d) (py e) = D.eqv d e
  | n + 1, m + 1, .lst l, .lst l', o, o' => by
    simp only [py, PyData.eqv, D.eqv]; exact eqvL_py n m l l' (by simpa [D.ok] using o) (by simpa [D.ok] using o')
  | n + 1, m + 1, .tup l, .tup l', o, o' => by
    simp only [py, PyData.eqv, D.eqv]; exact eqvL_py n m l l' (by simpa [D.ok] using o) (by simpa [D.ok] using o')
  | 0, m, .lst l, e, o, o' => by simp [D.ok] at o
  | 0, m, .tup l, e, o, o' => by simp [D.ok] at o
  | n, 0, d, .lst l, o, o' => by simp [D.ok] at o'
  | n, 0, d, .tup l, o, o' => by simp [D.ok] at o'
  | n, m, .ins _ _, _, o, o' => by cases n <;> simp [D.ok] at o
  | n, m, .pool, _, o, o' => by cases n <;> simp [D.ok] at o
  | n, m, _, .ins _ _, o, o' => by cases m <;> simp [D.ok] at o'
  | n, m, _, .pool, o, o' => by cases m <;> simp [D.ok] at o'
  | n, m, .non, .non, o, o' | n, m, .non, .bl _, o, o' | n, m, .non, .int _, o, o' | n, m, .non, .str _, o, o' | n, m, .non, .lst _, o, o' | n, m, .non, .tup _, o, o' => by simp [py, PyData.eqv, D.eqv]
  | n, m, .bl _, .non, o, o' | n, m, .bl _, .bl _, o, o' | n, m, .bl _, .int _, o, o' | n, m, .bl _, .str _, o, o' | n, m, .bl _, .lst _, o, o' | n, m, .bl _, .tup _, o, o' => by simp [py, PyData.eqv, D.eqv]
  | n, m, .int _, .non, o, o' | n, m, .int _, .bl _, o, o' | n, m, .int _, .int _, o, o' | n, m, .int _, .str _, o, o' | n, m, .int _, .lst _, o, o' | n, m, .int _, .tup _, o, o' => by simp [py, PyData.eqv, D.eqv]
  | n, m, .str _, .non, o, o' | n, m, .str _, .bl _, o, o' | n, m, .str _, .int _, o, o' | n, m, .str _, .str _, o, o' | n, m, .str _, .lst _, o, o' | n, m, .str _, .tup _, o, o' => by simp [py, PyData.eqv, D.eqv]
  | n, m, .lst _, .non, o, o' | n, m, .lst _, .bl _, o, o' | n, m, .lst _, .int _, o, o' | n, m, .lst _, .str _, o, o' | n, m, .lst _, .tup _, o, o' => by simp [py, PyData.eqv, D.eqv]
  | n, m, .tup _, .non, o, o' | n, m, .tup _, .bl _, o, o' | n, m, .tup _, .int _, o, o' | n, m, .tup _, .str _, o, o' | n, m, .tup _, .lst _, o, o' => by simp [py, PyData.eqv, D.eqv]
theorem eqvL_py : ∀ (n m : Nat) (ds es : List D), D.okL n ds = true → D.okL m es = true → PyData.eqvAll (pyL ds) (pyL es) = D.eqvL ds es
  | _, _, [], [], _, _ => by simp [pyL, PyData.eqvAll, D.eqvL]
  | _, _, [], _ :: _, _, _ => by simp [pyL, PyData.eqvAll, D.eqvL]
  | _, _, _ :: _, [], _, _ => by simp [pyL, PyData.eqvAll, D.eqvL]
  | n, m, d :: ds, e :: es, o, o' => by
    rw [D.okL, Bool.and_eq_true] at o o'
    simp only [pyL, PyData.eqvAll, D.eqvL]
    rw [eqv_py n m d e o.1 o'.1, eqvL_py n m ds es o.2 o'.2]
end
theorem shaped_of {d : D} (o : D.ok 60 d = true) : SeqAt.shaped (py d) = true := by
  obtain ⟨a, b⟩ := lay_of 60 d o
  unfold SeqAt.shaped
  rw [a, Bool.true_and]
  exact decide_eq_true (Nat.le_trans b (by decide))
def dEq : DR2 := fun x y Q => (D.ok 60 x = true ∧ D.ok 60 y = true) ∧ Q (.bl (D.eqv x y))
def dNe : DR2 := fun x y Q => (D.ok 60 x = true ∧ D.ok 60 y = true) ∧ Q (.bl (!D.eqv x y))
theorem sr_eq : SimR2 K (rEqD K.K) dEq := fun p c G H x y d e Q post w r1 r2 m k =>
  ⟨py d, py e, dp_of w.sub 60 d x m.1.1 r1, dp_of w.sub 60 e y m.1.2 r2, shaped_of m.1.1, shaped_of m.1.2, by rw [eqv_py 60 60 d e m.1.1 m.1.2]; exact k _ _ G H m.2 .refl w (.bl _)⟩
theorem sr_ne : SimR2 K (rNeD K.K) dNe := fun p c G H x y d e Q post w r1 r2 m k =>
  ⟨py d, py e, dp_of w.sub 60 d x m.1.1 r1, dp_of w.sub 60 e y m.1.2 r2, shaped_of m.1.1, shaped_of m.1.2, by rw [eqv_py 60 60 d e m.1.1 m.1.2]; exact k _ _ G H m.2 .refl w (.bl _)⟩

def dI (C : Int → Int → Prop) (g : Int → Int → Int) : DR2 := fun x y Q => match x, y with | .int i, .int j => C i j ∧ Q (.int (g i j)) | _, _ => False
def dI0 (g : Int → Int → Int) : DR2 := fun x y Q => match x, y with | .int i, .int j => Q (.int (g i j)) | _, _ => False
def dB0 (g : Int → Int → Bool) : DR2 := fun x y Q => match x, y with | .int i, .int j => Q (.bl (g i j)) | _, _ => False
def dU (g : Int → Int) : DR1 := fun x Q => match x with | .int i => Q (.int (g i)) | _ => False
theorem sr_I {C : Int → Int → Prop} {g : Int → Int → Int} : SimR2 K (rI C fun i j => .int (g i j)) (dI C g) := by
  intro p c G H x y d e Q post w r1 r2 m k
  unfold dI at m
  split at m
  · cases r1; cases r2; exact ⟨_, _, rfl, rfl, m.1, k _ _ G H m.2 .refl w (.int _)⟩
  · exact m.elim
theorem sr_I0 {g : Int → Int → Int} : SimR2 K (rI0 fun i j => .int (g i j)) (dI0 g) := by
  intro p c G H x y d e Q post w r1 r2 m k
  unfold dI0 at m
  split at m
  · cases r1; cases r2; exact ⟨_, _, rfl, rfl, k _ _ G H m .refl w (.int _)⟩
  · exact m.elim
theorem sr_B0 {g : Int → Int → Bool} : SimR2 K (rI0 fun i j => .bl (g i j)) (dB0 g) := by
  intro p c G H x y d e Q post w r1 r2 m k
  unfold dB0 at m
  split at m
  · cases r1; cases r2; exact ⟨_, _, rfl, rfl, k _ _ G H m .refl w (.bl _)⟩
  · exact m.elim
theorem sr_U {g : Int → Int} : SimR1 K (rU fun i => .int (g i)) (dU g) := by
  intro p c G H x d Q post w r1 m k
  unfold dU at m
  split at m
  · cases r1; exact ⟨_, rfl, k _ _ G H m .refl w (.int _)⟩
  · exact m.elim
/-- // by a number that is not 0, below 2 ^ 9000 in size -/
def CDivG (_ j : Int) : Prop := j ≠ 0 ∧ j.natAbs.log2 < 9000
theorem op_fdivG {X : Cx} : OpR X (binaryOp .FloorDiv) (rI CDivG fun i j => .int (i.fdiv j)) := opI fun i j _ _ _ _ _ hc q =>
  PyProof.Rows.floordiv_int hc.1 q (.inl (PyProof.noPylong_of_log2 hc.2))
/-- + of numbers, of texts, of lists -/
theorem opr_or {X : Cx} {f : Value → Value → Sem Value} {r r' : R2} (h : OpR X f r) (h' : OpR X f r') : OpR X f (fun x y H Q => r x y H Q ∨ r' x y H Q) :=
  fun pins s σ H x y v u Q I rx ry q => q.elim (h pins s σ H x y v u Q I rx ry) (h' pins s σ H x y v u Q I rx ry)
abbrev rAddI : R2 := rI0 fun i j => .int (i + j)
abbrev rAddS : R2 := fun x y H Q => ∃ i j, x = .str i ∧ y = .str j ∧ i.length + j.length ≤ sizeLine ∧ Q (.str (i ++ j)) H
def rAddG : R2 := fun x y H Q => rAddI x y H Q ∨ rAddS x y H Q ∨ rCat x y H Q
theorem op_addG {X : Cx} : OpR X (binaryOp .Add) rAddG := opr_or op_add (opr_or op_add_str op_cat)
def dAdd : DR2 := fun x y Q => match x, y with
  | .int i, .int j => Q (.int (i + j))
  | .str a, .str b => a.length + b.length ≤ 1000000 ∧ Q (.str (a ++ b))
  | .lst a, .lst b => a.length + b.length ≤ 1000000 ∧ Q (.lst (a ++ b))
  | _, _ => False
theorem sr_add : SimR2 K rAddG dAdd := by
  intro p c G H x y d e Q post w r1 r2 m k
  unfold dAdd at m
  split at m
  · cases r1; cases r2; exact .inl ⟨_, _, rfl, rfl, k _ _ G H m .refl w (.int _)⟩
  · cases r1; cases r2; exact .inr (.inl ⟨_, _, rfl, rfl, Nat.le_trans m.1 Grow.sz, k _ _ G H m.2 .refl w (.str _)⟩)
  · cases r1 with
    | lst h1 h2 =>
      cases r2 with
      | lst h3 h4 =>
        refine .inr (.inr ⟨_, _, _, _, rfl, rfl, w.sub _ _ h1, w.sub _ _ h3, by rw [h2.len, h4.len]; exact Nat.le_trans m.1 Grow.sz, fun a ha => ?_⟩)
        exact k _ _ _ _ m.2 (Grow.laid ha w.sub) (w.laid ha) (.lst upd_same ((h2.append h4).up (Grow.laid (p := p) ha w.sub).ex))
  · exact m.elim

def dIx : DR2 := fun x y Q => match x, y with
  | .lst l, .int i => (match atI l i with | some v => Q v | none => False)
  | .tup l, .int i => (match atI l i with | some v => Q v | none => False)
  | .str z, .int i => z.length ≤ 1000000 ∧ (match atI z.cps.toList i with | some k => Q (.str ⟨#[k]⟩) | none => False)
  | _, _ => False
theorem atI_rp {xs : List V} {ds : List D} {i : Int} {d : D} (r : RpL K p G xs ds) (h : atI ds i = some d) : ∃ v, atI xs i = some v ∧ Rp K p G v d := by
  unfold atI at h ⊢
  rw [r.len]
  cases q : ixN ds.length i with
  | none => rw [q] at h; cases h
  | some n => rw [q] at h; exact r.get h
theorem sr_ix : SimR2 K (rIx K.K) dIx := by
  intro p c G H x y d e Q post w r1 r2 m k
  unfold dIx at m
  split at m
  · split at m
    · rename_i q
      cases r2
      cases r1 with
      | lst h1 h2 =>
        obtain ⟨u, hu, ru⟩ := atI_rp h2 q
        exact .inl ⟨_, _, _, u, rfl, rfl, sq_of (w.sub _ _ h1), hu, k _ _ G H m .refl w ru⟩
    · exact m.elim
  · split at m
    · rename_i q
      cases r2
      cases r1 with
      | tup h1 h2 =>
        obtain ⟨u, hu, ru⟩ := atI_rp h2 q
        exact .inr (.inl ⟨_, _, _, u, rfl, rfl, st_of (w.sub _ _ h1), hu, k _ _ G H m .refl w ru⟩)
    · exact m.elim
  · obtain ⟨m0, m⟩ := m
    split at m
    · rename_i q
      cases r2; cases r1
      exact .inr (.inr ⟨_, _, _, rfl, rfl, Nat.le_trans m0 Grow.sz, q, k _ _ G H m .refl w (.str _)⟩)
    · exact m.elim
  · exact m.elim
/-- an item of an own list of slot i -/
def mIxO (i : Nat) (mj : DE) : DE := fun xe ρ c Q => match ρ[i]? with
  | some (.own l) => mj xe ρ c fun j c1 => (match j with | .int k => (match atI l k with | some v => Q v c1 | none => False) | _ => False)
  | _ => False
abbrev rLenG (K : PySem.W.Frag) : List V → Hp → VK → Prop := fun xs H Q => ∃ x n, xs = [x] ∧ LenV K x H n ∧ Q (.int n) H
def dLen : DRL := fun ds Q => match ds with | [.lst l] => Q (.int l.length) | [.tup l] => Q (.int l.length) | [.str z] => z.length ≤ 1000000 ∧ Q (.int z.length) | _ => False
theorem srl_len : SimRL K (rLenG K.K) dLen := by
  intro p c G H xs ds Q post w r m k
  unfold dLen at m
  split at m
  · obtain ⟨v, rfl, r1⟩ := r.one
    cases r1 with
    | lst h1 h2 => exact ⟨_, _, rfl, .inl ⟨_, sq_of (w.sub _ _ h1), h2.len.symm⟩, k _ _ G H m .refl w (.int _)⟩
  · obtain ⟨v, rfl, r1⟩ := r.one
    cases r1 with
    | tup h1 h2 => exact ⟨_, _, rfl, .inr ⟨_, st_of (w.sub _ _ h1), h2.len.symm⟩, k _ _ G H m .refl w (.int _)⟩
  · obtain ⟨v, rfl, r1⟩ := r.one
    cases r1
    rename_i z
    exact ⟨_, z.length, rfl, (⟨Nat.le_trans m.1 Grow.sz, rfl⟩ : z.length ≤ sizeLine ∧ z.length = z.length), k _ _ G H m.2 .refl w (.int _)⟩
  · exact m.elim
def dList : DRL := fun ds Q => match ds with | [.lst l] => Q (.lst l) | [.tup l] => Q (.lst l) | _ => False
def dTuple : DRL := fun ds Q => match ds with | [.lst l] => Q (.tup l) | [.tup l] => Q (.tup l) | _ => False
theorem srl_list : SimRL K (fun xs H Q => ∃ p ys, xs = [.ref p] ∧ (SqL K.K H p ys ∨ SqT K.K H p ys) ∧ ∀ l, H l = none → Q (.ref l) (upd H l (.lst ys))) dList := by
  intro p c G H xs ds Q post w r m k
  unfold dList at m
  split at m
  · obtain ⟨v, rfl, r1⟩ := r.one
    cases r1 with
    | lst h1 h2 => exact ⟨_, _, rfl, .inl (sq_of (w.sub _ _ h1)), fun a ha => k _ _ _ _ m (Grow.laid ha w.sub) (w.laid ha) (.lst upd_same (h2.up (Grow.laid (p := p) ha w.sub).ex))⟩
  · obtain ⟨v, rfl, r1⟩ := r.one
    cases r1 with
    | tup h1 h2 => exact ⟨_, _, rfl, .inr (st_of (w.sub _ _ h1)), fun a ha => k _ _ _ _ m (Grow.laid ha w.sub) (w.laid ha) (.lst upd_same (h2.up (Grow.laid (p := p) ha w.sub).ex))⟩
  · exact m.elim
theorem srl_tuple : SimRL K (fun xs H Q => ∃ p ys, xs = [.ref p] ∧ ((SqL K.K H p ys ∧ ∀ l, H l = none → Q (.ref l) (upd H l (.tup ys))) ∨ (SqT K.K H p ys ∧ Q (.ref p) H))) dTuple := by
  intro p c G H xs ds Q post w r m k
  unfold dTuple at m
  split at m
  · obtain ⟨v, rfl, r1⟩ := r.one
    cases r1 with
    | lst h1 h2 => exact ⟨_, _, rfl, .inl ⟨sq_of (w.sub _ _ h1), fun a ha => k _ _ _ _ m (Grow.laid ha w.sub) (w.laid ha) (.tup upd_same (h2.up (Grow.laid (p := p) ha w.sub).ex))⟩⟩
  · obtain ⟨v, rfl, r1⟩ := r.one
    cases r1 with
    | tup h1 h2 => exact ⟨_, _, rfl, .inr ⟨st_of (w.sub _ _ h1), k _ _ G H m .refl w (.tup h1 h2)⟩⟩
  · exact m.elim
/-- list(xs), xs a new list of one's own -/
def mCBO (f : List D → (List D → Prop) → Prop) (ma : DL) : DL := fun xe ρ c Q => ma xe ρ c fun ds c1 => f ds fun z => Q z c1
def dListO : List D → (List D → Prop) → Prop := fun ds Q => match ds with | [.lst l] => Q l | [.tup l] => Q l | _ => False
def dMax2 : DRL := fun ds Q => match ds with | [.int i, .int j] => Q (.int (if j > i then j else i)) | _ => False
def dAbs : DRL := fun ds Q => match ds with | [.int i] => Q (.int (if i < 0 then -i else i)) | _ => False
theorem srl_abs : SimRL K (fun xs H Q => ∃ i, xs = [.int i] ∧ Q (.int (if i < 0 then -i else i)) H) dAbs := by
  intro p c G H xs ds Q post w r m k
  unfold dAbs at m
  split at m
  · obtain ⟨v, rfl, r1⟩ := r.one
    cases r1
    exact ⟨_, rfl, k _ _ G H m .refl w (.int _)⟩
  · exact m.elim
def dInt1 : DRL := fun ds Q => match ds with | [.int i] => Q (.int i) | [.bl b] => Q (.int (if b then 1 else 0)) | _ => False
theorem srl_int1 : SimRL K (fun xs H Q => (∃ i, xs = [.int i] ∧ Q (.int i) H) ∨ ∃ k, xs = [.bl k] ∧ Q (.int (if k then 1 else 0)) H) dInt1 := by
  intro p c G H xs ds Q post w r m k
  unfold dInt1 at m
  split at m
  · obtain ⟨v, rfl, r1⟩ := r.one
    cases r1
    exact .inl ⟨_, rfl, k _ _ G H m .refl w (.int _)⟩
  · obtain ⟨v, rfl, r1⟩ := r.one
    cases r1
    exact .inr ⟨_, rfl, k _ _ G H m .refl w (.int _)⟩
  · exact m.elim
def dGcd : DRL := fun ds Q => match ds with | [.int a, .int b] => Q (.int ((Nat.gcd a.natAbs b.natAbs : Nat) : Int)) | _ => False
theorem srl_gcd : SimRL K rGcd dGcd := by
  intro p c G H xs ds Q post w r m k
  unfold dGcd at m
  split at m
  · obtain ⟨v, u, rfl, r1, r2⟩ := r.two
    cases r1; cases r2
    exact ⟨_, _, rfl, k _ _ G H m .refl w (.int _)⟩
  · exact m.elim
def rLcm : List V → Hp → VK → Prop := fun vs H Q => ∃ a b : Int, vs = [.int a, .int b] ∧ (a.natAbs < 2 ^ 9000 ∧ b.natAbs < 2 ^ 9000) ∧ Q (.int ((Nat.lcm a.natAbs b.natAbs : Nat) : Int)) H
theorem cr_lcm {X : Cx} : CallR X (.builtin "math.lcm") rLcm := by
  intro pn s σ H vs us Q I r h
  obtain ⟨a, b, rfl, ⟨ha, hb⟩, q⟩ := h
  have ⟨t, u, e2⟩ := Vals.int2 r
  subst e2
  have h1 : (max 1 a.natAbs).log2 ≤ 8999 := PySem.W.mg_log (by
    show max 1 a.natAbs < 2 ^ 9000
    rcases Nat.le_total 1 a.natAbs with z | z
    · rw [Nat.max_eq_right z]; exact ha
    · rw [Nat.max_eq_left z]; exact Nat.one_lt_two_pow (by decide))
  have h2 : (max a.natAbs b.natAbs).log2 ≤ 8999 := PySem.W.mg_log (by
    show max a.natAbs b.natAbs < 2 ^ 9000
    rcases Nat.le_total a.natAbs b.natAbs with z | z
    · rw [Nat.max_eq_right z]; exact hb
    · rw [Nat.max_eq_left z]; exact ha)
  have e1 : (Nat.lcm 1 a.natAbs).lcm b.natAbs = a.natAbs.lcm b.natAbs := by rw [Nat.lcm_one_left]
  have hle : a.natAbs.lcm b.natAbs ≤ a.natAbs * b.natAbs := by
    unfold Nat.lcm
    exact Nat.div_le_self _ _
  have h3 : a.natAbs.lcm b.natAbs < 2 ^ 18000 := by
    refine Nat.lt_of_le_of_lt hle ?_
    rw [show (18000 : Nat) = 9000 + 9000 from rfl, Nat.pow_add]
    exact Nat.mul_lt_mul'' ha hb
  have h4 : ((((Nat.lcm 1 a.natAbs).lcm b.natAbs : Nat) : Int)).natAbs.log2 < bitsLine := by
    rw [e1, Int.natAbs_natCast]
    have z : (a.natAbs.lcm b.natAbs).log2 ≤ 17999 := PySem.W.mg_log h3
    exact Nat.lt_of_le_of_lt z (by decide)
  have g := PySem.W.mg_run_lcm a t b u (by omega) (by omega) h4
  refine PySem.call_function_meets PySem.W.MGF.kind_lcm PySem.W.MGF.plain_lcm PySem.W.MGF.entry_lcm (PySem.W.MGF.args_lcm _ _) g.meets ?_
  rw [e1]
  exact ⟨.int _, H, I.tok _, ⟨_, rfl⟩, q⟩
def dLcm : DRL := fun ds Q => match ds with | [.int a, .int b] => (a.natAbs < 2 ^ 9000 ∧ b.natAbs < 2 ^ 9000) ∧ Q (.int ((Nat.lcm a.natAbs b.natAbs : Nat) : Int)) | _ => False
theorem srl_lcm : SimRL K rLcm dLcm := by
  intro p c G H xs ds Q post w r m k
  unfold dLcm at m
  split at m
  · obtain ⟨v, u, rfl, r1, r2⟩ := r.two
    cases r1; cases r2
    exact ⟨_, _, rfl, m.1, k _ _ G H m.2 .refl w (.int _)⟩
  · exact m.elim

def tyName : D → String
  | .non => "NoneType" | .bl _ => "bool" | .int _ => "int" | .str _ => "str" | .lst _ => "list" | .tup _ => "tuple" | _ => ""
def dIsN (T t : String) : Bool := t == T || (T == "int" && t == "bool")
def dIsi (T : String) (x : D) : Bool := dIsN T (tyName x)
def mIsi (T : String) (ma : DE) : DE := fun xe ρ c Q => ma xe ρ c fun d c1 => match d with | .ins _ _ => False | .pool => False | _ => Q (.bl (dIsi T d)) c1
def BasicT (T : String) : Bool := T == "int" || T == "bool" || T == "tuple" || T == "list" || T == "str"
theorem kitB_basic {T : String} (hT0 : BasicT T = true) : kitB "NoneType" T = some (dIsN T "NoneType") ∧ kitB "bool" T = some (dIsN T "bool") ∧ kitB "int" T = some (dIsN T "int") ∧ kitB "str" T = some (dIsN T "str") ∧ kitB "list" T = some (dIsN T "list") ∧ kitB "tuple" T = some (dIsN T "tuple") := by
  have hT : T = "int" ∨ T = "bool" ∨ T = "tuple" ∨ T = "list" ∨ T = "str" := by simpa [BasicT, or_assoc] using hT0
  rcases hT with rfl | rfl | rfl | rfl | rfl <;> decide +kernel
theorem sim_isi {T : String} {ta : TE} {ma : DE} (hT : BasicT T = true) (ha : SimE K W ta ma) : SimE K W (tCB (rIsi K.K) (tCons ta (tCons (tC (.ty T)) tNil))) (mIsi T ma) := by
  intro p G0 H0 c G H σ ρ xe Q post ws xc m k
  refine ha p G0 H0 c G H σ ρ xe _ _ ws xc m fun d c1 v G1 H1 m1 g1 w1 r1 => ?_
  show rIsi K.K [v, .ty T] H1 Q
  obtain ⟨b1, b2, b3, b4, b5, b6⟩ := kitB_basic hT
  cases r1 with
  | non => exact ⟨_, _, _, _, _, rfl, .ty _, .base .non, kit_ty b1, k _ c1 _ G1 H1 m1 g1 w1 (.bl _)⟩
  | bl b => exact ⟨_, _, _, _, _, rfl, .ty _, .base (.bl _), kit_ty b2, k _ c1 _ G1 H1 m1 g1 w1 (.bl _)⟩
  | int i => exact ⟨_, _, _, _, _, rfl, .ty _, .base (.int _), kit_ty b3, k _ c1 _ G1 H1 m1 g1 w1 (.bl _)⟩
  | str i => exact ⟨_, _, _, _, _, rfl, .ty _, .base (.str _), kit_ty b4, k _ c1 _ G1 H1 m1 g1 w1 (.bl _)⟩
  | lst h1 h2 => exact ⟨_, _, _, _, _, rfl, .ty _, .base (.lst (w1.sub _ _ h1)), kit_ty b5, k _ c1 _ G1 H1 m1 g1 w1 (.bl _)⟩
  | tup h1 h2 => exact ⟨_, _, _, _, _, rfl, .ty _, .base (.tup (w1.sub _ _ h1)), kit_ty b6, k _ c1 _ G1 H1 m1 g1 w1 (.bl _)⟩
  | ins => exact m1.elim
  | pool => exact m1.elim
def dNon : D → Bool | .non => true | _ => false
def mIsN (ma : DE) : DE := fun xe ρ c Q => ma xe ρ c fun d c1 => Q (.bl (dNon d)) c1
def mNotN (ma : DE) : DE := fun xe ρ c Q => ma xe ρ c fun d c1 => Q (.bl (!dNon d)) c1
end
end Dm

namespace Dm
open PySem L2 Evl
/-- a def of the module's top that keeps its word on data and lets nothing out -/
def OkS (sp : Sp) (P : Program) (w : World) (K : PySem.W.Frag) (mg : Str → Option Value) (base : Heap) (k : Nat) (x : Str) (ps : List Str) : Prop :=
  ∃ f fd, mg x = some (.ref f) ∧ PySem.W.keepIn K (.ref f) = true ∧ Binds K fd ps [] ∧ FnOk P w K mg base CX0 k f fd ps sp
abbrev Ok0 (P : Program) (w : World) (K : PySem.W.Frag) (mg : Str → Option Value) (base : Heap) (k : Nat) (x : Str) (ps : List Str) (mf : DF) : Prop := OkS (spS ⟨K, mg, P, w⟩ mf) P w K mg base k x ps
abbrev OkF (P : Program) (w : World) (K : PySem.W.Frag) (mg : Str → Option Value) (base : Heap) (k : Nat) (x : Str) (ps : List Str) (mf : DF) : Prop := OkS (spF ⟨K, mg, P, w⟩ mf) P w K mg base k x ps
section
variable {X : Cx} {k j : Nat} {x : Str} {ps : List Str} {sp : Sp} {p pos : Pos} {e : Expr} {es : List Expr} {t : TA}
theorem pe_callO (o : OkS sp X.prog X.w X.K X.mg X.base k x ps) (hr : Room j X.A) (hk : k ≤ j) (ha : PA X (e :: es) t) (hg : Gl X x := by rfl) (hdb : (x == ("__debug__" : Str)) = false := by decide)
    (he : starEach (e :: es) X.env = (false, eval e X.env) :: starEach es X.env := by rfl) (hpl : (backTo pos (starEach es X.env)).any (·.1) = false := by rfl) : PE X (.Call (.Name x p) (e :: es) [] pos) (tCall sp [] E0 t) := by
  obtain ⟨f, fd, hm, hkp, hb, F⟩ := o
  exact pe_call F (hr.mono hk) hg hm hkp hb .nil pass0 ha hdb he hpl
end
/-- a new pool of a script -/
def spPool (K : PySem.W.Frag) : Sp := fun vs H Q _ => ∃ (a : Addr) (ns : List Int), vs = [.ref a] ∧ SqL K H a (ns.map V.int) ∧
  ∀ (p cs : Addr) (H' : Hp), cs ≠ p → H' p = some (.lst [.int 0, .int 0, .ref cs]) → H' cs = some (.lst (ns.map V.int)) → Q (.ref p) H'
/-- a draw: some number below many -/
def fTake : DF := fun _ ds c rt => ∃ n : Int, ds = [.pool, .int n] ∧ 0 < n ∧ n.natAbs.log2 < 9000 ∧ c < 1000000000 ∧ ∀ k : Int, 0 ≤ k → k < n → rt (.int k) (c + 1)
/-- a law's body behind the making of the pool -/
theorem law_run {K : Cz} {t : TS} {m : DS} {Q : VK} {p cs a : Addr} {ns : List Int} {H' : Hp} {n : Nat} {g : St → Hp → Prop} (h : SimS K (fun _ _ _ _ => False) t m) (hq : ∀ H, Q (.bl true) H) (h63 : ns.length ≤ 63) (hne : cs ≠ p)
    (h1 : H' p = some (.lst [.int 0, .int 0, .ref cs])) (h2 : H' cs = some (.lst (ns.map V.int)))
    (hm : m (fun _ _ _ => False) { nx := fun _ _ => False, rt := fun d _ => d = .bl true } (.no :: .sh .pool :: List.replicate n .no) 0) : t { nx := g, rt := Q } (some (.ref a) :: some (.ref p) :: List.replicate n none) H' := by
  have sub : Ex (one cs (.lst (ns.map V.int))) H' := fun b o q => by
    obtain ⟨rfl, rfl⟩ := one_at q; exact h2
  have w : Wd K p 0 (one cs (.lst (ns.map V.int))) H' := by
    refine ⟨sub, if_neg (Ne.symm hne), ?_⟩
    refine ⟨0, 0, cs, ns, h1, if_pos rfl, h63, Int.le_refl 0, Int.le_refl 0⟩
  have rep : ∀ (i : Nat) (s : S), (List.replicate n S.no)[i]? = some s → s = .no := fun i s q => by
    obtain ⟨_, q2⟩ := List.getElem?_eq_some_iff.mp q
    rw [List.getElem_replicate] at q2
    exact q2.symm
  have shape : ∀ (i : Nat) (s : S), (S.no :: S.sh D.pool :: List.replicate n S.no)[i]? = some s → s = .no ∨ (i = 1 ∧ s = .sh .pool) := fun i s q => by
    match i with
    | 0 => cases q; exact .inl rfl
    | 1 => cases q; exact .inr ⟨rfl, rfl⟩
    | i + 2 => exact .inl (rep i s (by simpa using q))
  have en : EnvR K p H' (one cs (.lst (ns.map V.int))) H' (some (.ref a) :: some (.ref p) :: List.replicate n none) (.no :: .sh .pool :: List.replicate n .no) := by
    refine ⟨by simp, fun i o s e1 e2 => ?_, fun i j o o' s s' nij e1 e2 e3 e4 b z => ?_⟩
    · rcases shape i s e2 with rfl | ⟨rfl, rfl⟩
      · exact .no
      · cases e1; exact .sh .pool
    · rcases shape i s e2 with rfl | ⟨rfl, rfl⟩
      · exact absurd z reg_no
      · exact absurd z reg_sh
  have ws : WS K p (one cs (.lst (ns.map V.int))) H' 0 (one cs (.lst (ns.map V.int))) H' _ _ := ⟨.refl, w, en⟩
  refine h p _ H' 0 _ H' _ _ (fun _ _ _ => False) { nx := g, rt := Q } { nx := fun _ _ => False, rt := fun d _ => d = .bl true } ws (fun _ _ _ _ _ _ _ _ _ _ z => z) ⟨fun _ _ _ _ _ _ z => z.elim, fun _ _ _ _ _ _ z => z, fun _ _ _ _ _ _ z => z, fun v d c G H _ _ r z => ?_, fun _ _ _ _ _ _ _ _ _ _ z => z.elim, fun _ _ _ _ _ _ _ _ _ _ z => z.elim, fun _ _ _ _ _ _ _ _ _ z => z.elim⟩ hm
  have z' : d = .bl true := z
  subst z'; cases r; exact hq H
/-- law's promise: a list of at most 63 ints is handed in, True comes out -/
def spLaw (K : PySem.W.Frag) : Sp := fun us H Q _ => ∃ (a : Addr) (cells : List Int), us = [.ref a] ∧ SqL K H a (cells.map V.int) ∧ cells.length ≤ 63 ∧ ∀ H2, Q (.bl true) H2
theorem fnLaw {P : Program} {w : World} {K : PySem.W.Frag} {mg : Str → Option Value} {base : Heap} {x qual : Str} {st : Stmt} {f : Addr} {fd : FuncData} {N : List Str} {y : Str} {k n : Nat} {m : DS} (F : Fun K x qual st f fd) (S : FnScope N [y] (defScope st)) (hN : N.length = n + 2)
    (hb : ∀ (cdv : Value) (A : Around) (outer : List Env) (s : Shared) (H : Hp) (E : XK), Room k (A.deeper (PyProof.Rows.envOfC qual (defScope st) s.heap.objs.size f cdv)) →
      ∃ t, PSs (cxOf CX0 P w K mg base N qual (defScope st) f cdv A outer s H E).nox (defBody st) (tSeq (tAsg (tCall (spPool K) [] E0 (tCons (tVar 0) tNil)) (gName 1)) t) ∧ SimS ⟨K, mg, P, w⟩ (fun _ _ _ _ => False) t m)
    (hm : m (fun _ _ _ => False) { nx := fun _ _ => False, rt := fun d _ => d = .bl true } (.no :: .sh .pool :: List.replicate n .no) 0) : FnOk P w K mg base CX0 (k + 1) f fd [y] (spLaw K) := by
  refine F.ok S (fun vs H Q E h => ?_) (fun cdv A outer s H vs Q E hr h => ?_)
  · obtain ⟨a, ns, rfl, _⟩ := h
    rfl
  · obtain ⟨a, ns, rfl, hS, h63, hq⟩ := h
    obtain ⟨t, h1, h2⟩ := hb cdv A outer s H E hr
    have e0 : L2.start N [.ref a] = some (.ref a) :: none :: List.replicate n none := by
      unfold L2.start
      rw [hN]
      show some (V.ref a) :: List.replicate (n + 1) none = _
      rw [List.replicate_succ]
    refine ⟨_, h1, ?_⟩
    rw [e0]
    refine ⟨_, rfl, a, ns, rfl, hS, fun p cs H' hne q1 q2 => ?_⟩
    exact law_run (t := t) h2 hq h63 hne q1 q2 hm
end Dm

namespace Dm
open PySem L2 Evl
theorem ok_int (n : Nat) (i : Int) : D.ok n (.int i) = true := by cases n <;> simp [D.ok]
theorem ok_lst (n : Nat) (l : List D) : D.ok (n + 1) (.lst l) = D.okL n l := by simp [D.ok]
theorem ok_tup (n : Nat) (l : List D) : D.ok (n + 1) (.tup l) = D.okL n l := by simp [D.ok]
theorem okL_nil (n : Nat) : D.okL n [] = true := by simp [D.okL]
theorem okL_cons (n : Nat) (d : D) (l : List D) : D.okL n (d :: l) = (D.ok n d && D.okL n l) := by simp [D.okL]
theorem okL_all {n : Nat} : ∀ {l : List D}, (∀ d ∈ l, D.ok n d = true) → D.okL n l = true
  | [], _ => okL_nil n
  | d :: l, h => by rw [okL_cons, h d List.mem_cons_self, okL_all fun e he => h e (List.mem_cons_of_mem _ he)]; rfl
theorem okL_ints (n : Nat) (l : List Int) : D.okL n (l.map D.int) = true := okL_all fun d h => by
  obtain ⟨i, _, rfl⟩ := List.mem_map.mp h
  exact ok_int n i
mutual
theorem eqv_refl : ∀ (n : Nat) (d : D), D.ok n d = true → D.eqv d d = true
  | _, .non, _ => by simp [D.eqv]
  | _, .bl _, _ => by simp [D.eqv]
  | _, .int _, _ => by simp [D.eqv]
  | _, .str _, _ => by simp [D.eqv]
  | 0, .lst _, h => by simp [D.ok] at h
  | 0, .tup _, h => by simp [D.ok] at h
  | n + 1, .lst l, h => by rw [D.eqv]; exact eqvL_refl n l (by rw [ok_lst] at h; exact h)
  | n + 1, .tup l, h => by rw [D.eqv]; exact eqvL_refl n l (by rw [ok_tup] at h; exact h)
  | n, .ins _ _, h => by cases n <;> simp [D.ok] at h
  | n, .pool, h => by cases n <;> simp [D.ok] at h
theorem eqvL_refl : ∀ (n : Nat) (l : List D), D.okL n l = true → D.eqvL l l = true
  | _, [], _ => by simp [D.eqvL]
  | n, d :: l, h => by
    rw [okL_cons, Bool.and_eq_true] at h
    rw [D.eqvL, eqv_refl n d h.1, eqvL_refl n l h.2]; rfl
end
theorem eqv_int (i j : Int) : D.eqv (.int i) (.int j) = (i == j) := by simp [D.eqv]
theorem eqvL_ints : ∀ a b : List Int, D.eqvL (a.map D.int) (b.map D.int) = decide (a = b)
  | [], [] => by simp [D.eqvL]
  | [], _ :: _ => by simp [D.eqvL]
  | _ :: _, [] => by simp [D.eqvL]
  | x :: a, y :: b => by
    rw [List.map_cons, List.map_cons, D.eqvL, eqv_int, eqvL_ints a b]
    by_cases h : x = y
    · subst h; simp
    · simp [h]
theorem lc_map {tg : DG} {me : DE} {xe : XP} {ρ : Ro} {vs : List Nat} {c : Nat} {ds : List D} {Q : List D → Nat → Prop} (f : D → D) (hl : ds.length ≤ 1000000)
    (h : ∀ d ∈ ds, ∀ post : D → Nat → Prop, post (f d) c → tg d (wipeR ρ vs) fun ρ' => me xe ρ' c post) (hq : Q (ds.map f) c) :
    ds.length ≤ 1000000 ∧ ∃ I : Nat → List D → Nat → Prop, I 0 [] c ∧
      (∀ i d acc c, ds[i]? = some d → I i acc c → tg d (wipeR ρ vs) fun ρ' => mYes xe ρ' c fun b c1 => if b = true then me xe ρ' c1 fun x c2 => I (i + 1) (acc ++ [x]) c2 else I (i + 1) acc c1) ∧ ∀ acc c, I ds.length acc c → Q acc c := by
  refine ⟨hl, fun i acc c' => c' = c ∧ acc = (ds.take i).map f, ⟨rfl, by simp⟩, fun i d acc c' hd ⟨h1, h2⟩ => ?_, fun acc c' ⟨h1, h2⟩ => ?_⟩
  · subst h1
    refine h d (List.mem_of_getElem? hd) _ ⟨rfl, ?_⟩
    obtain ⟨hi, e⟩ := List.getElem?_eq_some_iff.mp hd
    rw [h2, List.take_add_one, hd]
    simp
  · subst h1
    rw [h2, List.take_length]; exact hq
/-- with draws: each new item is of a kind, each turn draws k times -/
theorem lc_draw {tg : DG} {me : DE} {xe : XP} {ρ : Ro} {vs : List Nat} {c k : Nat} {ds : List D} {Q : List D → Nat → Prop} (P : D → Prop) (hl : ds.length ≤ 1000000)
    (h : ∀ d ∈ ds, ∀ c', c' ≤ c + k * ds.length → ∀ post : D → Nat → Prop, (∀ x c2, P x → c2 ≤ c' + k → post x c2) → tg d (wipeR ρ vs) fun ρ' => me xe ρ' c' post)
    (hq : ∀ l c', l.length = ds.length → (∀ x ∈ l, P x) → c' ≤ c + k * ds.length → Q l c') :
    ds.length ≤ 1000000 ∧ ∃ I : Nat → List D → Nat → Prop, I 0 [] c ∧
      (∀ i d acc c, ds[i]? = some d → I i acc c → tg d (wipeR ρ vs) fun ρ' => mYes xe ρ' c fun b c1 => if b = true then me xe ρ' c1 fun x c2 => I (i + 1) (acc ++ [x]) c2 else I (i + 1) acc c1) ∧ ∀ acc c, I ds.length acc c → Q acc c := by
  refine ⟨hl, fun i acc c' => c' ≤ c + k * i ∧ acc.length = i ∧ ∀ x ∈ acc, P x, ⟨by omega, rfl, fun x hx => nomatch hx⟩, fun i d acc c' hd ⟨h1, h2, h3⟩ => ?_, fun acc c' ⟨h1, h2, h3⟩ => hq acc c' h2 h3 h1⟩
  have hi : i < ds.length := (List.getElem?_eq_some_iff.mp hd).1
  have hk : k * i ≤ k * ds.length := Nat.mul_le_mul_left k (Nat.le_of_lt hi)
  refine h d (List.mem_of_getElem? hd) c' (by omega) _ fun x c2 hx hc => ⟨?_, by simp [h2], fun y hy => ?_⟩
  · have : k * (i + 1) = k * i + k := Nat.mul_succ k i
    omega
  · rcases List.mem_append.mp hy with z | z
    · exact h3 y z
    · cases List.mem_singleton.mp z; exact hx
def gcdL (ns : List Int) : Nat := ns.foldl (fun g n => Nat.gcd g n.natAbs) 0
theorem gcdL_succ {ns : List Int} {i : Nat} {n : Int} (h : ns[i]? = some n) : gcdL (ns.take (i + 1)) = Nat.gcd (gcdL (ns.take i)) n.natAbs := by
  unfold gcdL
  rw [List.take_add_one, h, List.foldl_append]
  rfl
theorem gcd_fold_le : ∀ (ns : List Int) (g N : Nat), g < N → (∀ n ∈ ns, n.natAbs < N) → ns.foldl (fun g n => Nat.gcd g n.natAbs) g < N
  | [], g, N, h, _ => h
  | n :: ns, g, N, h, h2 => by
    refine gcd_fold_le ns _ N ?_ fun m hm => h2 m (List.mem_cons_of_mem _ hm)
    have hn := h2 n List.mem_cons_self
    show Nat.gcd g n.natAbs < N
    by_cases e : g = 0
    · subst e; rw [Nat.gcd_zero_left]; exact hn
    · exact Nat.lt_of_le_of_lt (Nat.gcd_le_left _ (Nat.pos_of_ne_zero e)) h
theorem gcdL_lt {ns : List Int} {N : Nat} (h0 : 0 < N) (h : ∀ n ∈ ns, n.natAbs < N) : gcdL ns < N := gcd_fold_le ns 0 N h0 h
theorem log2_of_lt {n k : Nat} (h : n < 2 ^ k) (hk : 0 < k) : n.log2 < k := PySem.Flt.log2_lt_of hk h
end Dm

namespace Dm
open PySem L2 Evl
/-- a clause: the class named, the slot and name of «as», the suite's reading -/
structure Hd where
  c : Value
  nm : Option (Nat × Str)
  ts : Addr → Value → Option Addr → TS
/-- behind a suite the name of «as» is gone -/
def endsNm (nm : Option (Nat × Str)) (N : Ends) : Ends := match nm with
  | none => N
  | some (i, _) => { nx := fun σ H => N.nx (σ.set i none) H, rt := N.rt, bk := fun σ H => N.bk (σ.set i none) H, ct := fun σ H => N.ct (σ.set i none) H }
def setNm (nm : Option (Nat × Str)) (a : Addr) (σ : St) : St := match nm with
  | none => σ
  | some (i, _) => σ.set i (some (.ref a))
def wHds (K : PySem.W.Frag) (Wout : WX) (N : Ends) : List Hd → WX
  | [] => Wout
  | h :: r => fun cls d σ H => ∃ b, PySem.W.exmOne K cls h.c = some b ∧ (b = true → ∀ a, H a = none → h.ts a cls d (endsNm h.nm N) (setNm h.nm a σ) H) ∧ (b = false → wHds K Wout N r cls d σ H)
inductive HdsR (X : Cx) : List ExceptHandler → List Hd → Prop
  | nil : HdsR X [] []
  | plain {x : Str} {c : Value} {ts : Addr → Value → Option Addr → TS} {b : Stmt} {bs : List Stmt} {p q : Pos} {hs : List ExceptHandler} {l : List Hd} (hc : Names X x c)
      (hb : ∀ (a : Addr) (o : Obj) (cls : Value) (d : Option Addr) (pn : List (Addr × Obj)), Zc cls d o → (∃ vs, o.data = .fields vs) → PSs (X.suite a ((a, o) :: pn)) (b :: bs) (ts a cls d)) (r : HdsR X hs l) :
      HdsR X (.ExceptHandler (some (.Name x p)) none (b :: bs) q :: hs) (⟨c, none, ts⟩ :: l)
  | named {x n : Str} {i : Nat} {c : Value} {ts : Addr → Value → Option Addr → TS} {b : Stmt} {bs : List Stmt} {p q : Pos} {hs : List ExceptHandler} {l : List Hd} (hc : Names X x c) (hN : X.N.Nodup) (hi : X.N[i]? = some n) (hl : X.env.kindOf n = some .local)
      (hb : ∀ (a : Addr) (o : Obj) (cls : Value) (d : Option Addr) (pn : List (Addr × Obj)), Zc cls d o → (∃ vs, o.data = .fields vs) → PSs (X.suite a ((a, o) :: pn)) (b :: bs) (ts a cls d)) (r : HdsR X hs l) :
      HdsR X (.ExceptHandler (some (.Name x p)) (some n) (b :: bs) q :: hs) (⟨c, some (i, n), ts⟩ :: l)
/-- an exception that a try has met: where it is, what is known of it -/
structure Met (X : Cx) (pins : List (Addr × Obj)) (B : Heap) (a : Addr) (cls : Value) (d : Option Addr) (σ : St) (H : Hp) (sI s : Shared) (h : Heap) : Prop where
  inv : Inv X pins σ H sI
  nb : ∀ b o, sI.heap.get? b = some o → b ∉ frs X.stack → B.get? b = some o
  up : sI.heap.UpToSlots h
  fl : HandSPX.FlyingZ B (X.env :: X.outer) a (Zc cls d) h
  na : H a = none
  os : s.os = sI.os
  ag : PyProof.Rows.AllBare s.gens
section
variable {X : Cx} {pins : List (Addr × Obj)} {B : Heap} {a : Addr} {cls : Value} {d : Option Addr} {σ : St} {H : Hp} {sI s : Shared} {h : Heap}
theorem Met.far (m : Met X pins B a cls d σ H sI s h) (hf : X.env.frame = some X.env.locals) : a ≠ X.env.locals ∧ a ∉ X.fs := by
  obtain ⟨o, vs, ho, _, hd⟩ := m.fl.there
  have out : a ∉ frs (X.env :: X.outer) := fun y => by
    obtain ⟨_, o', ho', n⟩ := m.fl.2.2.1.mem y
    rw [ho] at ho'
    cases ho'
    exact n _ hd
  exact ⟨fun z => out (List.mem_filterMap.mpr ⟨X.env, List.mem_cons_self, hf.trans (congrArg some z.symm)⟩), fun z => by
    obtain ⟨e, he, q⟩ := List.mem_filterMap.mp z
    exact out (List.mem_filterMap.mpr ⟨e, List.mem_cons_of_mem _ he, q⟩)⟩
theorem Met.here (m : Met X pins B a cls d σ H sI s h) : Inv X pins σ H { s with heap := h } := m.inv.landed (s' := { s with heap := h }) m.nb m.fl.1 m.up m.os m.ag
theorem names_eval {x : Str} {c : Value} {p : Pos} {pn : List (Addr × Obj)} {ps : List (Addr × Obj)} {s : Shared} {σ : St} (hc : Names X x c) (I : Inv (X.suite a pn) ps σ H s) {Q E : Value → Shared → Prop} (q : Q c s) :
    wpAny (model X.prog X.w) (X.A.mark (some (.ref a))) (eval (.Name x p) X.env) Q E s := by
  rcases hc with ⟨g, db, m | ⟨m, v, n⟩⟩
  · exact ld_glob (X := X.suite a pn) I g m q db
  · exact ld_blt (X := X.suite a pn) I g m v q n db
theorem handle_all {Wout : WX} {N : Ends} (hfr : X.A.frames = some (X.env :: X.outer)) (hs : X.stack = X.env :: X.outer) (hf : X.env.frame = some X.env.locals) (tk : Takes X Wout) (m : Met X pins B a cls d σ H sI s h) :
    ∀ {hs' : List ExceptHandler} {l : List Hd}, HdsR X hs' l → wHds X.K Wout N l cls d σ H → wpAny (model X.prog X.w) X.A (handleBy (.ref a) X.env hs') (SP X pins N) X.xe { s with heap := h } := by
  obtain ⟨nl, nf⟩ := m.far hf
  intro hs' l k
  induction k with
  | nil =>
    intro hw
    refine wpAny_handleBy_nil ?_
    obtain ⟨_, _, _, o, vs, T, _, _, ho, _, hd, h1, _⟩ := id m.fl
    unfold PySem.passOn
    have ne : ¬ ((Value.ref T == Value.none) = true) := by simp
    refine wpAny_bind (wpAny_field ho hd h1 ?_)
    rw [if_neg ne]
    have go : wpAny (model X.prog X.w) X.A (setFlight (.ref a) X.env.frame) (fun _ s4 => wpAny (model X.prog X.w) X.A (throw (.ref a) : Sem Flow) (SP X pins N) X.xe s4) X.xe { s with heap := h } := by
      rw [hf]
      exact HandSPX.setFlight_upZ m.fl fun h4 hh u => wpAny_throw (tk _ _ ⟨a, B, sI, pins, σ, H, cls, d, rfl, m.inv, m.nb, m.up.trans u, .inr (.inr (by rw [hs]; exact hh)), m.na, m.os, m.ag, hw⟩)
    first
      | exact wpAny_bind (wpAny_pure (wpAny_bind go))
      | exact wpAny_bind go
  | @plain x c ts b bs p q hs2 l2 hc hb r ih =>
    rintro ⟨v, hv, yes, no⟩
    obtain ⟨o, vs, ho, hz, hd⟩ := m.fl.there
    have I1 := m.here.suite ho hd m.na nl nf
    refine wpAny_handleBy_cons (codeAny_handlers_test ?_) nofun
    have look : PySem.W.Looks (model X.prog X.w) h (typeOf (.ref a)) cls := fun A Q E s k q => wpAny_typeOf_ref (k _ _ ho) (by rw [hz.1]; exact q)
    refine names_eval hc I1 ((PySem.W.exm_one (M := model X.prog X.w) m.here.kIn look hv).here ?_)
    cases v with
    | false => exact ih (no rfl)
    | true =>
      refine codeAny_handlers_suite (HandSPX.lands_againZ m.fl fun h4 fl4 u4 => ?_)
      have m4 : Met X pins B a cls d σ H sI s h4 := ⟨m.inv, m.nb, m.up.trans u4, fl4, m.na, m.os, m.ag⟩
      obtain ⟨o4, vs4, ho4, hz4, hd4⟩ := fl4.there
      have I4 := m4.here.suite ho4 hd4 m.na nl nf
      refine wpAny_mono ((hb a o4 cls d (X.pn ++ pins) hz4 ⟨_, hd4⟩).run [] _ _ H _ I4 (yes rfl a m.na)) (fun f s6 y => ?_) (fun _ _ z => z.elim)
      cases f with
      | ret u => obtain ⟨v6, σ6, H6, S6, r6, q6⟩ := y; exact ⟨v6, σ6, H6, S6.unsuite m.inv.ok, r6, q6⟩
      | _ => obtain ⟨σ6, H6, S6, q6⟩ := y; exact ⟨σ6, H6, S6.unsuite m.inv.ok, q6⟩
  | @named x n i c ts b bs p q hs2 l2 hc hN hi hl hb r ih =>
    rintro ⟨v, hv, yes, no⟩
    obtain ⟨o, vs, ho, hz, hd⟩ := m.fl.there
    have I1 := m.here.suite ho hd m.na nl nf
    refine wpAny_handleBy_cons (codeAny_handlers_test ?_) nofun
    have look : PySem.W.Looks (model X.prog X.w) h (typeOf (.ref a)) cls := fun A Q E s k q => wpAny_typeOf_ref (k _ _ ho) (by rw [hz.1]; exact q)
    refine names_eval hc I1 ((PySem.W.exm_one (M := model X.prog X.w) m.here.kIn look hv).here ?_)
    cases v with
    | false => exact ih (no rfl)
    | true =>
      refine codeAny_handlers_suite_as (HandSPX.lands_againZ m.fl fun h4 fl4 u4 => ?_)
      have m4 : Met X pins B a cls d σ H sI s h4 := ⟨m.inv, m.nb, m.up.trans u4, fl4, m.na, m.os, m.ag⟩
      obtain ⟨o4, vs4, ho4, hz4, hd4⟩ := fl4.there
      have I4 := m4.here.suite ho4 hd4 m.na nl nf
      have hloc : Loc X.env.scope n := .inl hl
      refine store_ok (X := X.suite a ((a, o4) :: (X.pn ++ pins))) (v := .ref a) I4 hN hi hloc rfl (fun s5 I5 => ?_) (.inr hl)
      refine wpAny_mono ((hb a o4 cls d (X.pn ++ pins) hz4 ⟨_, hd4⟩).run [] s5 _ H _ I5 (yes rfl a m.na)) (fun f s6 y => ?_) (fun _ _ z => z.elim)
      cases f with
      | ret u => obtain ⟨v6, σ6, H6, S6, r6, q6⟩ := y; exact gone_ok (S6.unsuite m.inv.ok) hN hi hl fun s7 J => ⟨_, _, _, J, r6, q6⟩
      | _ => obtain ⟨σ6, H6, S6, q6⟩ := y; exact gone_ok (S6.unsuite m.inv.ok) hN hi hl fun s7 J => ⟨_, _, J, q6⟩
end
theorem ps_tryH {X : Cx} {body : List Stmt} {h₀ : ExceptHandler} {hds : List ExceptHandler} {l : List Hd} {pos : Pos} {tb : WX → TS} {Wout : WX} (hs : X.stack = X.env :: X.outer) (hf : X.env.frame = some X.env.locals) (tk : Takes X Wout)
    (hb : ∀ (W : WX) (pn : List (Addr × Obj)) (xe : Value → Shared → Prop), Takes (X.tr pn xe) W → PassesOwn (model X.prog X.w) X.A X.env xe → PSs (X.tr pn xe) body (tb W)) (hh : HdsR X (h₀ :: hds) l) :
    PS X (.Try body (h₀ :: hds) [] [] pos) (fun N σ H => tb (wHds X.K Wout N l) N σ H) := by
  constructor
  intro pins s σ H N I hw
  have ok := I.ok
  have hfr : X.A.frames = some (X.env :: X.outer) := ok.frames.trans (congrArg some hs)
  refine wpAny_Try_except ?_
  have B0 := hb (wHds X.K Wout N l) (X.pn ++ pins) (fun e s₁ => wpAny (model X.prog X.w) X.A (noteFrame e X.env) (fun _ s₂ => wpAny (model X.prog X.w) X.A (setFlight e none) (fun _ s₃ => wpAny (model X.prog X.w) X.A (handleBy e X.env (h₀ :: hds)) (SP X pins N) X.xe s₃) X.xe s₂) X.xe s₁)
    (fun u s' xx => by
      obtain ⟨a, B, sI, pins', σ', H', cls, d, rfl, J2, nb, up, high, na, os, ag, w⟩ := xx
      have sk : Sky B (X.env :: X.outer) a (Zc cls d) X.env.locals s'.heap := hs ▸ high
      exact Sky.land Zc.steady hfr hf sk fun h3 fl3 up3 => handle_all hfr hs hf tk ⟨J2.ofTry ok, nb, up.trans up3, fl3, na, os, ag⟩ hh w) PassesOwn.looking
  refine wpAny_mono (B0.run [] s σ H N (I.toTry _) hw) (fun f s1 y => ?_) (fun _ _ z => z)
  cases f with
  | next => obtain ⟨σ', H', J, q⟩ := y; exact wpAny_execs_nil ⟨σ', H', J.ofTry ok, q⟩
  | ret u => obtain ⟨v, σ', H', J, r, q⟩ := y; exact ⟨v, σ', H', J.ofTry ok, r, q⟩
  | brk => obtain ⟨σ', H', J, q⟩ := y; exact ⟨σ', H', J.ofTry ok, q⟩
  | cont => obtain ⟨σ', H', J, q⟩ := y; exact ⟨σ', H', J.ofTry ok, q⟩
end Dm

namespace Dm
open PySem L2 Evl
abbrev DMk := XP → Ro → Nat → (Err → Nat → Prop) → Prop
def SimMk (K : Cz) (W : WX) (t : St → Hp → XK → Prop) (m : DMk) : Prop := ∀ (p : Addr) (G0 H0 : Hp) (c : Nat) (G H : Hp) (σ : St) (ρ : Ro) (xe : XP) (Q : XK) (post : Err → Nat → Prop), WS K p G0 H0 c G H σ ρ → Xc K p G0 H0 xe W → m xe ρ c post →
  (∀ e c' cls d G' H', post e c' → Grow p G H G' H' → Wd K p c' G' H' → ErrR K p G' cls d e → Q cls d H') → t σ H Q
def mRaise (m : DMk) : DS := fun xe _ ρ c => m xe ρ c fun e c' => xe e ρ c'
theorem sim_raise {K : Cz} {W : WX} {t : St → Hp → XK → Prop} {m : DMk} (h : SimMk K W t m) : SimS K W (fun _ σ H => t σ H fun cls d H' => W cls d σ H') (mRaise m) := by
  intro p G0 H0 c G H σ ρ xe N E ws xc er q
  exact h p G0 H0 c G H σ ρ xe _ _ ws xc q fun e c' cls d G' H' y g w r => xc e ρ c' σ G' H' cls d (ws.grow g w) r y
/-- E(x), E a class with an __init__ that keeps x under f -/
def tMkE (mg : Str → Option Value) (nm f : Str) (te : TE) : St → Hp → XK → Prop := fun σ H Q => te σ H fun y H1 => ∀ C, mg nm = some (.ref C) → ∀ d, H1 d = none → Q (.ref C) (some d) (upd H1 d (.xd [(f, y)]))
/-- E(), E a class without one -/
def tMk0 (mg : Str → Option Value) (nm : Str) : St → Hp → XK → Prop := fun _ H Q => ∀ C, mg nm = some (.ref C) → Q (.ref C) none H
def mMkE (nm f : Str) (me : DE) : DMk := fun xe ρ c Q => me xe ρ c fun d c1 => Q ⟨nm, some (f, d)⟩ c1
def mMk0 (nm : Str) : DMk := fun _ _ c Q => Q ⟨nm, none⟩ c
section
variable {K : Cz} {W : WX}
theorem sim_mkE {nm f : Str} {te : TE} {me : DE} (h : SimE K W te me) : SimMk K W (tMkE K.mg nm f te) (mMkE nm f me) := by
  intro p G0 H0 c G H σ ρ xe Q post ws xc m k
  refine h p G0 H0 c G H σ ρ xe _ _ ws xc m fun d c1 v G1 H1 m1 g1 w1 r1 => ?_
  intro C hC dd hd
  have g2 : Grow p G1 H1 (upd G1 dd (.xd [(f, v)])) (upd H1 dd (.xd [(f, v)])) := Grow.laid hd w1.sub
  have w2 := w1.laid (o := .xd [(f, v)]) hd
  refine k _ c1 _ _ _ _ m1 (g1.tr g2 w2) w2 ⟨C, hC, rfl, fun f' x' z => ?_⟩
  cases z
  exact ⟨dd, v, rfl, upd_same, r1.up g2.ex⟩
theorem sim_mk0 {nm : Str} : SimMk K W (tMk0 K.mg nm) (mMk0 nm) := fun p G0 H0 c G H σ ρ xe Q post ws xc m k C hC =>
  k _ c _ _ G H m .refl ws.wd ⟨C, hC, rfl, fun _ _ z => nomatch z⟩
end
/-- the promise of such an __init__ -/
def spInitE (C : Addr) (f : Str) : Sp := fun vs H Q _ => ∃ (a : Addr) (y : V), vs = [.ref a, y] ∧ H a = some (exo a C none) ∧ ∀ dx, H dx = none → dx ≠ a → Q .non (upd (upd H dx (exd dx [(f, y)])) a (exo a C (some dx)))
/-- what is known of an own error class with such an __init__ -/
def OkErr (P : Program) (w : World) (K : PySem.W.Frag) (mg : Str → Option Value) (base : Heap) (nm f : Str) : Prop :=
  ∃ C fI fd, mg nm = some (.ref C) ∧ OexC K C ∧ PySem.W.findIn K (.ref C) "__init__" = some (some (.ref fI)) ∧ PySem.W.typeIn K (.ref fI) = some (.type "function") ∧ Binds K fd ["self", f] [] ∧ FnOk P w K mg base CX0 1 fI fd ["self", f] (spInitE C f)
/-- a reading may ask less -/
def tUp (te : TE) : TE := fun σ H Q => ∃ R : VK, te σ H R ∧ ∀ v H', R v H' → Q v H'
theorem pe_up {X : Cx} {e : Expr} {te : TE} (h : PE X e te) : PE X e (tUp te) := ⟨fun pins s σ H Q I ⟨R, hR, k⟩ => thn (h.run pins s σ H R I hR) fun u s1 ⟨v, H', I', r, q⟩ => ⟨v, H', I', r, k v H' q⟩⟩
theorem pmk_E {X : Cx} {nm f : Str} {j : Nat} {p pos : Pos} {e : Expr} {te : TE} (o : OkErr X.prog X.w X.K X.mg X.base nm f) (hr : Room j X.A) (hj : 2 ≤ j) (he : PE X e te) (hg : Gl X nm := by rfl) (hdb : (nm == ("__debug__" : Str)) = false := by decide)
    (hs : starEach [e] X.env = (false, eval e X.env) :: starEach [] X.env := by rfl) (hpl : (backTo pos (starEach [] X.env)).any (·.1) = false := by rfl) : PMk X (.Call (.Name nm p) [e] [] pos) (tMkE X.mg nm f te) := by
  obtain ⟨C, fI, fd, hm, T, iC, tI, hb, F⟩ := o
  intro pins s σ H Q I h
  refine pmk_oex (p := p) (pos := pos) T iC tI F (hr.mono hj) hb .nil (pass0 (X := X)) hg hm (pa_cons (pe_up he) pa_nil hs) hdb hs hpl pins s σ H Q I ⟨_, h, fun y H1 q => ?_⟩
  have q' := q C hm
  refine ⟨(by show 1 ≤ 1000; decide), fun a ha => ⟨a, y, rfl, upd_same, fun dx hdx hne => ?_⟩⟩
  have hd1 : H1 dx = none := by rw [upd_ne hne] at hdx; exact hdx
  refine ⟨rfl, dx, [(f, y)], upd_same, by rw [upd_ne hne]; exact upd_same, hd1, ?_⟩
  have e : upd (del (upd (upd (upd H1 a (exo a C none)) dx (exd dx [(f, y)])) a (exo a C (some dx))) a) dx (.xd [(f, y)]) = upd H1 dx (.xd [(f, y)]) := by
    funext b
    by_cases e1 : b = dx
    · subst e1; rw [upd_same, upd_same]
    · rw [upd_ne e1, upd_ne e1]
      by_cases e2 : b = a
      · subst e2; rw [del_same, ha]
      · rw [del_ne e2, upd_ne e2, upd_ne e1, upd_ne e2]
  rw [e]
  exact q' dx hd1
/-- an own error class without an __init__ -/
def OkErr0 (P : Program) (w : World) (K : PySem.W.Frag) (mg : Str → Option Value) (base : Heap) (nm : Str) : Prop :=
  ∃ C bmB, mg nm = some (.ref C) ∧ PySem.W.excIn K C bmB "ValueError.__new__" = true ∧ bmB = [.type "ValueError", .type "Exception", .type "BaseException", .type "object"] ∧ PySem.W.keepIn K (.ref C) = true ∧ PySem.W.subIn K (.ref C) (.type "BaseException") = some true ∧ PySem.W.typeIn K (.ref C) = some (.type "type")
/-- a call of a def that may raise -/
def OkX (sp : Sp) (P : Program) (w : World) (K : PySem.W.Frag) (mg : Str → Option Value) (base : Heap) (k : Nat) (x : Str) (ps : List Str) : Prop :=
  ∃ f fd, mg x = some (.ref f) ∧ PySem.W.keepIn K (.ref f) = true ∧ Binds K fd ps [] ∧ FnOk P w K mg base (L2.CX P w) k f fd ps sp
theorem pe_callX {X : Cx} {W : WX} {k j : Nat} {x : Str} {ps : List Str} {sp : Sp} {p pos : Pos} {e : Expr} {es : List Expr} {t : TA} (o : OkX sp X.prog X.w X.K X.mg X.base k x ps) (hr : Room j X.A) (hk : k ≤ j) (tk : Takes X W) (ha : PA X (e :: es) t) (hg : Gl X x := by rfl) (hdb : (x == ("__debug__" : Str)) = false := by decide)
    (he : starEach (e :: es) X.env = (false, eval e X.env) :: starEach es X.env := by rfl) (hpl : (backTo pos (starEach es X.env)).any (·.1) = false := by rfl) : PE X (.Call (.Name x p) (e :: es) [] pos) (tCallS sp (WE W) t) := by
  obtain ⟨f, fd, hm, hkp, hb, F⟩ := o
  exact pe_callS F (hr.mono hk) hg hm hkp hb (fun σ => passAt tk σ) ha hdb he hpl
theorem sim_callX {K : Cz} {W : WX} {f : DF} {ta : TA} {ma : DL} (ha : SimA K W ta ma) : SimE K W (tCallS (spS K f) (WE W) ta) (mCall f ma) := by
  intro p G0 H0 c G H σ ρ xe Q post ws xc m k
  refine ha p G0 H0 c G H σ ρ xe _ _ ws xc m fun ds c1 vs G1 H1 m1 g1 w1 r1 => ?_
  refine ⟨p, G1, c1, ds, _, post, w1, r1, m1, fun d c2 v G2 H2 m2 g2 w2 r2 => k d c2 v G2 H2 m2 (g1.tr g2 w2) w2 r2, fun e c2 cls dd G2 H2 m2 g2 w2 r2 => ?_⟩
  exact xc e ρ c2 σ G2 H2 cls dd (ws.grow (g1.tr g2 w2) w2) r2 m2
structure DHd where
  nm : Str
  slot : Option Nat
  ts : Addr → Value → Option Addr → DS
/-- which class is caught by which -/
abbrev Tab := List (Str × Str × Bool)
def Tab.get (T : Tab) (a b : Str) : Option Bool := (T.find? fun x => x.1 == a && x.2.1 == b).map (·.2.2)
def Tab.Ok (K : Cz) (T : Tab) : Prop := ∀ a b v, T.get a b = some v → ∀ Ca Cb, K.mg a = some (.ref Ca) → K.mg b = some (.ref Cb) → PySem.W.exmOne K.K (.ref Ca) (.ref Cb) = some v
def dEnds (sl : Option Nat) (E : DEnds) : DEnds := match sl with
  | none => E
  | some i => { E with nx := fun ρ c => E.nx (ρ.set i .no) c, bk := fun ρ c => E.bk (ρ.set i .no) c, ct := fun ρ c => E.ct (ρ.set i .no) c }
def dSet (sl : Option Nat) (a : Addr) (cls : Value) (d : Option Addr) (e : Err) (ρ : Ro) : Ro := match sl with
  | none => ρ
  | some i => ρ.set i (.exc a cls d e)
def hOf (T : Tab) (xe : XP) (E : DEnds) : List DHd → XP
  | [] => xe
  | h :: r => fun e ρ c => match T.get e.nm h.nm with
    | some true => ∀ a cls d, h.ts a cls d (fun _ _ _ => False) (dEnds h.slot E) (dSet h.slot a cls d e ρ) c
    | some false => hOf T xe E r e ρ c
    | none => False
inductive HR (K : Cz) : List Hd → List DHd → Prop
  | nil : HR K [] []
  | plain {C : Addr} {nm : Str} {ts : Addr → Value → Option Addr → TS} {ms : Addr → Value → Option Addr → DS} {l : List Hd} {l' : List DHd} (h : K.mg nm = some (.ref C)) (s : ∀ a cls d, SimS K (fun _ _ _ _ => False) (ts a cls d) (ms a cls d)) (r : HR K l l') : HR K (⟨.ref C, none, ts⟩ :: l) (⟨nm, none, ms⟩ :: l')
  | named {C : Addr} {nm n : Str} {i : Nat} {ts : Addr → Value → Option Addr → TS} {ms : Addr → Value → Option Addr → DS} {l : List Hd} {l' : List DHd} (h : K.mg nm = some (.ref C)) (s : ∀ a cls d, SimS K (fun _ _ _ _ => False) (ts a cls d) (ms a cls d)) (r : HR K l l') : HR K (⟨.ref C, some (i, n), ts⟩ :: l) (⟨nm, some i, ms⟩ :: l')
def mTry (T : Tab) (mb : DS) (hs : List DHd) : DS := fun xe E ρ c => mb (hOf T xe E hs) E ρ c
theorem EnvR.setExc {K : Cz} {p : Addr} {H0 G H : Hp} {σ : St} {ρ : Ro} {i : Nat} {a : Addr} {cls : Value} {d : Option Addr} {e : Err} (h : EnvR K p H0 G H σ ρ) (r : ErrR K p G cls d e) : EnvR K p H0 G H (σ.set i (some (.ref a))) (ρ.set i (.exc a cls d e)) := h.put (.exc r) fun _ _ _ _ _ _ _ z => absurd z reg_exc
theorem sim_try {K : Cz} {Wout : WX} {T : Tab} (hT : T.Ok K) {tb : WX → TS} {mb : DS} {l : List Hd} {l' : List DHd} (hb : ∀ W, SimS K W (tb W) mb) (hh : HR K l l') : SimS K Wout (fun N σ H => tb (wHds K.K Wout N l) N σ H) (mTry T mb l') := by
  intro p G0 H0 c G H σ ρ xe N E ws xc er m
  refine hb _ p G0 H0 c G H σ ρ _ N E ws ?_ er m
  clear m ws hb
  induction hh with
  | nil => exact xc
  | @plain C nm ts ms l l' hC s r ih =>
    intro e ρ' c' σ' G' H' cls d ws' re q
    obtain ⟨Ce, h1, h2, h3⟩ := id re
    simp only [hOf] at q
    split at q
    · rename_i ht
      refine ⟨true, by rw [h2]; exact hT _ _ _ ht _ _ h1 hC, fun _ a ha => ?_, (fun z => (nomatch z))⟩
      exact s a cls d p G0 H0 c' G' H' σ' ρ' _ N E ws' (fun _ _ _ _ _ _ _ _ _ _ z => z.elim) er (q a cls d)
    · rename_i ht
      exact ⟨false, by rw [h2]; exact hT _ _ _ ht _ _ h1 hC, (fun z => (nomatch z)), fun _ => ih e ρ' c' σ' G' H' cls d ws' re q⟩
    · exact q.elim
  | @named C nm n i ts ms l l' hC s r ih =>
    intro e ρ' c' σ' G' H' cls d ws' re q
    obtain ⟨Ce, h1, h2, h3⟩ := id re
    simp only [hOf] at q
    split at q
    · rename_i ht
      refine ⟨true, by rw [h2]; exact hT _ _ _ ht _ _ h1 hC, fun _ a ha => ?_, (fun z => (nomatch z))⟩
      refine s a cls d p G0 H0 c' G' H' (σ'.set i (some (.ref a))) (ρ'.set i (.exc a cls d e)) _ _ (dEnds (some i) E) ⟨ws'.gr, ws'.wd, ws'.en.setExc re⟩ (fun _ _ _ _ _ _ _ _ _ _ z => z.elim) ⟨fun σ ρ c G H y z => er.nx _ _ _ _ _ y.setNo z, fun σ ρ c G H y z => er.bk _ _ _ _ _ y.setNo z, fun σ ρ c G H y z => er.ct _ _ _ _ _ y.setNo z, er.rt, er.rtN, er.rtT, er.rtV⟩ (q a cls d)
    · rename_i ht
      exact ⟨false, by rw [h2]; exact hT _ _ _ ht _ _ h1 hC, (fun z => (nomatch z)), fun _ => ih e ρ' c' σ' G' H' cls d ws' re q⟩
    · exact q.elim
/-- e.f, e the handled error -/
def mXf (nm f : Str) (a : Addr) (cls : Value) (d : Option Addr) (i : Nat) : DE := fun _ ρ c Q => match ρ[i]? with
  | some (.exc a' cls' d' e) => (a' = a ∧ cls' = cls ∧ d' = d ∧ e.nm = nm) ∧ (match e.arg with | some (g, x) => g = f ∧ Q x c | none => False)
  | _ => False
theorem sim_xf {K : Cz} {W : WX} {nm f : Str} {C a : Addr} {cls : Value} {d : Option Addr} {i : Nat} (hC : K.mg nm = some (.ref C)) : SimE K W (tXf a cls d C f (tVar i)) (mXf nm f a cls d i) := by
  intro p G0 H0 c G H σ ρ xe Q post ws xc m k
  unfold mXf at m
  split at m
  · rename_i a' cls' d' e he
    obtain ⟨⟨rfl, rfl, rfl, hn⟩, m⟩ := m
    obtain ⟨o, h1, h2⟩ := ws.en.get he
    cases h2 with
    | exc re =>
      obtain ⟨Ce, q1, q2, q3⟩ := re
      rw [hn, hC] at q1
      cases q1
      split at m
      · rename_i g x hx
        obtain ⟨rfl, m⟩ := m
        obtain ⟨dd, v, z1, z2, z3⟩ := q3 _ _ hx
        exact ⟨_, h1, rfl, q2, dd, _, v, z1, ws.wd.sub _ _ z2, by simp [List.lookup], k x c v G H m .refl ws.wd z3⟩
      · exact m.elim
  · exact m.elim
end Dm

namespace Dm
open PySem L2 Evl
open PyProof.Rows (envOfC)
section
variable {X : Cx} {k j : Nat} {x : Str} {ps : List Str} {mf : DF} {p pos : Pos} {e : Expr} {es : List Expr} {t : TA}
end
section
variable {K : Cz} {W : WX}
end
/-- an error class with `def __init__(self, f): self.f = f` -/
theorem okErr {P : Program} {w : World} {K : PySem.W.Frag} {mg : Str → Option Value} {base : Heap} {nm f qual : Str} {C fI : Addr} {fd : FuncData} {st : Stmt} {p1 p2 p3 p4 : Pos} (hm : mg nm = some (.ref C)) (T : OexC K C) (hno : PySem.W.findIn K (.ref C) f = some none)
    (iC : PySem.W.findIn K (.ref C) "__init__" = some (some (.ref fI))) (tI : PySem.W.typeIn K (.ref fI) = some (.type "function")) (F : Fun K "__init__" qual st fI fd) (S : FnScope ["self", f] ["self", f] (defScope st)) (hb : Binds K fd ["self", f] [])
    (hf : (f == ("__debug__" : Str)) = false) (hf2 : (f == ("__classdict__" : Str)) = false) (hv : ∀ cdv n, Vis (envOfC qual (defScope st) n fI cdv).scope "self" ∧ Vis (envOfC qual (defScope st) n fI cdv).scope f) (body : defBody st = [.Assign [.Attribute (.Name "self" p1) f p2] (.Name f p3) p4]) : OkErr P w K mg base nm f := by
  refine ⟨C, fI, fd, hm, T, iC, tI, hb, F.ok S (fun vs H Q E h => ?_) (fun cdv A outer s H vs Q E hr h => ?_)⟩
  · obtain ⟨a, y, rfl, _⟩ := h; rfl
  · obtain ⟨a, y, rfl, h1, h2⟩ := h
    rw [body]
    refine ⟨_, pss_one (ps_ost (pv 0 rfl (hv _ _).1 (by decide)) (pv 1 rfl (hv _ _).2 hf hf2)), ?_⟩
    exact ⟨y, rfl, .ref a, rfl, a, C, rfl, T, hno, .inl ⟨h1, fun dx q1 q2 => h2 dx q1 q2⟩⟩
theorem tab_of {K : Cz} {T : Tab} (h : ∀ e ∈ T, ∃ Ca Cb, K.mg e.1 = some (.ref Ca) ∧ K.mg e.2.1 = some (.ref Cb) ∧ PySem.W.exmOne K.K (.ref Ca) (.ref Cb) = some e.2.2) : T.Ok K := by
  intro a b v hv Ca Cb ha hb
  unfold Tab.get at hv
  cases q : List.find? (fun x : Str × Str × Bool => x.1 == a && x.2.1 == b) T with
  | none => rw [q] at hv; cases hv
  | some e =>
    rw [q] at hv
    have hv : e.2.2 = v := Option.some.inj hv
    have he := List.find?_some q
    rw [Bool.and_eq_true, beq_iff_eq, beq_iff_eq] at he
    obtain ⟨Cx, Cy, h1, h2, h3⟩ := h e (List.mem_of_find?_eq_some q)
    rw [he.1, ha] at h1; cases h1
    rw [he.2, hb] at h2; cases h2
    rw [← hv]; exact h3
end Dm

namespace Dm
open PySem L2 Evl
open PyProof.Rows (envOfC)
section
variable {K : Cz} {p : Addr} {G : Hp}
theorem RpF.look : ∀ {gs : List (Str × D)} {fs : List (Str × V)} (f : Str), RpF K p G fs gs → (∀ d, gs.lookup f = some d → ∃ v, fs.lookup f = some v ∧ Rp K p G v d) ∧ (gs.lookup f = none → fs.lookup f = none)
  | [], _, f, h => by cases h; exact ⟨fun d e => (nomatch e), fun _ => rfl⟩
  | (g, x) :: gs, _, f, h => by
    cases h with
    | cons h1 h2 =>
      obtain ⟨i1, i2⟩ := RpF.look f h2
      rw [List.lookup_cons, List.lookup_cons]
      cases e : f == g with
      | true => exact ⟨fun d q => by cases q; exact ⟨_, rfl, h1⟩, fun q => nomatch q⟩
      | false => exact ⟨i1, i2⟩
def putD (f : Str) (d : D) : List (Str × D) → List (Str × D)
  | [] => [(f, d)]
  | (g, x) :: r => if g = f then (g, d) :: r else (g, x) :: putD f d r
theorem RpF.put {f : Str} {v : V} {d : D} (r : Rp K p G v d) : ∀ {gs : List (Str × D)} {fs : List (Str × V)}, RpF K p G fs gs → RpF K p G (putF f v fs) (putD f d gs)
  | [], _, h => by cases h; exact .cons r .nil
  | (g, x) :: gs, _, h => by
    cases h with
    | cons h1 h2 =>
      unfold putF putD
      split
      · exact .cons r h2
      · exact .cons h1 (RpF.put r h2)
theorem RpF.len : ∀ {gs : List (Str × D)} {fs : List (Str × V)}, RpF K p G fs gs → fs.length = gs.length
  | [], _, h => by cases h; rfl
  | (_, _) :: gs, _, h => by
    cases h with
    | cons h1 h2 => rw [List.length_cons, List.length_cons, RpF.len h2]
end
section
variable {K : Cz} {W : WX} {p : Addr} {G0 H0 G H G' H' : Hp} {c c' : Nat} {σ : St} {ρ : Ro}
/-- what is known of a class: its name, the address, no class attribute of these names -/
structure ClsAt (K : Cz) (nm : Str) (C : Addr) : Prop where
  at_ : K.mg nm = some (.ref C)
  cls : Cls K.K C
theorem EnvR.obj {i : Nat} {a : Addr} {nm : Str} {gs : List (Str × D)} (h : EnvR K p H0 G H σ ρ) (e : ρ[i]? = some (.obj a nm gs)) : ∃ C dx fs, σ[i]? = some (some (.ref a)) ∧ K.mg nm = some (.ref C) ∧ a ≠ p ∧ H0 a = none ∧ G a = none ∧ H a = some (.ins C dx fs) ∧ RpF K p G fs gs := by
  obtain ⟨o, h1, h2⟩ := h.get e
  cases h2 with
  | obj a1 a2 a3 a4 a5 a6 => exact ⟨_, _, _, h1, a1, a2, a3, a4, a5, a6⟩
theorem WS.objUpd {i : Nat} {a C dx : Addr} {nm : Str} {gs ks : List (Str × D)} {fs hs : List (Str × V)} (h : WS K p G0 H0 c G H σ ρ) (e : ρ[i]? = some (.obj a nm gs)) (e2 : σ[i]? = some (some (.ref a))) (hC : K.mg nm = some (.ref C)) (np : a ≠ p) (n0 : H0 a = none) (hg : G a = none) (hh : H a = some (.ins C dx fs))
    (r : RpF K p G hs ks) : WS K p G0 H0 c G (upd H a (.ins C dx hs)) σ (ρ.set i (.obj a nm ks)) := by
  have il : i < ρ.length := (List.getElem?_eq_some_iff.mp e).1
  refine ⟨⟨h.gr.ex, h.gr.new, fun b o hb q => ?_, fun zs q => ?_⟩, ⟨fun b o q => ?_, h.wd.gp, h.wd.pl.of (Ex.refl _) fun o q => by rw [upd_ne np.symm]; exact q⟩, by simp [h.en.len], fun j o s q1 q2 => ?_, fun j k o o' s s' ne q1 q2 q3 q4 b z => ?_⟩
  · rw [upd_ne (ne_of_none q n0)]; exact h.gr.keep b o hb q
  · obtain ⟨us, h1, h2⟩ := h.gr.pc zs q
    exact ⟨us, by rw [upd_ne np.symm]; exact h1, h2⟩
  · rw [upd_ne (ne_of_none q hg)]; exact h.wd.sub b o q
  · by_cases z : i = j
    · subst z
      rw [List.getElem?_set_self il] at q2
      cases q2
      rw [e2] at q1; cases q1
      exact .obj hC np n0 hg upd_same r
    · rw [List.getElem?_set_ne z] at q2
      exact (h.en.sl j o s q1 q2).apart fun y => h.en.dis i j _ o _ s z e2 e q1 q2 a rfl y
  · have old : ∀ (j : Nat) (o : Option V) (s : S), σ[j]? = some o → (ρ.set i (.obj a nm ks))[j]? = some s → ∃ s1, ρ[j]? = some s1 ∧ ∀ b, s.reg o b ↔ s1.reg o b := fun j o s y1 y2 => by
      by_cases z : i = j
      · subst z
        rw [List.getElem?_set_self il] at y2
        cases y2
        rw [e2] at y1; cases y1
        exact ⟨_, e, fun b => Iff.rfl⟩
      · rw [List.getElem?_set_ne z] at y2; exact ⟨_, y2, fun b => Iff.rfl⟩
    obtain ⟨s1, a1, b1⟩ := old j o s q1 q2
    obtain ⟨s2, a2, b2⟩ := old k o' s' q3 q4
    exact fun y => h.en.dis j k o o' s1 s2 ne q1 a1 q3 a2 b ((b1 b).mp z) ((b2 b).mp y)
def mSetF (i : Nat) (nm f : Str) (me : DE) : DS := fun xe E ρ c => me xe ρ c fun d c1 => match ρ[i]? with
  | some (.obj a nm' gs) => (nm' = nm ∧ gs.length < 1000) ∧ E.nx (ρ.set i (.obj a nm (putD f d gs))) c1
  | _ => False
theorem sim_setF {i : Nat} {nm f : Str} {C : Addr} {te : TE} {me : DE} (k : ClsAt K nm C) (na : NoAttr K.K C f) (h : SimE K W te me) : SimS K W (sFld K.K (tVar i) te f) (mSetF i nm f me) := by
  intro p G0 H0 c G H σ ρ xe N E ws xc er m
  refine h p G0 H0 c G H σ ρ xe _ _ ws xc m fun d c1 v G1 H1 m1 g1 w1 r1 => ?_
  split at m1
  · rename_i a nm' gs e
    obtain ⟨⟨rfl, hl⟩, m1⟩ := m1
    have ws1 := ws.grow g1 w1
    obtain ⟨C', dx, fs, q1, q2, q3, q4, q5, q6, q7⟩ := ws1.en.obj e
    have q2' := q2
    rw [k.at_] at q2'; cases q2'
    refine ⟨_, q1, a, C, dx, fs, rfl, q6, k.cls, na, by rw [q7.len]; exact hl, ?_⟩
    exact er.nx _ _ _ _ _ (ws1.objUpd e q1 q2 q3 q4 q5 q6 (q7.put r1)) m1
  · exact m1.elim
end
/-- what an __init__ does on data: the arguments in, the fields out -/
abbrev DI := (Err → Nat → Prop) → List D → Nat → (List (Str × D) → Nat → Prop) → Prop
def spI (K : Cz) (nm : Str) (f : DI) : Sp := fun vs H Q E => ∃ (x dx0 C : Addr) (us : List V) (p : Addr) (Hb G : Hp) (c : Nat) (ds : List D) (xe : Err → Nat → Prop) (rt : List (Str × D) → Nat → Prop),
  vs = .ref x :: us ∧ (dx0 ≠ x ∧ Hb x = none ∧ Hb dx0 = none ∧ H = upd (upd Hb dx0 (.own x)) x (.ins C dx0 [])) ∧ K.mg nm = some (.ref C) ∧ Wd K p c G Hb ∧ RpL K p G us ds ∧ f xe ds c rt ∧
  (∀ gs c' dx fs G' H', rt gs c' → Grow p G Hb G' H' → Wd K p c' G' H' → G' x = none → H' x = some (.ins C dx fs) → RpF K p G' fs gs → Q .non H') ∧
  (∀ e c' cls dd G' H', xe e c' → Grow p G Hb G' H' → Wd K p c' G' H' → ErrR K p G' cls dd e → E cls dd H')
section
variable {P : Program} {w : World} {K : PySem.W.Frag} {mg : Str → Option Value} {base : Heap}
theorem fnIX {qual nm : Str} {st : Stmt} {f : Addr} {fd : FuncData} {N ps : List Str} {s0 : Str} {k : Nat} {mf : DI} {mb : DS} (F : Fun K "__init__" qual st f fd) (S : FnScope N (s0 :: ps) (defScope st)) (hN : 0 < N.length)
    (hb : ∀ (cdv : Value) (A : Around) (outer : List Env) (s : Shared) (H : Hp) (E : XK), Room k (A.deeper (envOfC qual (defScope st) s.heap.objs.size f cdv)) →
      ∃ t, PSs (cxOf (L2.CX P w) P w K mg base N qual (defScope st) f cdv A outer s H E) (defBody st) t ∧ SimS ⟨K, mg, P, w⟩ (fun cls d _ H => E cls d H) t mb)
    (hm : ∀ (x : Addr) ds c xe rt, mf xe ds c rt → ds.length = ps.length ∧ mb (fun e _ c' => xe e c') { nx := fun ρ c' => ∃ gs, ρ[0]? = some (.obj x nm gs) ∧ rt gs c', rt := fun _ _ => False } ((ro0 N (.non :: ds)).set 0 (.obj x nm [])) c) :
    FnOk P w K mg base (L2.CX P w) (k + 1) f fd (s0 :: ps) (spI ⟨K, mg, P, w⟩ nm mf) := by
  refine F.okX S (fun vs H Q E h => ?_) (fun cdv A outer s H vs Q E hr h => ?_)
  · obtain ⟨x, dx0, C, us, p, Hb, G, c, ds, xe, rt, rfl, hH, hC, w1, r, q, _⟩ := h
    rw [List.length_cons, List.length_cons, r.len, (hm x ds c xe rt q).1]
  · obtain ⟨x, dx0, C, us, p, Hb, G, c, ds, xe, rt, rfl, ⟨hne, hx0, hd0, rfl⟩, hC, w1, r, q, k1, k2⟩ := h
    obtain ⟨t, h1, h2⟩ := hb cdv A outer s (upd (upd Hb dx0 (.own x)) x (.ins C dx0 [])) E hr
    have hx1 : upd Hb dx0 (.own x) x = none := by rw [upd_ne hne.symm]; exact hx0
    have g1 : Grow p G Hb G (upd Hb dx0 (.own x)) := Grow.laidO hd0
    have w2 : Wd ⟨K, mg, P, w⟩ p c G (upd Hb dx0 (.own x)) := w1.laidO hd0
    have g2 : Grow p G Hb G (upd (upd Hb dx0 (.own x)) x (.ins C dx0 [])) := g1.tr (Grow.laidO hx1) (w2.laidO hx1)
    have w3 : Wd ⟨K, mg, P, w⟩ p c G (upd (upd Hb dx0 (.own x)) x (.ins C dx0 [])) := w2.laidO hx1
    have gx : G x = none := by
      cases z : G x with
      | none => rfl
      | some o => have := w1.sub x o z; rw [hx0] at this; cases this
    have np : x ≠ p := fun z => by
      obtain ⟨o, ho⟩ := w1.np
      rw [z, ho] at hx0; cases hx0
    have e0 : EnvR ⟨K, mg, P, w⟩ p Hb G (upd (upd Hb dx0 (.own x)) x (.ins C dx0 [])) (L2.start N (.non :: us)) (ro0 N (.non :: ds)) := env_start (.cons .non r)
    have e1 : EnvR ⟨K, mg, P, w⟩ p Hb G (upd (upd Hb dx0 (.own x)) x (.ins C dx0 [])) ((L2.start N (.non :: us)).set 0 (some (.ref x))) ((ro0 N (.non :: ds)).set 0 (.obj x nm [])) :=
      e0.put (.obj hC np hx0 gx upd_same .nil) fun j o s' ne a1 a2 b z y => by
        obtain rfl : b = x := z
        unfold ro0 at a2
        rcases Nat.lt_or_ge j ((D.non :: ds).map Dm.S.sh).length with hj | hj
        · rw [List.getElem?_append_left hj, List.getElem?_map] at a2
          cases q : (D.non :: ds)[j]? with
          | none => rw [q] at a2; cases a2
          | some d => rw [q] at a2; cases a2; exact reg_sh y
        · rw [List.getElem?_append_right hj] at a2
          obtain ⟨_, a3⟩ := List.getElem?_eq_some_iff.mp a2
          rw [List.getElem_replicate] at a3
          subst a3
          exact reg_no y
    have est : (L2.start N (.non :: us)).set 0 (some (.ref x)) = L2.start N (.ref x :: us) := by unfold L2.start; rfl
    rw [est] at e1
    refine ⟨t, h1, h2 p G Hb c G _ _ _ (fun e _ c' => xe e c') _ { nx := fun ρ c' => ∃ gs, ρ[0]? = some (.obj x nm gs) ∧ rt gs c', rt := fun _ _ => False } ⟨g2, w3, e1⟩ (fun e ρ c σ G' H' cls d ws er z => k2 e c cls d G' H' z ws.gr ws.wd er) ⟨fun σ ρ c G' H' ws z => ?_, fun σ ρ c G' H' ws z => z, fun σ ρ c G' H' ws z => z, fun v d c G' H' gr wd rp z => z.elim, fun v d c F G' H' gr wd hf rp z => z.elim, fun _ _ _ _ _ _ _ _ _ _ z => z.elim, fun _ _ _ _ _ _ _ _ _ z => z.elim⟩ (hm x ds c xe rt q).2⟩
    obtain ⟨gs, z1, z2⟩ := z
    obtain ⟨C', dx, fs, y1, y2, y3, y4, y5, y6, y7⟩ := ws.en.obj z1
    rw [hC] at y2; cases y2
    exact k1 gs c dx fs G' H' z2 ws.gr ws.wd y5 y6 y7
end
/-- a class whose instances are made by its name -/
def OkM (P : Program) (w : World) (K : PySem.W.Frag) (mg : Str → Option Value) (base : Heap) (k : Nat) (nm : Str) (ps : List Str) (mf : DI) : Prop :=
  ∃ C f fd, mg nm = some (.ref C) ∧ Mk K C f ∧ Binds K fd ps [] ∧ FnOk P w K mg base (L2.CX P w) k f fd ps (spI ⟨K, mg, P, w⟩ nm mf)
section
variable {K : Cz} {W : WX}
end
section
variable {X : Cx} {k j : Nat} {nm m : Str} {ps : List Str} {sp : Sp} {p apos pos : Pos} {o e : Expr} {es : List Expr} {te : TE} {t : TA}
end
section
variable {K : Cz} {W : WX}
end
end Dm

namespace Dm
open PySem L2 Evl
theorem pmk_0 {X : Cx} {nm : Str} {p pos : Pos} (o : OkErr0 X.prog X.w X.K X.mg X.base nm) (hg : Gl X nm := by rfl) (hdb : (nm == ("__debug__" : Str)) = false := by decide) : PMk X (.Call (.Name nm p) [] [] pos) (tMk0 X.mg nm) := by
  obtain ⟨C, bmB, hm, q, rfl, kC, b1, t1⟩ := o
  intro pins s σ H Q I h
  refine wpAny_Call_Name_kw (ld_glob I hg hm (PySem.W.callWith_K0 I.kIn kC ?_) hdb)
  obtain ⟨bm, N, nm2, qn, bs, hdct, sn, sub, ab, col, dd, k0, k1, k2, k3, k5, mN, hC, hN, hni, T⟩ := exc_obj I.kIn q
  show wpAny _ _ (call (.ref C) []) _ _ _
  exact wpAny_call_exc_subT PySem.F.excBase_ValueError T hC hN hni (fun h' e hx => mk_of I hx (raises_own b1 t1) (h C hm) (I.hok.gone hx.new)) (Nat.zero_le _)
section
variable {K : Cz} {W : WX}
def mChain (f g : DR2) (ma mb mc : DE) : DE := fun xe ρ c Q => ma xe ρ c fun x c1 => mb xe ρ c1 fun y c2 => f x y fun z => match z with
  | .bl b => if b = true then mc xe ρ c2 fun w c3 => g y w fun z' => Q z' c3 else Q (.bl false) c2
  | _ => False
theorem sim_chain {r r' : R2} {f g : DR2} {ta tb tc : TE} {ma mb mc : DE} (hr : SimR2 K r f) (hr' : SimR2 K r' g) (ha : SimE K W ta ma) (hb : SimE K W tb mb) (hc : SimE K W tc mc) : SimE K W (tChain r r' ta tb tc) (mChain f g ma mb mc) := by
  intro p G0 H0 c G H σ ρ xe Q post ws xc m k
  refine ha p G0 H0 c G H σ ρ xe _ _ ws xc m fun x c1 v G1 H1 m1 g1 w1 r1 => ?_
  refine hb p G0 H0 c1 G1 H1 σ ρ xe _ _ (ws.grow g1 w1) xc m1 fun y c2 u G2 H2 m2 g2 w2 r2 => ?_
  refine hr p c2 G2 H2 v u x y _ _ w2 (r1.up g2.ex) r2 m2 fun z t G3 H3 m3 g3 w3 r3 => ?_
  cases r3 with
  | bl b =>
    refine ⟨b, rfl, ?_⟩
    cases b with
    | true =>
      have m3 : mc xe ρ c2 fun w c3 => g y w fun z' => post z' c3 := m3
      refine hc p G0 H0 c2 G3 H3 σ ρ xe _ _ (((ws.grow g1 w1).grow g2 w2).grow g3 w3) xc m3 fun w' c4 t' G4 H4 m4 g4 w4 r4 => ?_
      refine hr' p c4 G4 H4 u t' y w' _ _ w4 ((r2.up g3.ex).up g4.ex) r4 m4 fun z' t2 G5 H5 m5 g5 w5 r5 => ?_
      exact k z' c4 t2 G5 H5 m5 ((((g1.tr g2 w2).tr g3 w3).tr g4 w4).tr g5 w5) w5 r5
    | false => exact k _ c2 _ G3 H3 m3 ((g1.tr g2 w2).tr g3 w3) w3 (.bl _)
  | _ => exact m3.elim
def mIsi2 (T U : String) (ma : DE) : DE := fun xe ρ c Q => ma xe ρ c fun d c1 => match d with | .ins _ _ => False | .pool => False | _ => Q (.bl (dIsi T d || dIsi U d)) c1
theorem kit2 {K : PySem.W.Frag} {t T U : String} {a b : Bool} (h1 : kitB t T = some a) (h2 : kitB t U = some b) : PySem.W.kitAny K (.type t) [.type T, .type U] = some (a || b) := by
  refine kitAny_cons (kit_ty h1) (fun e => ?_) (fun e => by rw [e]; rfl)
  subst e
  exact kitAny_cons (kit_ty h2) (fun e => by rw [e]; rfl) (fun e => by rw [e]; rfl)
theorem sim_isi2 {T U : String} {ta : TE} {ma : DE} (hT : BasicT T = true) (hU : BasicT U = true) (ha : SimE K W ta ma) :
    SimE K W (tCB (rIsiT K.K) (tCons ta (tCons (tTup (tCons (tC (.ty T)) (tCons (tC (.ty U)) tNil))) tNil))) (mIsi2 T U ma) := by
  intro p G0 H0 c G H σ ρ xe Q post ws xc m k
  refine ha p G0 H0 c G H σ ρ xe _ _ ws xc m fun d c1 v G1 H1 m1 g1 w1 r1 => ?_
  refine ⟨by show 2 ≤ sizeLine; decide, fun tp htp => ?_⟩
  have g2 : Grow p G1 H1 G1 (upd H1 tp (.tup [.ty T, .ty U])) := Grow.laidO htp
  have w2 : Wd K p c1 G1 (upd H1 tp (.tup [.ty T, .ty U])) := w1.laidO htp
  have g3 := g1.tr g2 w2
  obtain ⟨b1, b2, b3, b4, b5, b6⟩ := kitB_basic hT
  obtain ⟨e1, e2, e3, e4, e5, e6⟩ := kitB_basic hU
  have pr : Paired ClsV [.ty T, .ty U] [.type T, .type U] := .cons (.ty _) (.cons (.ty _) .nil)
  cases r1 with
  | non => exact ⟨_, tp, _, _, _, _, rfl, upd_same, pr, .base .non, kit2 b1 e1, k _ c1 _ G1 _ m1 g3 w2 (.bl _)⟩
  | bl b => exact ⟨_, tp, _, _, _, _, rfl, upd_same, pr, .base (.bl _), kit2 b2 e2, k _ c1 _ G1 _ m1 g3 w2 (.bl _)⟩
  | int i => exact ⟨_, tp, _, _, _, _, rfl, upd_same, pr, .base (.int _), kit2 b3 e3, k _ c1 _ G1 _ m1 g3 w2 (.bl _)⟩
  | str i => exact ⟨_, tp, _, _, _, _, rfl, upd_same, pr, .base (.str _), kit2 b4 e4, k _ c1 _ G1 _ m1 g3 w2 (.bl _)⟩
  | lst h1 h2 => exact ⟨_, tp, _, _, _, _, rfl, upd_same, pr, .base (.lst (w2.sub _ _ h1)), kit2 b5 e5, k _ c1 _ G1 _ m1 g3 w2 (.bl _)⟩
  | tup h1 h2 => exact ⟨_, tp, _, _, _, _, rfl, upd_same, pr, .base (.tup (w2.sub _ _ h1)), kit2 b6 e6, k _ c1 _ G1 _ m1 g3 w2 (.bl _)⟩
  | ins => exact m1.elim
  | pool => exact m1.elim
def dAll : DRL := fun ds Q => match ds with | [.lst l] => (∃ bs : List Bool, l = bs.map D.bl ∧ Q (.bl (bs.all id))) | _ => False
theorem srl_all : SimRL K (rAll K.K) dAll := by
  intro p c G H xs ds Q post w r m k
  unfold dAll at m
  split at m
  · obtain ⟨bs, rfl, m⟩ := m
    obtain ⟨v, rfl, r1⟩ := r.one
    cases r1 with
    | lst h1 h2 =>
      have e := h2.bls
      subst e
      exact ⟨_, bs, rfl, sq_of (w.sub _ _ h1), k _ _ G H m .refl w (.bl _)⟩
  · exact m.elim
def rSumS (K : PySem.W.Frag) : List V → Hp → VK → Prop := fun vs H Q => ∃ (a : Addr) (ns : List Int), vs = [V.ref a] ∧ (SqL K H a (ns.map V.int) ∨ SqT K H a (ns.map V.int)) ∧ Q (.int ns.sum) H
theorem cr_sumS {X : Cx} (hc : X.calm = true) : CallR X (.builtin "sum") (rSumS X.K) := by
  intro pins s σ H vs us Q J r h
  obtain ⟨a, ns, e0, hs | hs, q⟩ := h
  · subst e0
    exact cr_sum hc pins s σ H _ us Q J r ⟨a, ns, rfl, hs, q⟩
  · subst e0
    obtain ⟨its, rv, tl, _⟩ := J.tuple hs
    have tl' : s.heap.IsTuple a its.toArray := tl
    rw [Vals.ref1 r]
    obtain ⟨xs, ei⟩ := rv.ints.allInts.items
    have en : numsOf (intItems xs).toList = ns := by rw [← ei]; exact rv.ints.numsOf
    rw [nums_intItems] at en
    rw [ei] at tl'
    have low : a < s.heap.objs.size := by obtain ⟨_, y, _⟩ := tl'; exact Heap.lt_size y
    refine call_sum_walkG (wpAny_pyIter_tuple tl' ⟨_, _, _, _, _, _, numAt xs, rfl, Walks.tuple (A := X.A.in1) (J.ok.hd hc) _ a (Nat.ne_of_lt low) (intItems xs), ⟨⟨_, Heap.get?_push_size _ rfl, rfl, rfl⟩, tl'.push _⟩, fun b hb => ?_, (fun _ _ => intItems_at), fun h' tk t' hk => ?_⟩)
    · have hb2 : b = s.heap.objs.size ∨ b = a := by simpa using hb
      refine show b < (s.heap.push _).objs.size from ?_
      rw [Heap.size_push]
      rcases hb2 with z | z
      · rw [z]; exact Nat.lt_succ_self _
      · rw [z]; exact Nat.lt_succ_of_lt low
    · have es : preSum (numAt xs) (intItems xs).size = ns.sum := by
        rw [preSum_eq, List.take_of_length_le (by simp [intItems]), en]
      rw [es]
      refine ⟨.int _, H, J.kept fun b o eo => hk b o (fun hmem => ?_) (Heap.get?_push_of_some _ eo), ⟨_, rfl⟩, q⟩
      rcases List.mem_cons.mp hmem with e1 | e1
      · exact (Nat.lt_irrefl _ (e1 ▸ Heap.lt_size eo)).elim
      · cases e1
def dSum : DRL := fun ds Q => match ds with | [d] => dSeq d fun l => ∃ ns : List Int, l = ns.map D.int ∧ Q (.int ns.sum) | _ => False
theorem srl_sum : SimRL K (rSumS K.K) dSum := by
  intro p c G H xs ds Q post w r m k
  unfold dSum at m
  split at m
  · obtain ⟨v, rfl, r1⟩ := r.one
    cases r1 with
    | lst h1 h2 =>
      obtain ⟨ns, rfl, m⟩ := m
      have e := h2.ints
      subst e
      exact ⟨_, ns, rfl, .inl (sq_of (w.sub _ _ h1)), k _ _ G H m .refl w (.int _)⟩
    | tup h1 h2 =>
      obtain ⟨ns, rfl, m⟩ := m
      have e := h2.ints
      subst e
      exact ⟨_, ns, rfl, .inr (st_of (w.sub _ _ h1)), k _ _ G H m .refl w (.int _)⟩
    | _ => exact m.elim
  · exact m.elim
theorem it_enum {p : Addr} {G : Hp} {a : Addr} {xs : List V} {ds : List D} (h : G a = some (.lst xs)) (r : RpL K p G xs ds) : ItOk K p (Ite K.K a) G (ds.zipIdx.map fun x => D.tup [.int (x.2 : Nat), x.1]) := by
  intro i c G' H' e w
  have hs := sq_of (K := K.K) (w.sub _ _ (e _ _ h))
  refine ⟨fun d hd => ?_, fun _ hi => ⟨xs, hs, by rw [r.len]; simpa using hi⟩⟩
  rw [List.getElem?_map, List.getElem?_zipIdx] at hd
  cases q : ds[i]? with
  | none => rw [q] at hd; cases hd
  | some x =>
    rw [q] at hd
    have hd : D.tup [.int ((0 + i : Nat) : Int), x] = d := Option.some.inj hd
    obtain ⟨v, hv, rv⟩ := r.get q
    refine ⟨⟨xs, v, hs, hv⟩, fun y H'' z => ?_⟩
    obtain ⟨T, u, rfl, hT, rfl, hu⟩ := z
    have := hu xs hs
    rw [hv] at this; cases this
    refine ⟨_, Grow.laid hT w.sub, w.laid hT, ?_⟩
    rw [← hd, Nat.zero_add]
    exact .tup upd_same (.cons (.int _) (.cons ((rv.up e).up (Grow.laid (p := p) hT w.sub).ex) .nil))
def enumD (ds : List D) : List D := ds.zipIdx.map fun x => D.tup [.int (x.2 : Nat), x.1]
def gFld (K : PySem.W.Frag) (ta : TE) (f : Str) : TG := fun y σ H Q => ta σ H fun x H2 => ∃ a C dx fs, x = .ref a ∧ H2 a = some (.ins C dx fs) ∧ Cls K C ∧ NoAttr K C f ∧ fs.length < 1000 ∧ Q σ (upd H2 a (.ins C dx (putF f y fs)))
theorem attr_asg {M : Model} {A : Around} {env : Env} {E : Value → Shared → Prop} {s : Shared} {o : Expr} {attr : Str} {pos : Pos} {v : Value} {Q : Unit → Shared → Prop} (h : wpAny M A (eval o env) (fun ov s2 => wpAny M A (setAttr ov attr v) Q E s2) E s) :
    wpAny M A (assign (.Attribute o attr pos) env v) Q E s := fun Γ p hp => by
  simp only [assign_Attribute, Sem.wp_bind', Sem.wp_holding, Sem.wp_cmd_standAt, Sem.wp_release, Sem.wp_pure']
  exact Sem.wp_mono M Γ _ (fun ov _ s2 h2 => h2 Γ _ hp) (fun _ _ _ y => y) _ _ (h Γ _ hp)
theorem pg_fld {X : Cx} {o : Expr} {f : Str} {pos : Pos} {ta : TE} (ha : PE X o ta) : PG X (.Attribute o f pos) (gFld X.K ta f) := by
  constructor
  intro pins s σ H v u Q J rv hw
  refine attr_asg (thn (ha.run pins s σ H _ J hw) fun ov s2 ⟨x, H2, J2, rx, a, C, dx, fs, ex, ea, cl, na, ln, q⟩ => ?_)
  subst ex
  have eo : ov = Value.ref a := rx
  subst eo
  exact setattr_ok J2 ea cl na ln rv fun s3 J3 => ⟨σ, _, J3, q⟩
def gF (i : Nat) (nm f : Str) : DG := fun d ρ Q => match ρ[i]? with
  | some (.obj a nm' gs) => (nm' = nm ∧ gs.length < 1000) ∧ Q (ρ.set i (.obj a nm (putD f d gs)))
  | _ => False
/-- targets that change the heap -/
def SimGh (K : Cz) (g : TG) (mg : DG) : Prop := ∀ (p : Addr) (G0 H0 : Hp) (c : Nat) (G H : Hp) (σ : St) (ρ : Ro) (v : V) (d : D) (Q : St → Hp → Prop) (post : Ro → Prop), WS K p G0 H0 c G H σ ρ → Rp K p G v d → mg d ρ post →
  (∀ σ' ρ' H', post ρ' → WS K p G0 H0 c G H' σ' ρ' → Q σ' H') → g v σ H Q
def SimGsh (K : Cz) (g : TGs) (mg : List D → Ro → (Ro → Prop) → Prop) : Prop := ∀ (p : Addr) (G0 H0 : Hp) (c : Nat) (G H : Hp) (σ : St) (ρ : Ro) (vs : List V) (ds : List D) (Q : St → Hp → Prop) (post : Ro → Prop), WS K p G0 H0 c G H σ ρ → RpL K p G vs ds → mg ds ρ post →
  (∀ σ' ρ' H', post ρ' → WS K p G0 H0 c G H' σ' ρ' → Q σ' H') → g vs σ H Q
theorem sim_gf {i : Nat} {nm f : Str} {C : Addr} (k : ClsAt K nm C) (na : NoAttr K.K C f) : SimGh K (gFld K.K (tVar i) f) (gF i nm f) := by
  intro p G0 H0 c G H σ ρ v d Q post ws r m kk
  unfold gF at m
  split at m
  · rename_i a nm' gs e
    obtain ⟨⟨rfl, hl⟩, m⟩ := m
    obtain ⟨C', dx, fs, q1, q2, q3, q4, q5, q6, q7⟩ := ws.en.obj e
    have q2' := q2
    rw [k.at_] at q2'; cases q2'
    exact ⟨_, q1, a, C, dx, fs, rfl, q6, k.cls, na, by rw [q7.len]; exact hl, kk _ _ _ m (ws.objUpd e q1 q2 q3 q4 q5 q6 (q7.put r))⟩
  · exact m.elim
theorem sim_gsnh : SimGsh K gNil gsN := by
  intro p G0 H0 c G H σ ρ vs ds Q post ws r m k
  cases r with
  | nil => exact ⟨rfl, k _ _ _ m ws⟩
  | cons => exact m.elim
theorem sim_gsch {g : TG} {mg : DG} {gr : TGs} {mr : List D → Ro → (Ro → Prop) → Prop} (h : SimGh K g mg) (hr : SimGsh K gr mr) : SimGsh K (gCons g gr) (gsC mg mr) := by
  intro p G0 H0 c G H σ ρ vs ds Q post ws r m k
  cases r with
  | nil => exact m.elim
  | cons r1 r2 =>
    exact ⟨_, _, rfl, h p G0 H0 c G H σ ρ _ _ _ _ ws r1 m fun σ' ρ' H' m' ws' => hr p G0 H0 c G H' σ' ρ' _ _ _ _ ws' r2 m' k⟩
theorem sim_gth {n : Nat} {g : TGs} {mg : List D → Ro → (Ro → Prop) → Prop} (h : SimGsh K g mg) : SimGh K (gTup K.K n g) (gT n mg) := by
  intro p G0 H0 c G H σ ρ v d Q post ws r m k
  cases r with
  | tup h1 h2 => exact ⟨_, _, rfl, st_of (ws.wd.sub _ _ h1), by rw [h2.len]; exact m.1, h p G0 H0 c G H σ ρ _ _ _ _ ws h2 m.2 k⟩
  | _ => exact m.elim
theorem sim_asgH {te : TE} {me : DE} {g : TG} {mg : DG} (h : SimE K W te me) (hg : SimGh K g mg) : SimS K W (tAsg te g) (mAsg me mg) := by
  intro p G0 H0 c G H σ ρ xe N E ws xc er m
  refine h p G0 H0 c G H σ ρ xe _ _ ws xc m fun d c1 v G1 H1 m1 g1 w1 r1 => ?_
  exact hg p G0 H0 c1 G1 H1 σ ρ v d _ _ (ws.grow g1 w1) r1 m1 fun σ' ρ' H' m' ws' => er.nx _ _ _ _ _ ws' m'
end
end Dm

namespace PySem
theorem new_enumT (t : Addr) (items : Array Value) (n : Nat) (dct : Option Addr) (sl : Array (Option Value)) :
    Meets (Builtin.«enumerate.__new__» ⟨[.type "enumerate", .ref t], []⟩) (fun _ R s => s.heap.get? t = some { cls := .type "tuple", dict := dct, data := .seq items n, slots := sl } ∧
      R (.ok (.ret (.ref (s.heap.push { cls := .type "tuple_iterator", data := .fields #[.ref t, .int 0 0] }).objs.size)))
        { s with heap := (s.heap.push { cls := .type "tuple_iterator", data := .fields #[.ref t, .int 0 0] }).push { cls := .type "enumerate", data := .fields #[.none, .bool false, .ref s.heap.objs.size, rawInt 0, .none, .none] } }) :=
  .of_wp fun prog w A R s y => by
    obtain ⟨hp, g, d, tk, os⟩ := s; obtain ⟨there, y⟩ := y
    have low := sub_enumerate
    have tup : Heap.IsTuple (Shared.heap ⟨hp, g, d, tk, os⟩) t items := ⟨_, there, rfl, n, rfl⟩
    wp_walk using AutoSeq1.wpAny_loadPart' there
    refine wpAny_stack_any fun _ => wpAny_pure ?_
    split
    · rename_i c _ _ _ _ _
      rcases (c == Value.type "enumerate") with _ | _
      · wp_walk using AutoSeq1.wpAny_loadPart' there, wpAny_pyIter_tuple tup
        exact ⟨_, rfl, y⟩
      · wp_walk using AutoSeq1.wpAny_loadPart' there, wpAny_pyIter_tuple tup
        exact ⟨_, rfl, y⟩
    · wp_walk using AutoSeq1.wpAny_loadPart' there, wpAny_pyIter_tuple tup
      exact ⟨_, rfl, y⟩
end PySem
namespace Dm
open PySem L2 Evl
theorem call_enumT {prog : Program} {w : World} {A : Around} {E : Value → Shared → Prop} {s : Shared} {t : Addr} {items : Array Value} {Q : Value → Shared → Prop} (ht : s.heap.IsTuple t items)
    (k : ∀ h', IsEnum h' (s.heap.objs.size + 1) s.heap.objs.size 0 .none → h'.IsTupleIter s.heap.objs.size t 0 → (∀ b o, s.heap.get? b = some o → h'.get? b = some o) → Q (.ref (s.heap.objs.size + 1)) { s with heap := h' }) :
    wpAny (model prog w) A (call (.type "enumerate") [.ref t]) Q E s := by
  obtain ⟨⟨c, dct, dt, sl⟩, there, hc, n, dat⟩ := ht
  replace hc : c = .type "tuple" := hc
  replace dat : dt = .seq items n := dat
  subst hc dat
  have size : (s.heap.push { cls := .type "tuple_iterator", data := .fields #[.ref t, .int 0 0] }).objs.size = s.heap.objs.size + 1 := Heap.size_push ..
  have en : IsEnum ((s.heap.push { cls := .type "tuple_iterator", data := .fields #[.ref t, .int 0 0] }).push { cls := .type "enumerate", data := .fields #[.none, .bool false, .ref s.heap.objs.size, rawInt 0, .none, .none] }) (s.heap.objs.size + 1) s.heap.objs.size 0 .none := by
    have z := Heap.get?_push_size (s.heap.push { cls := .type "tuple_iterator", data := .fields #[.ref t, .int 0 0] }) (o := { cls := .type "enumerate", data := .fields #[.none, .bool false, .ref s.heap.objs.size, rawInt 0, .none, .none] }) rfl
    rw [size] at z; exact z
  refine callType_new F.called_enumerate (by decide) (F.typeCall_enumerate_1 _) (F.newCall_enumerate_1 _) (fun obj => F.args_object_init_2 obj _) F.entry_enumerate_new (new_enumT t items n dct sl) ⟨there, ?_⟩
  show _ ∧ _
  rw [size]
  exact ⟨⟨_, en, rfl⟩, k _ en ⟨_, Heap.get?_push_of_some _ (Heap.get?_push_size _ rfl), rfl, rfl⟩ fun b o x => Heap.get?_push_of_some _ (Heap.get?_push_of_some _ x)⟩
theorem end_enumT {prog : Program} {w : World} {A : Around} {E : Value → Shared → Prop} {s : Shared} {e it t : Addr} {i : Nat} {items : Array Value} {n : Int} {old : Value} {Q : Option Value → Shared → Prop} (hh : A.handled = none) (he : IsEnum s.heap e it n old) (hit : s.heap.IsTupleIter it t i) (ht : s.heap.IsTuple t items) (hx : items[i]? = none)
    (k : ∀ h', Heap.ExtBut it s.heap h' → Q none { s with heap := h' }) : wpAny (model prog w) A (pyNext (.ref e)) Q E s := by
  have ty : s.TypeIs (.ref e) "enumerate" := ⟨_, he, rfl⟩
  unfold pyNext
  refine wpAny_bind (wpAny_attempt (wpAny_callSpecial?_slot (name := Str.ofString "__next__") ty F.slot_enumerate_next (wpAny_call_entry F.slot_enumerate_next ty F.entry_enumerate_next ?_ (F.args_enumerate_next_1 _))))
  refine show wpAny _ _ (field (.ref e) 2 >>= _) _ _ _ from wpAny_bind (wpAny_field he rfl (x := .ref it) rfl ?_)
  refine wpAny_bind (wpAny_nextOf_tuple_end (A := A.in1) hh hit ht hx fun h' x he' hx' => ?_)
  obtain ⟨o, ho, hc⟩ := hx'
  exact wpAny_bind (wpAny_isInstance (T := "StopIteration") (b := true) ⟨o, ho, hc⟩ isSubtype_stop (wpAny_pure (k _ he')))
/-- the tuple at a, each item in a new pair -/
def IteT (K : PySem.W.Frag) (a : Addr) : It :=
  ⟨fun i H => ∃ (xs : List V) (x : V), SqT K H a xs ∧ xs[i]? = some x, fun i H v H' => ∃ T x, v = .ref T ∧ H T = none ∧ H' = upd H T (.tup [.int (i : Nat), x]) ∧ ∀ xs, SqT K H a xs → xs[i]? = some x, fun i H => ∃ xs : List V, SqT K H a xs ∧ xs.length ≤ i⟩
theorem turn_enumT {P : Program} {w : World} {K : PySem.W.Frag} {elts : List Expr} {kk : Nat} {tpos : Pos} (a e it : Addr) :
    Turn P w K (.Tuple elts kk tpos) (IteT K a) [e, it] e (fun i h => (∃ old, IsEnum h e it ((i : Nat) : Int) old) ∧ h.IsTupleIter it a i ∧ e ≠ it) where
  mem := by simp
  obj := fun i h st b hb => by
    obtain ⟨⟨old, he⟩, ⟨o, ho, _, hd⟩, _⟩ := st
    rcases (by simpa using hb : b = e ∨ b = it) with z | z
    · subst z; exact ⟨_, he, fun v q => nomatch q⟩
    · subst z; exact ⟨o, ho, fun v q => by rw [hd] at q; cases q⟩
  keep := fun i h h' ⟨⟨old, he⟩, hi, ne⟩ k => ⟨⟨old, k e (by simp) _ he⟩, hi.at fun o q => k it (by simp) o q, ne⟩
  item := by
    intro X hP hw hK hc i pins s σ H E J hf st hg
    subst hP hw hK
    obtain ⟨⟨was, he⟩, hit, hne⟩ := st
    obtain ⟨xs, x, hq, hx⟩ := hg
    obtain ⟨its, rv, tl, _⟩ := J.tuple hq
    have tl' : s.heap.IsTuple a its.toArray := tl
    obtain ⟨u, hu, rel⟩ := rv.get hx
    have hel := Heap.lt_size he
    have hil : it < s.heap.objs.size := let ⟨_, q, _⟩ := hit; Heap.lt_size q
    have apart : a ≠ it := fun z => by
      obtain ⟨_, q1, q2, _⟩ := tl'
      obtain ⟨_, q3, q4, _⟩ := hit
      rw [z, q3] at q1; cases q1
      rw [q2] at q4
      injection q4 with q5
      exact absurd q5 (by decide)
    have off : e ∉ [it, a] := fun hm => by
      rcases (by simpa using hm : e = it ∨ e = a) with z | z
      · exact hne z
      · obtain ⟨_, q1, q2, _⟩ := tl'
        rw [← z, he] at q1; cases q1
        injection q2 with q5
        exact absurd q5 (by decide)
    have len : i < its.toArray.size := by
      have := (List.getElem?_eq_some_iff.mp hu).1
      simpa using this
    refine wpAny_pyNext_enum_itemC (Draws.tuple (A := X.A.in1) (J.ok.hd hc) it a apart its.toArray) he ⟨hit, tl'⟩ len hne off fun y h' tk hy ho hst hT hsz hk => ?_
    have ey : y = u := by
      have : its.toArray[i]? = some u := by simpa using hu
      have hy : its.toArray[i]? = some y := hy
      rw [this] at hy; exact (Option.some.inj hy).symm
    subst ey
    refine ⟨_, rfl, wpAny_letOwnedTupleGo_enum (s := { s with heap := h', toks := tk + 1 }) ho fun h'' he' sb => ?_⟩
    have hT2 : h''.get? s.heap.objs.size = some { cls := .type "tuple", data := .seq #[.int i tk, y] } := (sb.2 _ (Nat.ne_of_gt hel)).trans hT
    have laid : ObjOk X.prog X.w (upd H s.heap.objs.size (.tup [.int (i : Nat), x])) h'' s.heap.objs.size (.tup [.int (i : Nat), x]) :=
      ⟨by show 2 ≤ sizeLine; decide, [.int i tk, y], .cons ⟨_, rfl⟩ (.cons rel .nil), ⟨_, hT2, rfl, _, rfl⟩⟩
    have J1 : Inv X pins σ (upd H s.heap.objs.size (.tup [.int (i : Nat), x])) { s with heap := h'', toks := tk + 1 } :=
      J.turnedNew (ch := [e, it]) (fun b ob hb q => (sb.2 b (fun z => hb (by simp [z]))).trans (hk b ob (fun z => hb (by simp [z])) (fun z => hb (by simp [z])) q)) hf (Nat.le_refl _) laid
    refine ⟨.ref s.heap.objs.size, _, J1, rfl, ⟨_, x, rfl, J.hok.fresh (Nat.le_refl _), rfl, fun ys hy => by rw [J.tuple_inj hy hq]; exact hx⟩, ⟨⟨y, ?_⟩, hst.1.at fun o q => (sb.2 it (Ne.symm hne)).trans q, hne⟩, fun b hb => ?_⟩
    · rw [show ((i + 1 : Nat) : Int) = (i : Int) + 1 from by omega]; exact he'
    · have below : b < s.heap.objs.size := by
        rcases (by simpa using hb : b = e ∨ b = it) with z | z
        · rw [z]; exact hel
        · rw [z]; exact hil
      rw [upd_ne (Nat.ne_of_lt below)]; exact (hf b hb).1
  done := by
    intro X hP hw hK hc i pins s σ H E J hf st hg
    subst hP hw hK
    obtain ⟨⟨was, he⟩, hit, hne⟩ := st
    obtain ⟨xs, hq, hx⟩ := hg
    obtain ⟨its, rv, tl, _⟩ := J.tuple hq
    have tl' : s.heap.IsTuple a its.toArray := tl
    obtain ⟨a0, a1, a2, a3, a4, a5⟩ := hf it (by simp)
    have len := rv.length
    exact end_enumT (J.ok.hd hc) he hit tl' (by simp; omega) fun h' eb => ⟨rfl, J.turned (t' := s.toks) (fun b o hb q => eb b o hb q) a0 a1 a3 a4 a5⟩
  self := fun _ _ _ _ _ ⟨⟨_, en⟩, _⟩ y => wpAny_pyIter_enum en y
/-- enumerate of a list or a tuple -/
def iEnumS (K : PySem.W.Frag) (ta : TA) : TI := fun σ H R => ta σ H fun vs H1 => ∃ a, vs = [.ref a] ∧ (((∃ xs, SqL K H1 a xs) ∧ R (Ite K a) H1) ∨ ((∃ xs, SqT K H1 a xs) ∧ R (IteT K a) H1))
theorem pi_enumS {X : Cx} {e : Expr} {ta : TA} {p pos tpos : Pos} {elts : List Expr} {kk : Nat} (hg : Gl X "enumerate") (hm : X.mg "enumerate" = none) (ha : PA X [e] ta) (hs : starEach [e] X.env = [(false, eval e X.env)] := by rfl) :
    PI X (.Tuple elts kk tpos) (.Call (.Name "enumerate" p) [e] [] pos) (iEnumS X.K ta) := by
  constructor
  intro pins s σ H R J h
  refine PyProof.Rows.Call_ (ld_blt J hg hm PyProof.Rows.boot_enumerate (PyProof.Rows.callWith_type1 (thn (ha.run pos pins s σ H _ J h) fun us s1 ⟨vs, H1, J1, r1, q1⟩ => ?_) hs rfl))
  obtain ⟨a, e0, q⟩ := q1
  subst e0
  cases r1 with
  | cons r rr =>
    cases rr
    cases r
    have fresh : ∀ b ∈ [s1.heap.objs.size + 1, s1.heap.objs.size], FpOk X pins H1 b := fun b hb => by
      have le : s1.heap.objs.size ≤ b := by
        rcases (by simpa using hb : b = s1.heap.objs.size + 1 ∨ b = s1.heap.objs.size) with z | z <;> omega
      exact J1.fpOk le (J1.hok.fresh le)
    rcases q with ⟨⟨xs, hq⟩, q⟩ | ⟨⟨xs, hq⟩, q⟩
    · obtain ⟨its, _, pl, _⟩ := J1.list hq
      exact call_enumerate_list pl.isList fun h' he hit _ hk => wpAny_pyIter_enum he ⟨_, _, _, _, H1, rfl, J1.kept (t' := s1.toks) hk, turn_enum a (s1.heap.objs.size + 1) s1.heap.objs.size, ⟨⟨.none, he⟩, hit, Nat.succ_ne_self _⟩, fresh, q⟩
    · obtain ⟨its, _, tl, _⟩ := J1.tuple hq
      have tl' : s1.heap.IsTuple a its.toArray := tl
      exact call_enumT tl' fun h' he hit hk => wpAny_pyIter_enum he ⟨_, _, _, _, H1, rfl, J1.kept (t' := s1.toks) hk, turn_enumT a (s1.heap.objs.size + 1) s1.heap.objs.size, ⟨⟨.none, he⟩, hit, Nat.succ_ne_self _⟩, fresh, q⟩
section
variable {K : Cz} {W : WX}
theorem it_enumT {p : Addr} {G : Hp} {a : Addr} {xs : List V} {ds : List D} (h : G a = some (.tup xs)) (r : RpL K p G xs ds) : ItOk K p (IteT K.K a) G (enumD ds) := by
  intro i c G' H' e w
  have hs := st_of (K := K.K) (w.sub _ _ (e _ _ h))
  refine ⟨fun d hd => ?_, fun _ hi => ⟨xs, hs, by rw [r.len]; simpa [enumD] using hi⟩⟩
  unfold enumD at hd
  rw [List.getElem?_map, List.getElem?_zipIdx] at hd
  cases q : ds[i]? with
  | none => rw [q] at hd; cases hd
  | some x =>
    rw [q] at hd
    have hd : D.tup [.int ((0 + i : Nat) : Int), x] = d := Option.some.inj hd
    obtain ⟨v, hv, rv⟩ := r.get q
    refine ⟨⟨xs, v, hs, hv⟩, fun y H'' z => ?_⟩
    obtain ⟨T, u, rfl, hT, rfl, hu⟩ := z
    have := hu xs hs
    rw [hv] at this; cases this
    refine ⟨_, Grow.laid hT w.sub, w.laid hT, ?_⟩
    rw [← hd, Nat.zero_add]
    exact .tup upd_same (.cons (.int _) (.cons ((rv.up e).up (Grow.laid (p := p) hT w.sub).ex) .nil))
def mEnum (ma : DL) : DL := fun xe ρ c Q => ma xe ρ c fun ds c1 => match ds with | [d] => dSeq d fun l => Q (enumD l) c1 | _ => False
theorem sim_enumS {ta : TA} {ma : DL} (h : SimA K W ta ma) : SimI K W (iEnumS K.K ta) (mEnum ma) := by
  intro p G0 H0 c G H σ ρ xe R post ws xc m k
  refine h p G0 H0 c G H σ ρ xe _ _ ws xc m fun ds c1 vs G1 H1 m1 g1 w1 r1 => ?_
  split at m1
  · obtain ⟨v, rfl, r⟩ := r1.one
    cases r with
    | lst h1 h2 => exact ⟨_, rfl, .inl ⟨⟨_, sq_of (w1.sub _ _ h1)⟩, k _ c1 _ G1 H1 m1 g1 w1 (it_enum h1 h2)⟩⟩
    | tup h1 h2 => exact ⟨_, rfl, .inr ⟨⟨_, st_of (w1.sub _ _ h1)⟩, k _ c1 _ G1 H1 m1 g1 w1 (it_enumT h1 h2)⟩⟩
    | _ => exact m1.elim
  · exact m1.elim
end
end Dm

namespace Dm
open PySem L2 Evl
open PyProof.Rows (envOfC)
structure ClsD (K : Cz) (nm : Str) (C : Addr) : Prop where
  at_ : K.mg nm = some (.ref C)
  cls : Cls K.K C
  ca : PySem.W.findIn K.K (.ref C) "__class__" = some (some (.builtin "object.__class__"))
  cn : PySem.W.specialIn K.K (.builtin "object.__class__") "__get__" = some (some (.builtin "getset_descriptor.__get__"))
  ct : PySem.W.takesIn K.K (.builtin "object.__class__") = some true
  cm : PySem.W.mroIn K.K C (.type "object") = some true
  ty : PySem.W.typeIn K.K (.ref C) = some (.type "type")
abbrev CTab := List (Str × List Str)
structure CTab.Ok (K : Cz) (T : CTab) : Prop where
  has : ∀ nm fs, (nm, fs) ∈ T → ∃ C, ClsD K nm C ∧ ∀ f ∈ fs, NoAttr K.K C f
  kit : ∀ nm nm2 C C2, nm ∈ T.map (·.1) → nm2 ∈ T.map (·.1) → K.mg nm = some (.ref C) → K.mg nm2 = some (.ref C2) → PySem.W.kitOne K.K (.ref C) (.ref C2) = some (nm == nm2)
/-- d is no pool, and an instance of a class of the table if of any -/
def okD (T : CTab) : D → Bool
  | .ins nm _ => T.any fun x => x.1 == nm
  | .pool => false
  | _ => true
def hasF (T : CTab) (nm f : Str) : Bool := T.any fun x => x.1 == nm && x.2.contains f
theorem Str.eqb {a b : Str} (h : (a == b) = true) : a = b := beq_iff_eq.mp h
section
variable {K : Cz} {T : CTab}
theorem CTab.Ok.cls (h : T.Ok K) {nm : Str} (e : (T.any fun x => x.1 == nm) = true) : ∃ C, ClsD K nm C ∧ nm ∈ T.map (·.1) := by
  obtain ⟨⟨n, fs⟩, hx, e⟩ := List.any_eq_true.mp e
  cases Str.eqb e
  obtain ⟨C, hc, _⟩ := h.has _ _ hx
  exact ⟨C, hc, List.mem_map.mpr ⟨_, hx, rfl⟩⟩
theorem CTab.Ok.fld (h : T.Ok K) {nm f : Str} (e : hasF T nm f = true) : ∃ C, ClsD K nm C ∧ NoAttr K.K C f := by
  obtain ⟨⟨n, fs⟩, hx, e⟩ := List.any_eq_true.mp e
  rw [Bool.and_eq_true] at e
  cases Str.eqb e.1
  obtain ⟨C, hc, hf⟩ := h.has _ _ hx
  exact ⟨C, hc, hf _ (by simpa using e.2)⟩
theorem ClsD.kitB {nm : Str} {C : Addr} (k : ClsD K nm C) {t : String} {l : List Value} (h : fastBuiltinMro t = some l) (hn : l.contains (.ref C) = false) : PySem.W.subIn K.K (.type t) (.ref C) = some false ∧ PySem.W.kitOne K.K (.type t) (.ref C) = some false := by
  have e : PySem.W.subIn K.K (.type t) (.ref C) = some false := by
    show (fastBuiltinMro t).map (·.contains (Value.ref C)) = some false
    rw [h]; show some (l.contains (.ref C)) = _; rw [hn]
  refine ⟨e, ?_⟩
  obtain ⟨cd, hc, _⟩ := PySem.W.any_some k.cls.hd
  show (if (Value.type t == Value.ref C) = true then some true else if ((PySem.W.clsIn K.K C).isSome && PySem.W.typeIn K.K (.ref C) == some (.type "type")) = true then PySem.W.subIn K.K (.type t) (.ref C) else none) = _
  have n1 : (Value.type t == Value.ref C) = false := rfl
  have n2 : ((PySem.W.clsIn K.K C).isSome && PySem.W.typeIn K.K (.ref C) == some (.type "type")) = true := by rw [hc, k.ty]; rfl
  rw [n1, n2, e]; rfl
theorem bmro (t : String) (ht : t = "NoneType" ∨ t = "bool" ∨ t = "int" ∨ t = "str" ∨ t = "list" ∨ t = "tuple") (C : Addr) : ∃ l, fastBuiltinMro t = some l ∧ l.contains (.ref C) = false := by
  rcases ht with rfl | rfl | rfl | rfl | rfl | rfl
  · exact ⟨[.type "NoneType", .type "object"], by decide +kernel, rfl⟩
  · exact ⟨[.type "bool", .type "int", .type "object"], by decide +kernel, rfl⟩
  · exact ⟨[.type "int", .type "object"], by decide +kernel, rfl⟩
  · exact ⟨[.type "str", .type "object"], by decide +kernel, rfl⟩
  · exact ⟨[.type "list", .type "object"], by decide +kernel, rfl⟩
  · exact ⟨[.type "tuple", .type "object"], by decide +kernel, rfl⟩
def isCls (nm : Str) : D → Bool
  | .ins n _ => n == nm
  | _ => false
/-- the type of a datum, against a class of the table -/
theorem ty_of {p : Addr} {G H : Hp} {v : V} {d : D} {nm : Str} {C : Addr} (h : T.Ok K) (k : ClsD K nm C) (hn : nm ∈ T.map (·.1)) (sub : Ex G H) (r : Rp K p G v d) (o : okD T d = true) :
    ∃ t, TyX K.K H v t ∧ PySem.W.kitOne K.K t (.ref C) = some (isCls nm d) ∧ PySem.W.notFirst K.K C t = true := by
  have blt : ∀ t : String, (t = "NoneType" ∨ t = "bool" ∨ t = "int" ∨ t = "str" ∨ t = "list" ∨ t = "tuple") → TyX K.K H v (.type t) → isCls nm d = false → ∃ t, TyX K.K H v t ∧ PySem.W.kitOne K.K t (.ref C) = some (isCls nm d) ∧ PySem.W.notFirst K.K C t = true := fun t ht ty e => by
    obtain ⟨l, h1, h2⟩ := bmro t ht C
    obtain ⟨e1, e2⟩ := k.kitB h1 h2
    refine ⟨_, ty, by rw [e]; exact e2, ?_⟩
    show (_ || PySem.W.subIn K.K (.type t) (.ref C) == some false) = true
    rw [e1]; simp
  cases r with
  | non => exact blt _ (.inl rfl) (.base .non) rfl
  | bl b => exact blt _ (.inr (.inl rfl)) (.base (.bl _)) rfl
  | int i => exact blt _ (.inr (.inr (.inl rfl))) (.base (.int _)) rfl
  | str x => exact blt _ (.inr (.inr (.inr (.inl rfl)))) (.base (.str _)) rfl
  | lst h1 h2 => exact blt _ (.inr (.inr (.inr (.inr (.inl rfl))))) (.base (.lst (sub _ _ h1))) rfl
  | tup h1 h2 => exact blt _ (.inr (.inr (.inr (.inr (.inr rfl))))) (.base (.tup (sub _ _ h1))) rfl
  | @ins n a C' dx fs gs h1 h2 h3 =>
    obtain ⟨C2, k2, hn2⟩ := h.cls o
    have e := h1.symm.trans k2.at_
    cases e
    have kt := h.kit n nm C' C hn2 hn h1 k.at_
    refine ⟨_, .base (.ins (sub _ _ h2) k2.cls k2.ca k2.cn k2.ct k2.cm), kt, ?_⟩
    unfold PySem.W.kitOne at kt
    unfold PySem.W.notFirst
    split at kt
    · rename_i z
      rw [z]; rfl
    · unfold PySem.W.kitCls at kt
      simp only at kt
      split at kt
      · rw [kt]
        by_cases z : (n == nm) = true
        · cases Str.eqb z
          have := h1.symm.trans k.at_
          cases this
          exact absurd (beq_self_eq_true (Value.ref C)) (by assumption)
        · rw [Bool.not_eq_true] at z
          rw [z]; simp
      · cases kt
  | pool => simp [okD] at o
end
section
variable {K : Cz} {W : WX} {T : CTab}
def mFldT (T : CTab) (f : Str) (me : DE) : DE := fun xe ρ c Q => me xe ρ c fun d c1 => match d with
  | .ins nm gs => hasF T nm f = true ∧ (match gs.lookup f with | some x => Q x c1 | none => False)
  | _ => False
theorem sim_fldT {f : Str} {te : TE} {me : DE} (ct : T.Ok K) (h : SimE K W te me) : SimE K W (tFld K.K te f) (mFldT T f me) := by
  intro p G0 H0 c G H σ ρ xe Q post ws xc m kk
  refine h p G0 H0 c G H σ ρ xe _ _ ws xc m fun d c1 v G1 H1 m1 g1 w1 r1 => ?_
  cases r1 with
  | @ins nm a C' dx fs gs h1 h2 h3 =>
    obtain ⟨hf, m1⟩ := m1
    obtain ⟨C, k, na⟩ := ct.fld hf
    have e := k.at_.symm.trans h1
    cases e
    split at m1
    · rename_i x hx
      obtain ⟨v, e1, e2⟩ := (h3.look f).1 x hx
      exact ⟨a, _, dx, fs, v, rfl, w1.sub _ _ h2, k.cls, na, e1, kk x c1 v G1 H1 m1 g1 w1 e2⟩
    · exact m1.elim
  | _ => exact m1.elim
def mIsiC (T : CTab) (nm : Str) (ma : DE) : DE := fun xe ρ c Q => ma xe ρ c fun d c1 => okD T d = true ∧ Q (.bl (isCls nm d)) c1
theorem sim_isiC {nm : Str} {C : Addr} {ta : TE} {ma : DE} (ct : T.Ok K) (hm : K.mg nm = some (.ref C)) (hn : (T.any fun x => x.1 == nm) = true) (ha : SimE K W ta ma) :
    SimE K W (tCB (rIsi K.K) (tCons ta (tCons (tC (.ref C)) tNil))) (mIsiC T nm ma) := by
  intro p G0 H0 c G H σ ρ xe Q post ws xc m k
  refine ha p G0 H0 c G H σ ρ xe _ _ ws xc m fun d c1 v G1 H1 m1 g1 w1 r1 => ?_
  obtain ⟨C2, k2, hn2⟩ := ct.cls hn
  have e := k2.at_.symm.trans hm
  cases e
  obtain ⟨t, ty, kt, _⟩ := ty_of ct k2 hn2 w1.sub r1 m1.1
  exact ⟨_, _, t, _, _, rfl, .own _, ty, kt, k _ c1 _ G1 H1 m1.2 g1 w1 (.bl _)⟩
def mOrE (m n : DE) : DE := fun xe ρ c Q => m xe ρ c Q ∨ n xe ρ c Q
end
def OkMX (sp : Sp) (P : Program) (w : World) (K : PySem.W.Frag) (mg : Str → Option Value) (base : Heap) (k : Nat) (nm m : Str) (ps : List Str) : Prop :=
  ∃ C f fd, mg nm = some (.ref C) ∧ Cls K C ∧ Meth K C m f ∧ PySem.W.fnIn K f = true ∧ Binds K fd ps [] ∧ FnOk P w K mg base (L2.CX P w) k f fd ps sp
/-- a def of the text runs, called from within a builtin -/
theorem run_at {X : Cx} {CX : CXT} {k : Nat} {f : Addr} {fd : FuncData} {ps : List Str} {sp : Sp} {E : XK} {A : Around} {pins : List (Addr × Obj)} {σ : St} {H : Hp} {s : Shared} {Q : VK} {us : List Value} {vs : List V} (F : FnOk X.prog X.w X.K X.mg X.base CX k f fd ps sp) (hr : Room k A) (hA : A.frames = X.A.frames) (hb : Binds X.K fd ps [])
    (hx : PassesAt CX X σ E) (I : Inv X pins σ H s) (r : Vals vs us) (h : sp vs H Q E) : wpAny (model X.prog X.w) A (call (.ref f) us) (EP X pins σ Q) X.xe s := by
  have hl : us.length = ps.length := by rw [← r.length]; exact F.len _ _ _ _ h
  have b := hb s us I.kIn (by rw [List.append_nil]; exact hl)
  rw [List.append_nil] at b
  have e := I.env0
  have e0 : Env0 X.prog X.w X.K X.mg X.base A X.stack s H := ⟨by rw [hA]; exact e.frames, e.mod, e.bs, e.bsz, e.funs, e.frf, e.hok, e.bare⟩
  refine wpAny_call (codeAny_mono (F.run A X.stack s H ⟨us, []⟩ us vs Q E hr e0 b r h) fun r s' hq => ?_)
  cases r with
  | error e => exact hx pins H s e s' I hq
  | ok fl =>
    cases fl with
    | ret u => exact I.after hq
    | next => exact False.elim hq
    | brk => exact False.elim hq
    | cont => exact False.elim hq
/-- o.m(..) -/
def tMethX (mg : Str → Option Value) (nm m : Str) (sp : Sp) (E : St → XK) (ta : TE) (t : TA) : TE := fun σ H Q => ta σ H fun x H1 => ∃ C a dx fs, mg nm = some (.ref C) ∧ x = .ref a ∧ H1 a = some (.ins C dx fs) ∧ fs.lookup m = none ∧
  t σ H1 fun vs H2 => sp (x :: vs) H2 Q (E σ)
section
variable {X : Cx} {W : WX} {k j : Nat} {nm m : Str} {ps : List Str} {sp : Sp} {p apos pos : Pos} {o e : Expr} {es : List Expr} {te tb : TE} {t : TA}
theorem pe_methX0 {pl : Sem Bool} (F : OkMX sp X.prog X.w X.K X.mg X.base k nm m ps) (hr : Room j X.A) (hk : k ≤ j) (tk : Takes X W) (he : PE X o te)
    (ht : eval (.Call (.Attribute o m apos) [] [] pos) X.env = (do
      let ov ← eval o X.env
      standAt apos.atName
      let (f, first) ← holding [ov] (getMethod ov m pl)
      callWith pos f first (backTo pos (starEach [] X.env)) (backToKw pos (keywordEach [] X.env))) := by rfl) : PE X (.Call (.Attribute o m apos) [] [] pos) (tMethX X.mg nm m sp (WE W) te tNil) := by
  obtain ⟨C, f, fd, hC, c, hm, hfn, hb, F⟩ := F
  refine ⟨fun pins s σ H Q I h => ?_⟩
  refine PySem.W.methodCall_KW (pl := pl) (thn (he.run pins s σ H _ I h) fun u s1 ⟨x, H1, I1, rx, C', a, dx, fs, eC, ex, ea, l, q⟩ => ?_) ht
  subst ex
  rw [hC] at eC; cases eC
  obtain rfl : u = Value.ref a := rx
  refine getmeth_ok I1 ea c hm l ?_
  exact PySem.W.callWith_K0 (first := [.ref a]) I1.kIn hm.kp (run_at (us := [.ref a]) (vs := [.ref a]) F (hr.mono hk) rfl hb (passAt tk σ) I1 (.cons rfl .nil) q)
/-- x == y by an own __eq__ -/
def rEqX (K : PySem.W.Frag) (mg : Str → Option Value) (nm : Str) (sp : Sp) : R2 := fun x y H Q => ∃ C a dx fs tb, mg nm = some (.ref C) ∧ x = .ref a ∧ H a = some (.ins C dx fs) ∧ TyX K H y tb ∧ PySem.W.notFirst K C tb = true ∧ sp [x, y] H (fun v H' => (∃ b, v = .bl b) ∧ Q v H') E0
theorem op_eqX (F : OkMX sp X.prog X.w X.K X.mg X.base k nm "__eq__" ps) (hr : Room j X.A) (hk : k ≤ j) : OpR X (compareOp .Eq) (rEqX X.K X.mg nm sp) := by
  obtain ⟨C, f, fd, hC, c, hm, hfn, hbd, F⟩ := F
  intro pins s σ H x y v u Q I rx ry h
  obtain ⟨C', a, dx, fs, tb, eC, ex, ea, ty, nf, q⟩ := h
  subst ex
  rw [hC] at eC; cases eC
  obtain rfl : v = Value.ref a := rx
  obtain ⟨mA, J, _⟩ := ins_get I.hok ea
  obtain ⟨od, J, _⟩ := J.look
  obtain ⟨m, hF⟩ := I.fr
  obtain ⟨P, Z, p, _⟩ := kit_of I ry ty
  show wpAny (model X.prog X.w) X.A (richCompare .Eq (.ref a) u) (EP X pins σ Q) X.xe s
  refine PySem.W.cmp_K (op := .Eq) hr.units0 hF I.ok.mod.kin J (Z.ty _ _ I.kIn p) nf hm.at_ hm.fn ?_
  refine wpAny_mono (run_at (vs := [.ref a, y]) F (hr.mono hk) rfl hbd (passAt (takes0 (X := X)) σ) I (.cons rfl (.cons ry .nil)) q) (fun r s' z => ?_) fun _ _ z => z
  obtain ⟨v, H3, I3, rv, ⟨b, ez⟩, q3⟩ := z
  subst ez
  cases rv
  exact ⟨.bl b, H3, I3, rfl, q3⟩
/-- an instance is made; what __init__ raises leaves -/
def tMakeX (mg : Str → Option Value) (nm : Str) (sp : Sp) (E : St → XK) (t : TA) : TE := fun σ H Q => t σ H fun vs H1 => ∀ C, mg nm = some (.ref C) → ∀ x dx, H1 x = none → H1 dx = none → dx ≠ x →
  sp (.ref x :: vs) (upd (upd H1 dx (.own x)) x (.ins C dx [])) (fun v H2 => v = .non ∧ Q (.ref x) H2) (E σ)
theorem pe_makeX {mf : DI} (o : OkM X.prog X.w X.K X.mg X.base k nm ps mf) (hr : Room j X.A) (hk : k + 1 ≤ j) (tk : Takes X W) (ha : PA X (e :: es) t) (hg : Gl X nm := by rfl) (hdb : (nm == ("__debug__" : Str)) = false := by decide)
    (he : starEach (e :: es) X.env = (false, eval e X.env) :: starEach es X.env := by rfl) (hpl : (backTo pos (starEach es X.env)).any (·.1) = false := by rfl) : PE X (.Call (.Name nm p) (e :: es) [] pos) (tMakeX X.mg nm (spI ⟨X.K, X.mg, X.prog, X.w⟩ nm mf) (WE W) t) := by
  obtain ⟨C, f, fd, hm, M, hb, F⟩ := o
  refine ⟨fun pins s σ H Q I h => ?_⟩
  refine wpAny_Call_Name_kw (ld_glob I hg hm ?_ hdb)
  refine PySem.W.callWith_K (h₀ := X.base) I.ok.mod.kin M.kp (thn (ha.run pos pins s σ H _ I h) fun us s1 ⟨vs, H1, I1, r, q⟩ => ⟨I1.kIn, ?_⟩) he hpl
  have hq := q C hm (s1.heap.objs.size + 1) s1.heap.objs.size (I1.hok.fresh (Nat.le_succ _)) (I1.hok.fresh (Nat.le_refl _)) (Nat.ne_of_lt (Nat.lt_succ_self _))
  have I2 := Inv.made (C := C) I1
  have r2 : Vals (V.ref (s1.heap.objs.size + 1) :: vs) (Value.ref (s1.heap.objs.size + 1) :: us) := .cons rfl r
  have hl : (Value.ref (s1.heap.objs.size + 1) :: us).length = ps.length := by
    rw [← r2.length]; exact F.len _ _ _ _ hq
  have b := hb _ (Value.ref (s1.heap.objs.size + 1) :: us) I2.kIn (by rw [List.append_nil]; exact hl)
  rw [List.append_nil] at b
  refine wpAny_call (make_map (f := f) I1.kIn M.makes M.init (beq_iff_eq.mp M.fn) (codeAny_mono (F.run _ X.stack _ _ ⟨Value.ref (s1.heap.objs.size + 1) :: us, []⟩ (Value.ref (s1.heap.objs.size + 1) :: us) _ _ (WE W σ) ((hr.mono hk).make C us [])
    (I2.env0.make C us []) b r2 hq) fun r s' hq' => ?_))
  cases r with
  | error e => exact passAt tk σ pins _ _ e s' I2 hq'
  | ok fl =>
    cases fl with
    | ret u =>
      obtain ⟨v, H', I3, rv, ev, q3⟩ := I2.after hq'
      subst ev
      exact ⟨rv, ⟨V.ref (s1.heap.objs.size + 1), H', I3, rfl, q3⟩⟩
    | next => exact False.elim hq'
    | brk => exact False.elim hq'
    | cont => exact False.elim hq'
end
section
variable {K : Cz} {W : WX} {T : CTab}
def mMethX (nm m : Str) (f : DF) (me : DE) (ma : DL) : DE := fun xe ρ c Q => me xe ρ c fun d c1 => match d with
  | .ins nm' gs => (nm' = nm ∧ gs.lookup m = none) ∧ ma xe ρ c1 fun ds c2 => f (fun e c' => xe e ρ c') (d :: ds) c2 Q
  | _ => False
theorem sim_methX {nm m : Str} {f : DF} {te : TE} {me : DE} {ta : TA} {ma : DL} (h : SimE K W te me) (ha : SimA K W ta ma) : SimE K W (tMethX K.mg nm m (spS K f) (WE W) te ta) (mMethX nm m f me ma) := by
  intro p G0 H0 c G H σ ρ xe Q post ws xc mm kk
  refine h p G0 H0 c G H σ ρ xe _ _ ws xc mm fun d c1 v G1 H1 m1 g1 w1 r1 => ?_
  cases r1 with
  | @ins nm' a C' dx fs gs h1 h2 h3 =>
    obtain ⟨⟨rfl, hn⟩, m1⟩ := m1
    refine ⟨C', a, dx, fs, h1, rfl, w1.sub _ _ h2, (h3.look m).2 hn, ?_⟩
    refine ha p G0 H0 c1 G1 H1 σ ρ xe _ _ (ws.grow g1 w1) xc m1 fun ds c2 vs G2 H2 m2 g2 w2 r2 => ?_
    refine ⟨p, G2, c2, .ins nm' gs :: ds, _, post, w2, .cons (.ins h1 (g2.ex _ _ h2) (h3.up g2.ex)) r2, m2, fun d c3 v G3 H3 m3 g3 w3 r3 => kk d c3 v G3 H3 m3 ((g1.tr g2 w2).tr g3 w3) w3 r3, fun e c3 cls dd G3 H3 m3 g3 w3 r3 => ?_⟩
    exact xc e ρ c3 σ G3 H3 cls dd (ws.grow ((g1.tr g2 w2).tr g3 w3) w3) r3 m3
  | _ => exact m1.elim
def mGetX (nm : Str) (f : DF) (ma mb : DE) : DE := fun xe ρ c Q => ma xe ρ c fun d c1 => mb xe ρ c1 fun e c2 => match d with
  | .ins nm' _ => nm' = nm ∧ f (fun e c' => xe e ρ c') [d, e] c2 Q
  | _ => False
/-- == by an own __eq__ -/
def dEqX (T : CTab) (nm : Str) (f : DF) : DR2 := fun x y Q => match x with
  | .ins nm' _ => (nm' = nm ∧ okD T y = true ∧ (T.any fun x => x.1 == nm) = true) ∧ ∀ c, f (fun _ _ => False) [x, y] c fun d c' => c' = c ∧ (∃ b, d = .bl b) ∧ Q d
  | _ => False
theorem sr_eqX {nm : Str} {f : DF} (ct : T.Ok K) : SimR2 K (rEqX K.K K.mg nm (spS K f)) (dEqX T nm f) := by
  intro p c G H x y d e Q post w r1 r2 m k
  cases r1 with
  | @ins nm' a C' dx fs gs h1 h2 h3 =>
    obtain ⟨⟨rfl, ok, hn⟩, m⟩ := m
    obtain ⟨C, kc, hn2⟩ := ct.cls hn
    have e1 := h1.symm.trans kc.at_
    cases e1
    obtain ⟨t, ty, _, nf⟩ := ty_of ct kc hn2 w.sub r2 ok
    refine ⟨C', a, dx, fs, t, h1, rfl, w.sub _ _ h2, ty, nf, p, G, c, _, _, _, w, .cons (.ins h1 h2 h3) (.cons r2 .nil), m c, fun d c3 v G3 H3 m3 g3 w3 r3 => ?_, fun e c3 cls dd G3 H3 m3 g3 w3 r3 => m3.elim⟩
    obtain ⟨rfl, ⟨b, rfl⟩, m3⟩ := m3
    cases r3
    exact ⟨⟨b, rfl⟩, k _ _ G3 H3 m3 g3 w3 (.bl b)⟩
  | _ => exact m.elim
/-- two ways to read an operation -/
def dOr2 (f g : DR2) : DR2 := fun x y Q => f x y Q ∨ g x y Q
theorem sr_or2 {r r' : R2} {f g : DR2} (h : SimR2 K r f) (h' : SimR2 K r' g) : SimR2 K (fun x y H Q => r x y H Q ∨ r' x y H Q) (dOr2 f g) := fun p c G H x y d e Q post w r1 r2 m k =>
  m.elim (fun m => .inl (h p c G H x y d e Q post w r1 r2 m k)) fun m => .inr (h' p c G H x y d e Q post w r1 r2 m k)
def mMakeX (nm : Str) (f : DI) (ma : DL) : DE := fun xe ρ c Q => ma xe ρ c fun ds c1 => f (fun e c' => xe e ρ c') ds c1 fun gs c2 => Q (.ins nm gs) c2
theorem sim_makeX {nm : Str} {f : DI} {ta : TA} {ma : DL} (ha : SimA K W ta ma) : SimE K W (tMakeX K.mg nm (spI K nm f) (WE W) ta) (mMakeX nm f ma) := by
  intro p G0 H0 c G H σ ρ xe Q post ws xc m k
  refine ha p G0 H0 c G H σ ρ xe _ _ ws xc m fun ds c1 vs G1 H1 m1 g1 w1 r1 => ?_
  intro C hC x dx hx hdx hne
  refine ⟨x, dx, C, vs, p, H1, G1, c1, ds, _, fun gs c2 => post (.ins nm gs) c2, rfl, ⟨hne, hx, hdx, rfl⟩, hC, w1, r1, m1, fun gs c2 dx' fs G2 H2 m2 g2 w2 n2 h2 rf => ⟨rfl, ?_⟩, fun e c2 cls dd G2 H2 m2 g2 w2 r2 => ?_⟩
  · have np : x ≠ p := fun z => by
      obtain ⟨o, ho⟩ := w1.np
      rw [z, ho] at hx; cases hx
    have hf : ∀ a o, one x (.ins C dx' fs) a = some o → G2 a = none ∧ H1 a = none ∧ a ≠ p ∧ H2 a = some o := fun a o q => by
      obtain ⟨rfl, rfl⟩ := one_at q
      exact ⟨n2, hx, np, h2⟩
    obtain ⟨g3, w3⟩ := melt_ends g2 w2 hf
    exact k _ c2 _ _ _ m2 (g1.tr g3 w3) w3 (.ins hC (mg_at (if_pos rfl)) (rf.up (mg_ex fun a o q => (hf a o q).1)))
  · exact xc e ρ c2 σ G2 H2 cls dd (ws.grow (g1.tr g2 w2) w2) r2 m2
end
theorem cok_mk {K : Cz} {T : CTab} (h : ∀ e ∈ T, ∃ C, ClsD K e.1 C ∧ ∀ f ∈ e.2, NoAttr K.K C f)
    (k : ∀ e ∈ T, ∀ e2 ∈ T, ∃ C C2, K.mg e.1 = some (.ref C) ∧ K.mg e2.1 = some (.ref C2) ∧ PySem.W.subIn K.K (.ref C) (.ref C2) = some (e.1 == e2.1)) : T.Ok K := by
  refine ⟨fun nm fs hm => h _ hm, fun nm nm2 C C2 h1 h2 e1 e2 => ?_⟩
  obtain ⟨⟨a, fs⟩, ha, rfl⟩ := List.mem_map.mp h1
  obtain ⟨⟨b, gs⟩, hb, rfl⟩ := List.mem_map.mp h2
  obtain ⟨D, D2, q1, q2, q3⟩ := k _ ha _ hb
  rw [e1] at q1; cases q1
  rw [e2] at q2; cases q2
  obtain ⟨D3, kd, _⟩ := h _ hb
  have e3 := e2.symm.trans kd.at_
  cases e3
  obtain ⟨cd, hc, _⟩ := PySem.W.any_some kd.cls.hd
  have n2 : ((PySem.W.clsIn K.K C2).isSome && PySem.W.typeIn K.K (.ref C2) == some (.type "type")) = true := by rw [hc, kd.ty]; rfl
  unfold PySem.W.kitOne PySem.W.kitCls
  by_cases z : (Value.ref C == Value.ref C2) = true
  · rw [if_pos z]
    have e := beq_iff_eq.mp z
    cases e
    obtain ⟨A, B, y1, y2, y3⟩ := k _ ha _ ha
    rw [e1] at y1; cases y1
    rw [e1] at y2; cases y2
    rw [q3] at y3
    simp only [beq_self_eq_true] at y3
    exact y3.symm
  · rw [if_neg z]
    simp only
    rw [if_pos n2]
    exact q3
section
variable {K : Cz} {W : WX}
/-- nothing is let out: for the parts of comprehensions -/
def mNoX (m : DE) : DE := fun _ ρ c Q => m (fun _ _ _ => False) ρ c Q
def mNoXT (m : DT) : DT := fun _ ρ c Q => m (fun _ _ _ => False) ρ c Q
end
section
variable {X : Cx} {k j : Nat} {nm f : Str} {ps : List Str} {sp : Sp} {pos : Pos} {e : Expr} {te : TE}
end
section
variable {K : Cz} {W : WX}
def mPropX (nm : Str) (f : DF) (me : DE) : DE := fun xe ρ c Q => me xe ρ c fun d c1 => match d with
  | .ins nm' _ => nm' = nm ∧ f (fun _ _ => False) [d] c1 Q
  | _ => False
end
end Dm

namespace Dm
open PySem L2 Evl
def SqB (K : PySem.W.Frag) (κ : Bool) (H : Hp) (a : Addr) (xs : List V) : Prop := match κ with | false => SqL K H a xs | true => SqT K H a xs
def IterB (κ : Bool) (h : Heap) (it a : Addr) (i : Nat) : Prop := match κ with | false => h.IsListIter it a i | true => h.IsTupleIter it a i
def IsB (κ : Bool) (h : Heap) (a : Addr) (items : Array Value) : Prop := match κ with | false => h.IsList a items | true => h.IsTuple a items
def iterOb (κ : Bool) (a : Addr) : Obj := match κ with | false => { cls := .type "list_iterator", data := .fields #[.ref a, .int 0 0] } | true => { cls := .type "tuple_iterator", data := .fields #[.ref a, .int 0 0] }
section
variable {X : Cx} {pins : List (Addr × Obj)} {σ : St} {H : Hp} {s : Shared} {κ : Bool} {a it : Addr} {xs ys : List V} {i : Nat} {h h' : Heap}
theorem getB (I : Inv X pins σ H s) (q : SqB X.K κ H a xs) : ∃ its : List Value, Vals xs its ∧ IsB κ s.heap a its.toArray ∧ a < s.heap.objs.size := by
  cases κ with
  | false =>
    obtain ⟨its, rv, p, _⟩ := I.list q
    exact ⟨its, rv, p.isList, p.lt⟩
  | true =>
    obtain ⟨its, rv, tl, _⟩ := I.tuple q
    have tl' : s.heap.IsTuple a its.toArray := tl
    exact ⟨its, rv, tl', by obtain ⟨_, y, _⟩ := tl'; exact Heap.lt_size y⟩
theorem injB (I : Inv X pins σ H s) (q : SqB X.K κ H a xs) (q' : SqB X.K κ H a ys) : xs = ys := by
  cases κ with
  | false => exact I.list_inj q q'
  | true => exact I.tuple_inj q q'
theorem drawsB {prog : Program} {w : World} {A : Around} (hh : A.handled = none) (ne : a ≠ it) (items : Array Value) : Draws prog w A it [it, a] items.size (fun i v => items[i]? = some v) (fun i h => IterB κ h it a i ∧ IsB κ h a items) := by
  cases κ with
  | false => exact Draws.list hh it a ne items
  | true => exact Draws.tuple hh it a ne items
theorem beginsB (items : Array Value) : Begins (.ref a) (iterOb κ a) fun h => IsB κ h a items := by
  cases κ with
  | false => exact begins_list a items
  | true => exact begins_tuple a items
theorem iterB_obj (q : IterB κ h it a i) : ∃ o, h.get? it = some o ∧ ∀ v, o.data ≠ .cell v := by
  cases κ with
  | false => obtain ⟨o, ho, _, hd⟩ := q; exact ⟨o, ho, fun v z => by rw [hd] at z; cases z⟩
  | true => obtain ⟨o, ho, _, hd⟩ := q; exact ⟨o, ho, fun v z => by rw [hd] at z; cases z⟩
theorem IterB.at (q : IterB κ h it a i) (k : ∀ o, h.get? it = some o → h'.get? it = some o) : IterB κ h' it a i := by
  cases κ with
  | false => exact Heap.IsListIter.at q k
  | true => exact Heap.IsTupleIter.at q k
theorem IterB.new (q : h.get? it = some (iterOb κ a)) : IterB κ h it a 0 := by
  cases κ with
  | false => exact ⟨_, q, rfl, rfl⟩
  | true => exact ⟨_, q, rfl, rfl⟩
end
theorem nm2 {x y z : Nat} (h1 : x ≠ y) (h2 : x ≠ z) : x ∉ [y, z] := by simp [h1, h2]
theorem sep_new {n a b : Nat} (la : a < n) (lb : b < n) : ZipSep2 (n + 4) (n + 2) (n + 3) n (n + 1) [n, a] [n + 1, b] where
  TIz := Nat.ne_of_lt (by omega)
  TOz := Nat.ne_of_lt (by omega)
  TITO := Nat.ne_of_lt (by omega)
  TIi1 := Nat.ne_of_gt (by omega)
  mem1 := List.mem_cons_self
  zf1 := nm2 (Nat.ne_of_gt (by omega)) (Nat.ne_of_gt (by omega))
  Tf1 := nm2 (Nat.ne_of_gt (by omega)) (Nat.ne_of_gt (by omega))
  TIi2 := Nat.ne_of_gt (by omega)
  mem2 := List.mem_cons_self
  zf2 := nm2 (Nat.ne_of_gt (by omega)) (Nat.ne_of_gt (by omega))
  Tf2 := nm2 (Nat.ne_of_gt (by omega)) (Nat.ne_of_gt (by omega))
  sep1_2 := nm2 (Nat.ne_of_lt (by omega)) (Nat.ne_of_gt (by omega))
  sep2_1 := nm2 (Nat.ne_of_gt (by omega)) (Nat.ne_of_gt (by omega))
/-- on data -/
def zipD (xs ys : List D) : List D := List.zipWith (fun x y => D.tup [x, y]) xs ys
section
variable {K : Cz} {W : WX}
def mZip (ma : DL) : DL := fun xe ρ c Q => ma xe ρ c fun ds c1 => match ds with | [d, e] => dSeq d fun l => dSeq e fun l' => Q (zipD l l') c1 | _ => False
end
end Dm

namespace Dm
open PySem L2 Evl
section
variable {K : Cz} {W : WX} {p : Addr} {G H : Hp}
abbrev DO := XP → Ro → Nat → (Option Int → Nat → Prop) → Prop
def SimP (K : Cz) (W : WX) (to : TO) (mo : DO) : Prop := ∀ (p : Addr) (G0 H0 : Hp) (c : Nat) (G H : Hp) (σ : St) (ρ : Ro) (xe : XP) (Q : Option Int → Hp → Prop) (post : Option Int → Nat → Prop), WS K p G0 H0 c G H σ ρ → Xc K p G0 H0 xe W → mo xe ρ c post →
  (∀ b c' G' H', post b c' → Grow p G H G' H' → Wd K p c' G' H' → Q b H') → to σ H Q
def mNoP : DO := fun _ _ c Q => Q none c
theorem sim_noP : SimP K W tNoPart mNoP := fun p G0 H0 c G H σ ρ xe Q post ws xc m k => k none c G H m .refl ws.wd
def mP (me : DE) : DO := fun xe ρ c Q => me xe ρ c fun d c1 => match d with | .int i => Q (some i) c1 | _ => False
theorem sim_P {te : TE} {me : DE} (h : SimE K W te me) : SimP K W (tPart te) (mP me) := by
  intro p G0 H0 c G H σ ρ xe Q post ws xc m k
  refine h p G0 H0 c G H σ ρ xe _ _ ws xc m fun d c1 v G1 H1 m1 g1 w1 r1 => ?_
  cases r1 with
  | int i => exact ⟨i, rfl, k _ c1 G1 H1 m1 g1 w1⟩
  | _ => exact m1.elim
def cutD (xs : List D) (lo hi : Option Int) : List D := (xs.drop (HT.sIx xs.length 0 lo)).take (HT.sIx xs.length xs.length hi - HT.sIx xs.length 0 lo)
theorem cut_rp {xs : List V} {ds : List D} (r : RpL K p G xs ds) (lo hi : Option Int) : RpL K p G (cutV xs lo hi) (cutD ds lo hi) := by
  unfold cutV cutD
  rw [r.len]
  exact (r.drop _).take _
/-- a list's part -/
def mSl (me : DE) (lo hi : DO) : DE := fun xe ρ c Q => me xe ρ c fun d c1 => lo xe ρ c1 fun l c2 => hi xe ρ c2 fun u c3 => match d with
  | .lst xs => Q (.lst (cutD xs l u)) c3
  | _ => False
theorem sim_sl {te : TE} {me : DE} {tl th : TO} {lo hi : DO} (h : SimE K W te me) (hl : SimP K W tl lo) (hh : SimP K W th hi) : SimE K W (tSl (rSlL K.K) te tl th) (mSl me lo hi) := by
  intro p G0 H0 c G H σ ρ xe Q post ws xc m k
  refine h p G0 H0 c G H σ ρ xe _ _ ws xc m fun d c1 v G1 H1 m1 g1 w1 r1 => ?_
  have ws1 := ws.grow g1 w1
  refine hl p G0 H0 c1 G1 H1 σ ρ xe _ _ ws1 xc m1 fun l c2 G2 H2 m2 g2 w2 => ?_
  have ws2 := ws1.grow g2 w2
  refine hh p G0 H0 c2 G2 H2 σ ρ xe _ _ ws2 xc m2 fun u c3 G3 H3 m3 g3 w3 => ?_
  have r3 := (r1.up g2.ex).up g3.ex
  cases r3 with
  | lst h1 h2 =>
    refine ⟨_, _, rfl, sq_of (w3.sub _ _ h1), fun a ha => ?_⟩
    exact k _ c3 _ _ _ m3 (((g1.tr g2 w2).tr g3 w3).tr (Grow.laid ha w3.sub) (w3.laid ha)) (w3.laid ha) (.lst upd_same ((cut_rp h2 l u).up (Grow.laid (p := p) ha w3.sub).ex))
  | _ => exact m3.elim
/-- the same, as a list of one's own -/
def mSlO (me : DE) (lo hi : DO) : DL := fun xe ρ c Q => me xe ρ c fun d c1 => lo xe ρ c1 fun l c2 => hi xe ρ c2 fun u c3 => match d with
  | .lst xs => Q (cutD xs l u) c3
  | _ => False
def dMax : DRL := fun ds Q => match ds with | [.lst l] => (∃ ns : List Int, l = ns.map D.int ∧ ns ≠ [] ∧ ∀ m, m ∈ ns → (∀ y, y ∈ ns → y ≤ m) → Q (.int m)) | _ => False
def dMin : DRL := fun ds Q => match ds with | [.lst l] => (∃ ns : List Int, l = ns.map D.int ∧ ns ≠ [] ∧ ∀ m, m ∈ ns → (∀ y, y ∈ ns → m ≤ y) → Q (.int m)) | _ => False
def mIns (i : Nat) (mj me : DE) : DS := fun xe E ρ c => match ρ[i]? with
  | some (.own l) => l.length < 1000000 ∧ mj xe ρ c fun j c1 => me xe ρ c1 fun d c2 => match j with
    | .int k => (0 ≤ k ∧ k < 2 ^ 63) ∧ E.nx (ρ.set i (.own (l.take k.toNat ++ [d] ++ l.drop k.toNat))) c2
    | _ => False
  | _ => False
theorem RpL.eraseIdx : ∀ {ds : List D} {vs : List V} (n : Nat), RpL K p G vs ds → RpL K p G (vs.eraseIdx n) (ds.eraseIdx n)
  | [], _, n, h => by cases h; exact .nil
  | _ :: _, _, 0, h => by
    cases h with
    | cons h1 h2 => exact h2
  | _ :: ds, _, n + 1, h => by
    cases h with
    | cons h1 h2 => exact .cons h1 (RpL.eraseIdx n h2)
def mPopS (i : Nat) (mj : DE) : DS := fun xe E ρ c => match ρ[i]? with
  | some (.own l) => mj xe ρ c fun j c1 => match j with
    | .int k => ∃ n : Nat, (0 ≤ k ∧ k < 2 ^ 63 ∧ k = (n : Int) ∧ n < l.length) ∧ E.nx (ρ.set i (.own (l.eraseIdx n))) c1
    | _ => False
  | _ => False
end
theorem Rp.scalar {K : Cz} {p : Addr} {G G' : Hp} {v : V} {d : D} (r : Rp K p G v d) (h : d.scal = true) : Rp K p G' v d := by
  cases r with
  | non => exact .non
  | bl b => exact .bl b
  | int b => exact .int b
  | str b => exact .str b
  | _ => simp [D.scal] at h
def mTmpE (i : Nat) (me : DE) : DE := fun xe ρ c Q => match ρ[i]? with
  | some (.own l) => me (fun _ _ _ => False) (ρ.set i (.sh (.lst l))) c fun d c1 => d.scal = true ∧ Q d c1
  | some (.frs _ d) => me (fun _ _ _ => False) (ρ.set i (.sh d)) c fun d c1 => d.scal = true ∧ Q d c1
  | _ => False
section
variable {K : Cz} {W : WX}
theorem sim_tmpE {i : Nat} {te : TE} {me : DE} (h : SimE K (fun _ _ _ _ => False) te me) : SimE K W te (mTmpE i me) := by
  intro p G0 H0 c G H σ ρ xe Q post ws xc m k
  unfold mTmpE at m
  split at m
  · rename_i l e
    obtain ⟨F, hF, ws'⟩ := ws.freeze e
    refine h p G0 H0 c _ H σ _ _ _ _ ws' (fun _ _ _ _ _ _ _ _ _ _ z => z.elim) m fun d c1 v G1 H1 m1 g1 w1 r1 => ?_
    obtain ⟨w2, g2⟩ := ws.wd.back (mg_ex hF) g1 w1
    exact k d c1 v G H1 m1.2 g2 w2 (r1.scalar m1.1)
  · rename_i F d e
    have ws' := ws.freezeF e
    obtain ⟨v, e2, hf, r⟩ := ws.en.frs e
    refine h p G0 H0 c _ H σ _ _ _ _ ws' (fun _ _ _ _ _ _ _ _ _ _ z => z.elim) m fun d c1 v G1 H1 m1 g1 w1 r1 => ?_
    obtain ⟨w2, g2⟩ := ws.wd.back (mg_ex fun a o q => (hf a o q).1) g1 w1
    exact k d c1 v G H1 m1.2 g2 w2 (r1.scalar m1.1)
  · exact m.elim
end
end Dm

namespace Dm
open PySem L2 Evl
open PyProof.Rows (envOfC)
section
variable {P : Program} {w : World} {K : PySem.W.Frag} {mg : Str → Option Value} {base : Heap}
end
section
variable {K : Cz} {W : WX}
/-- x = a new value -/
def mAsgFr (me : DE) (i : Nat) : DS := fun xe E ρ c => me xe ρ c fun d c1 => ∀ F, E.nx (ρ.set i (.frs F d)) c1
/-- the same, a list of numbers, texts, .. : one's own from now on -/
def allSc (l : List D) : Bool := l.all D.scal
def mAsgFO (f : DF) (ma : DL) (i : Nat) : DS := fun xe E ρ c => ma xe ρ c fun ds c1 => f (fun _ _ => False) ds c1 fun d c2 => match d with
  | .lst l => allSc l = true ∧ E.nx (ρ.set i (.own l)) c2
  | _ => False
theorem RpL.scalar {p : Addr} {G G' : Hp} : ∀ {ds : List D} {vs : List V}, RpL K p G vs ds → allSc ds = true → RpL K p G' vs ds
  | [], _, h, _ => by cases h; exact .nil
  | d :: ds, _, h, e => by
    cases h with
    | cons h1 h2 =>
      unfold allSc at e
      rw [List.all_cons, Bool.and_eq_true] at e
      exact .cons (h1.scalar e.1) (RpL.scalar h2 e.2)
theorem sim_asgFO {f : DF} {ta : TA} {ma : DL} {i : Nat} (ha : SimA K W ta ma) : SimS K W (tAsg (tCall (spF K f) [] E0 ta) (gName i)) (mAsgFO f ma i) := by
  intro p G0 H0 c G H σ ρ xe N E ws xc er m
  refine ha p G0 H0 c G H σ ρ xe _ _ ws xc m fun ds c1 vs G1 H1 m1 g1 w1 r1 => ?_
  rw [List.append_nil]
  have ws1 := ws.grow g1 w1
  refine ⟨p, G1, c1, ds, _, _, w1, r1, m1, fun d c2 v F G2 H2 m2 g2 w2 f2 r2 => ?_, fun e c2 cls dd G2 H2 m2 g2 w2 r2 => m2⟩
  have ws2 := ws1.grow g2 w2
  split at m2
  · rename_i l
    cases r2 with
    | @lst a xs _ h1 h2 =>
      obtain ⟨q1, q2, q3, q4⟩ := f2 a _ h1
      refine er.nx _ _ _ _ _ ⟨ws2.gr, ws2.wd, ws2.en.setOwn q3 (ws1.fresh0 q2).2.1 q1 q4 (h2.scalar m2.1) fun j o s' ne e1 e2 z => ?_⟩ m2.2
      obtain ⟨u, hu⟩ := (ws1.en.sl j o s' e1 e2).reg_in z
      rw [q2] at hu; cases hu
  · exact m2.elim
end
end Dm

namespace Dm
open PySem L2 Evl
open PyProof.Rows (envOfC)
section
variable {X : Cx} {pos : Pos}
def gEi (g1 g2 : TG) : TG := fun v σ H Q => g1 v σ H Q ∨ g2 v σ H Q
theorem pg_ei {e : Expr} {g1 g2 : TG} (h1 : PG X e g1) (h2 : PG X e g2) : PG X e (gEi g1 g2) := by
  refine ⟨fun pins s σ H v u Q I r hw => ?_⟩
  rcases hw with hw | hw
  · exact h1.run pins s σ H v u Q I r hw
  · exact h2.run pins s σ H v u Q I r hw
end
section
variable {K : Cz} {W : Frag}
def gT2 (n : Nat) (mg : List D → Ro → (Ro → Prop) → Prop) : DG := fun d ρ Q => match d with | .tup l => l.length = n ∧ mg l ρ Q | .lst l => l.length = n ∧ mg l ρ Q | _ => False
theorem sim_gt2 {n : Nat} {g : TGs} {mg : List D → Ro → (Ro → Prop) → Prop} (h : SimGs K g mg) : SimG K (gEi (gTup K.K n g) (gLst K.K n g)) (gT2 n mg) := by
  intro p G0 H0 c G H σ ρ v d Q post ws r m k
  cases r with
  | tup h1 h2 => exact .inl ⟨_, _, rfl, st_of (ws.wd.sub _ _ h1), by rw [h2.len]; exact m.1, h p G0 H0 c G H σ ρ _ _ _ _ ws h2 m.2 k⟩
  | lst h1 h2 => exact .inr ⟨_, _, rfl, sq_of (ws.wd.sub _ _ h1), by rw [h2.len]; exact m.1, h p G0 H0 c G H σ ρ _ _ _ _ ws h2 m.2 k⟩
  | _ => exact m.elim
end
end Dm

namespace Dm
open PySem L2 Evl PySem.Spec PyProof.Rows
section
variable {prog : Program} {w : World} {A : Around} {E : Value → Shared → Prop} {s : Shared}
end
section
variable {X : Cx}
end
section
variable {X : Cx} {pos p2 : Pos}
end
section
variable {K : Cz} {W : WX}
/-- a part of a list of one's own, as a new list -/
def mSlV (i : Nat) (lo hi : DO) : DE := fun xe ρ c Q => match ρ[i]? with
  | some (.own l) => lo xe ρ c fun a c2 => hi xe ρ c2 fun b c3 => Q (.lst (cutD l a b)) c3
  | _ => False
def mListRg (ma mb : DE) : DL := fun xe ρ c Q => ma xe ρ c fun x c1 => mb xe ρ c1 fun y c2 => match x, y with
  | .int i, .int j => (-1000000 ≤ i ∧ i ≤ 1000000 ∧ -1000000 ≤ j ∧ j ≤ 1000000) ∧ Q (rng i (j - i).toNat) c2
  | _, _ => False
end
section
variable {X : Cx} {W : WX} {k j : Nat} {nm m : Str} {ps : List Str} {sp : Sp} {p apos pos : Pos} {o e : Expr} {es : List Expr} {te tb : TE} {t : TA} {mg0 : Str → Option Value} {K0 : PySem.W.Frag}
end
end Dm

namespace Dm
open PySem L2 Evl
open PyProof.Rows (envOfC)
mutual
def D.sz : D → Nat
  | .lst l => 1 + D.szL l
  | .tup l => 1 + D.szL l
  | .ins _ fs => 1 + D.szF fs
  | _ => 1
def D.szL : List D → Nat
  | [] => 0
  | d :: ds => D.sz d + D.szL ds
def D.szF : List (Str × D) → Nat
  | [] => 0
  | (_, d) :: ds => D.sz d + D.szF ds
end
def less (G : Hp) (a : Addr) : Hp := fun b => if b = a then none else G b
theorem less_ne {G : Hp} {a b : Addr} (h : b ≠ a) : less G a b = G b := if_neg h
section
variable {K : Cz} {p : Addr} {G : Hp}
mutual
theorem Rp.szEq (hp : G p = none) : ∀ (d d' : D) (v : V), Rp K p G v d → Rp K p G v d' → D.sz d = D.sz d'
  | .non, _, _, h, h' => by cases h; cases h'; rfl
  | .bl _, _, _, h, h' => by cases h; cases h'; rfl
  | .int _, _, _, h, h' => by cases h; cases h'; rfl
  | .str _, _, _, h, h' => by cases h; cases h'; rfl
  | .lst ds, _, _, h, h' => by
    cases h with
    | lst h1 h2 => cases h' with
      | lst h3 h4 =>
        rw [h1] at h3; cases h3
        show 1 + D.szL ds = 1 + D.szL _
        rw [RpL.szEq hp ds _ _ h2 h4]
      | tup h3 h4 => rw [h1] at h3; cases h3
      | ins _ h3 h4 => rw [h1] at h3; cases h3
      | pool => rw [hp] at h1; cases h1
  | .tup ds, _, _, h, h' => by
    cases h with
    | tup h1 h2 => cases h' with
      | tup h3 h4 =>
        rw [h1] at h3; cases h3
        show 1 + D.szL ds = 1 + D.szL _
        rw [RpL.szEq hp ds _ _ h2 h4]
      | lst h3 h4 => rw [h1] at h3; cases h3
      | ins _ h3 h4 => rw [h1] at h3; cases h3
      | pool => rw [hp] at h1; cases h1
  | .ins C fs, _, _, h, h' => by
    cases h with
    | ins h0 h1 h2 => cases h' with
      | ins g0 h3 h4 =>
        rw [h1] at h3; cases h3
        show 1 + D.szF fs = 1 + D.szF _
        rw [RpF.szEq hp fs _ _ h2 h4]
      | lst h3 h4 => rw [h1] at h3; cases h3
      | tup h3 h4 => rw [h1] at h3; cases h3
      | pool => rw [hp] at h1; cases h1
  | .pool, _, _, h, h' => by
    cases h
    cases h' with
    | pool => rfl
    | lst h3 h4 => rw [hp] at h3; cases h3
    | tup h3 h4 => rw [hp] at h3; cases h3
    | ins _ h3 h4 => rw [hp] at h3; cases h3
theorem RpL.szEq (hp : G p = none) : ∀ (ds ds' : List D) (vs : List V), RpL K p G vs ds → RpL K p G vs ds' → D.szL ds = D.szL ds'
  | [], _, _, h, h' => by cases h; cases h'; rfl
  | d :: ds, _, _, h, h' => by
    cases h with
    | cons h1 h2 => cases h' with
      | cons h3 h4 =>
        show D.sz d + D.szL ds = D.sz _ + D.szL _
        rw [Rp.szEq hp d _ _ h1 h3, RpL.szEq hp ds _ _ h2 h4]
theorem RpF.szEq (hp : G p = none) : ∀ (ds ds' : List (Str × D)) (vs : List (Str × V)), RpF K p G vs ds → RpF K p G vs ds' → D.szF ds = D.szF ds'
  | [], _, _, h, h' => by cases h; cases h'; rfl
  | (_, d) :: ds, _, _, h, h' => by
    cases h with
    | cons h1 h2 => cases h' with
      | cons h3 h4 =>
        show D.sz d + D.szF ds = D.sz _ + D.szF _
        rw [Rp.szEq hp d _ _ h1 h3, RpF.szEq hp ds _ _ h2 h4]
end
mutual
theorem Rp.lessA {a : Addr} {N : Nat} (ha : ∀ d, Rp K p G (.ref a) d → D.sz d = N) : ∀ (d : D) (v : V), Rp K p G v d → D.sz d < N → Rp K p (less G a) v d
  | .non, _, h, _ => by cases h; exact .non
  | .bl _, _, h, _ => by cases h; exact .bl _
  | .int _, _, h, _ => by cases h; exact .int _
  | .str _, _, h, _ => by cases h; exact .str _
  | .lst ds, _, h, q => by
    have h0 := h
    cases h with
    | @lst b xs _ h1 h2 =>
      have q' : 1 + D.szL ds < N := q
      have ne : b ≠ a := fun e => by subst e; have := ha _ h0; omega
      exact .lst (by rw [less_ne ne]; exact h1) (RpL.lessA ha ds _ h2 (by omega))
  | .tup ds, _, h, q => by
    have h0 := h
    cases h with
    | @tup b xs _ h1 h2 =>
      have q' : 1 + D.szL ds < N := q
      have ne : b ≠ a := fun e => by subst e; have := ha _ h0; omega
      exact .tup (by rw [less_ne ne]; exact h1) (RpL.lessA ha ds _ h2 (by omega))
  | .ins C fs, _, h, q => by
    have h0 := h
    cases h with
    | @ins nm b C dx gs _ g0 h1 h2 =>
      have q' : 1 + D.szF fs < N := q
      have ne : b ≠ a := fun e => by subst e; have := ha _ h0; omega
      exact .ins g0 (by rw [less_ne ne]; exact h1) (RpF.lessA ha fs _ h2 (by omega))
  | .pool, _, h, _ => by cases h; exact .pool
theorem RpL.lessA {a : Addr} {N : Nat} (ha : ∀ d, Rp K p G (.ref a) d → D.sz d = N) : ∀ (ds : List D) (vs : List V), RpL K p G vs ds → D.szL ds < N → RpL K p (less G a) vs ds
  | [], _, h, _ => by cases h; exact .nil
  | d :: ds, _, h, q => by
    cases h with
    | cons h1 h2 =>
      have q' : D.sz d + D.szL ds < N := q
      exact .cons (Rp.lessA ha d _ h1 (by omega)) (RpL.lessA ha ds _ h2 (by omega))
theorem RpF.lessA {a : Addr} {N : Nat} (ha : ∀ d, Rp K p G (.ref a) d → D.sz d = N) : ∀ (ds : List (Str × D)) (vs : List (Str × V)), RpF K p G vs ds → D.szF ds < N → RpF K p (less G a) vs ds
  | [], _, h, _ => by cases h; exact .nil
  | (_, d) :: ds, _, h, q => by
    cases h with
    | cons h1 h2 =>
      have q' : D.sz d + D.szF ds < N := q
      exact .cons (Rp.lessA ha d _ h1 (by omega)) (RpF.lessA ha ds _ h2 (by omega))
end
/-- the items of a list don't hold the list -/
theorem RpL.items {a : Addr} {xs : List V} {ds : List D} (hp : G p = none) (h1 : G a = some (.lst xs)) (h2 : RpL K p G xs ds) : RpL K p (less G a) xs ds :=
  RpL.lessA (N := 1 + D.szL ds) (fun d h => (Rp.szEq hp d (.lst ds) _ h (.lst h1 h2))) ds xs h2 (by omega)
end
section
variable {K : Cz} {W : WX}
/-- x = a new list, its items of any kind -/
def mAsgFI (f : DF) (ma : DL) (i : Nat) : DS := fun xe E ρ c => ma xe ρ c fun ds c1 => f (fun _ _ => False) ds c1 fun d c2 => match d with
  | .lst l => E.nx (ρ.set i (.own l)) c2
  | _ => False
end
end Dm

namespace Dm
open PySem L2 Evl
open PyProof.Rows (envOfC)
abbrev DTr := XP → Ro → Nat → (T → Nat → Prop) → Prop
abbrev DTrs := XP → Ro → Nat → (List T → Nat → Prop) → Prop
theorem T.dL_map (ts : List T) : T.dL ts = ts.map T.d := by
  induction ts with
  | nil => rfl
  | cons t ts ih => show t.d :: T.dL ts = _; rw [ih]; rfl
section
variable {K : Cz} {p : Addr} {G H : Hp}
theorem TrRL.len : ∀ {ts : List T} {vs : List V}, TrRL K p G H vs ts → vs.length = ts.length
  | [], _, h => by cases h; rfl
  | t :: ts, _, h => by cases h with | cons h1 h2 => simp [h2.len]
theorem TrRL.append : ∀ {ts us : List T} {vs ws : List V}, TrRL K p G H vs ts → TrRL K p G H ws us → TrRL K p G H (vs ++ ws) (ts ++ us)
  | [], _, _, _, h, k => by cases h; exact k
  | t :: ts, _, _, _, h, k => by cases h with | cons h1 h2 => exact .cons h1 (h2.append k)
theorem TrRL.get : ∀ {ts : List T} {vs : List V} {i : Nat} {t : T}, TrRL K p G H vs ts → ts[i]? = some t → ∃ v, vs[i]? = some v ∧ TrR K p G H v t
  | [], _, i, _, h, e => by simp at e
  | t :: ts, _, 0, _, h, e => by cases h with | cons h1 h2 => cases e; exact ⟨_, rfl, h1⟩
  | t :: ts, _, i + 1, _, h, e => by cases h with | cons h1 h2 => exact h2.get (by simpa using e)
end
/-- the cells of a tree -/
def cells (H : Hp) (as : List Addr) : Hp := fun a => if a ∈ as then H a else none
section
variable {K : Cz} {p : Addr} {G H F : Hp}
mutual
theorem TrR.rp (e : Ex G F) : ∀ (t : T) (v : V), TrR K p G H v t → (∀ a ∈ t.as, ∀ o, H a = some o → F a = some o) → Rp K p F v t.d
  | .lf d, _, h, _ => by cases h with | lf r => exact r.up e
  | .ls a ts, _, h, k => by
    cases h with
    | ls h1 h2 => exact .lst (k a (by simp [T.as]) _ h1) (TrRL.rp e ts _ h2 fun b hb => k b (by simp [T.as, hb]))
theorem TrRL.rp (e : Ex G F) : ∀ (ts : List T) (vs : List V), TrRL K p G H vs ts → (∀ a ∈ T.asL ts, ∀ o, H a = some o → F a = some o) → RpL K p F vs (T.dL ts)
  | [], _, h, _ => by cases h; exact .nil
  | t :: ts, _, h, k => by
    cases h with
    | cons h1 h2 => exact .cons (TrR.rp e t _ h1 fun b hb => k b (by simp [T.asL, hb])) (TrRL.rp e ts _ h2 fun b hb => k b (by simp [T.asL, hb]))
end
end
section
variable (K : Cz) (W : WX)
end
theorem Grow.none {p a : Addr} {G H G' H' : Hp} (g : Grow p G H G' H') (np : a ≠ p) (h : H' a = none) : H a = none := by
  cases q : H a with
  | none => rfl
  | some o => rw [g.keep a o np q] at h; cases h
section
variable {K : Cz} {W : WX} {p : Addr} {G H G' H' : Hp}
/-- a tree stays -/
theorem TrR.stay {t : T} {v : V} (g : Grow p G H G' H') (np : ∀ a ∈ t.as, a ≠ p) (hg : ∀ a ∈ t.as, G a = none) (h : TrR K p G H v t) : TrR K p G' H' v t ∧ ∀ a ∈ t.as, G' a = none := by
  have st : ∀ a ∈ t.as, G' a = none ∧ H' a = H a := fun a q => by
    obtain ⟨xs, hx⟩ := TrR.has _ _ a h q
    obtain ⟨a1, a2⟩ := g.stay (hg a q) hx (np a q)
    exact ⟨a1, a2.trans hx.symm⟩
  exact ⟨TrR.frame g.ex _ _ (fun a q => (st a q).2) h, fun a q => (st a q).1⟩
theorem TrRL.stay {ts : List T} {vs : List V} (g : Grow p G H G' H') (np : ∀ a ∈ T.asL ts, a ≠ p) (hg : ∀ a ∈ T.asL ts, G a = none) (h : TrRL K p G H vs ts) : TrRL K p G' H' vs ts ∧ ∀ a ∈ T.asL ts, G' a = none := by
  have st : ∀ a ∈ T.asL ts, G' a = none ∧ H' a = H a := fun a q => by
    obtain ⟨xs, hx⟩ := TrRL.has _ _ a h q
    obtain ⟨a1, a2⟩ := g.stay (hg a q) hx (np a q)
    exact ⟨a1, a2.trans hx.symm⟩
  exact ⟨TrRL.frame g.ex _ _ (fun a q => (st a q).2) h, fun a q => (st a q).1⟩
def mLf (me : DE) : DTr := fun xe ρ c Q => me xe ρ c fun d c1 => Q (.lf d) c1
/-- a list of one's own, of leaves -/
def mTO (mo : DL) : DTr := fun xe ρ c Q => mo xe ρ c fun l c1 => ∀ a, Q (.ls a (l.map T.lf)) c1
def mNilT : DTrs := fun _ _ c Q => Q [] c
def mConsT (mt : DTr) (ms : DTrs) : DTrs := fun xe ρ c Q => mt xe ρ c fun t c1 => ms xe ρ c1 fun ts c2 => Q (t :: ts) c2
/-- [e, ..] -/
def mLsT (ms : DTrs) : DTr := fun xe ρ c Q => ms xe ρ c fun ts c1 => ts.length ≤ 1000000 ∧ ∀ a, Q (.ls a ts) c1
def mAsgT (mt : DTr) (i : Nat) : DS := fun xe E ρ c => mt xe ρ c fun t c1 => E.nx (ρ.set i (.tr t)) c1
mutual
/-- lists of lists .., n deep, of one's own -/
def T.sh : Nat → T → Bool
  | 0, .lf _ => true
  | n + 1, .ls _ ts => T.shL n ts
  | _, _ => false
def T.shL : Nat → List T → Bool
  | _, [] => true
  | n, t :: ts => T.sh n t && T.shL n ts
end
def mRetT (mt : DTr) : DS := fun xe E ρ c => mt xe ρ c fun t c1 => E.rtT t c1
end
end Dm

namespace Dm
open PySem L2 Evl
open PyProof.Rows (envOfC)
section
variable {P : Program} {w : World} {K : PySem.W.Frag} {mg : Str → Option Value} {base : Heap}
end
section
variable {K : Cz} {W : WX}
def mCallT (n : Nat) (f : DF) (ma : DL) : DTr := fun xe ρ c Q => ma xe ρ c fun ds c1 => f (fun _ _ => False) ds c1 fun d c2 => ∀ t, T.sh n t = true → t.d = d → Q t c2
def mCallTX (n : Nat) (f : DF) (ma : DL) : DTr := fun xe ρ c Q => ma xe ρ c fun ds c1 => f (fun e c' => xe e ρ c') ds c1 fun d c2 => ∀ t, T.sh n t = true → t.d = d → Q t c2
def mMethT (n : Nat) (nm m : Str) (f : DF) (me : DE) (ma : DL) : DTr := fun xe ρ c Q => me xe ρ c fun d c1 => match d with
  | .ins nm' gs => (nm' = nm ∧ gs.lookup m = none) ∧ ma xe ρ c1 fun ds c2 => f (fun e c' => xe e ρ c') (d :: ds) c2 fun d c3 => ∀ t, T.sh n t = true → t.d = d → Q t c3
  | _ => False
end
mutual
def T.node (b : Addr) : T → Option (List T)
  | .lf _ => none
  | .ls a ts => if a = b then some ts else T.nodeL b ts
def T.nodeL (b : Addr) : List T → Option (List T)
  | [] => none
  | t :: ts => match T.node b t with | some us => some us | none => T.nodeL b ts
end
mutual
def T.put (b : Addr) (us : List T) : T → T
  | .lf d => .lf d
  | .ls a ts => if a = b then .ls a us else .ls a (T.putL b us ts)
def T.putL (b : Addr) (us : List T) : List T → List T
  | [] => []
  | t :: ts => T.put b us t :: T.putL b us ts
end
mutual
theorem T.node_sub {b : Addr} {us : List T} : ∀ (t : T), T.node b t = some us → (b :: T.asL us).Sublist t.as
  | .lf _, h => by unfold T.node at h; cases h
  | .ls a ts, h => by
    unfold T.node at h
    split at h
    · rename_i e; cases h; subst e; exact List.Sublist.refl _
    · exact (T.nodeL_sub ts h).trans (List.sublist_cons_self _ _)
theorem T.nodeL_sub {b : Addr} {us : List T} : ∀ (ts : List T), T.nodeL b ts = some us → (b :: T.asL us).Sublist (T.asL ts)
  | [], h => by unfold T.nodeL at h; cases h
  | t :: ts, h => by
    unfold T.nodeL at h
    cases q : T.node b t with
    | some ws => rw [q] at h; cases h; exact (T.node_sub t q).trans (List.sublist_append_left _ _)
    | none => rw [q] at h; exact (T.nodeL_sub ts h).trans (List.sublist_append_right _ _)
end
mutual
theorem T.put_out {b : Addr} {us : List T} : ∀ (t : T), b ∉ t.as → T.put b us t = t
  | .lf _, _ => rfl
  | .ls a ts, h => by
    have h1 : a ≠ b := fun e => h (by simp [T.as, e])
    unfold T.put
    rw [if_neg h1, T.putL_out ts fun q => h (by simp [T.as, q])]
theorem T.putL_out {b : Addr} {us : List T} : ∀ (ts : List T), b ∉ T.asL ts → T.putL b us ts = ts
  | [], _ => rfl
  | t :: ts, h => by
    unfold T.putL
    rw [T.put_out t fun q => h (by simp [T.asL, q]), T.putL_out ts fun q => h (by simp [T.asL, q])]
end
section
variable {K : Cz} {p : Addr} {G H H' : Hp}
mutual
theorem TrR.node {b : Addr} {us : List T} : ∀ (t : T) (v : V), TrR K p G H v t → T.node b t = some us → ∃ xs, H b = some (.lst xs) ∧ TrRL K p G H xs us
  | .lf _, _, _, h => by unfold T.node at h; cases h
  | .ls a ts, _, r, h => by
    cases r with
    | ls h1 h2 =>
      unfold T.node at h
      split at h
      · rename_i e; cases h; subst e; exact ⟨_, h1, h2⟩
      · exact TrRL.node ts _ h2 h
theorem TrRL.node {b : Addr} {us : List T} : ∀ (ts : List T) (vs : List V), TrRL K p G H vs ts → T.nodeL b ts = some us → ∃ xs, H b = some (.lst xs) ∧ TrRL K p G H xs us
  | [], _, _, h => by unfold T.nodeL at h; cases h
  | t :: ts, _, r, h => by
    cases r with
    | cons h1 h2 =>
      unfold T.nodeL at h
      cases q : T.node b t with
      | some ws => rw [q] at h; cases h; exact TrR.node t _ h1 q
      | none => rw [q] at h; exact TrRL.node ts _ h2 h
end
mutual
theorem TrR.put {b : Addr} {us us0 : List T} {ys : List V} (k : ∀ a, a ≠ b → H' a = H a) (hb : H' b = some (.lst ys)) (ru : TrRL K p G H' ys us) : ∀ (t : T) (v : V), TrR K p G H v t → t.as.Nodup → T.node b t = some us0 → TrR K p G H' v (T.put b us t)
  | .lf _, _, _, _, h => by unfold T.node at h; cases h
  | .ls a ts, _, r, nd, h => by
    cases r with
    | ls h1 h2 =>
      unfold T.node at h
      unfold T.put
      split at h
      · rename_i e; subst e; rw [if_pos rfl]; exact .ls hb ru
      · rename_i e; rw [if_neg e]; exact .ls (by rw [k a e]; exact h1) (TrRL.put k hb ru ts _ h2 (List.nodup_cons.mp nd).2 h)
theorem TrRL.put {b : Addr} {us us0 : List T} {ys : List V} (k : ∀ a, a ≠ b → H' a = H a) (hb : H' b = some (.lst ys)) (ru : TrRL K p G H' ys us) : ∀ (ts : List T) (vs : List V), TrRL K p G H vs ts → (T.asL ts).Nodup → T.nodeL b ts = some us0 → TrRL K p G H' vs (T.putL b us ts)
  | [], _, _, _, h => by unfold T.nodeL at h; cases h
  | t :: ts, _, r, nd, h => by
    obtain ⟨n1, n2, n3⟩ := List.nodup_append.mp (show (t.as ++ T.asL ts).Nodup from nd)
    cases r with
    | cons h1 h2 =>
      unfold T.nodeL at h
      unfold T.putL
      cases q : T.node b t with
      | some ws =>
        rw [q] at h; cases h
        have hbt : b ∈ t.as := (T.node_sub t q).subset (by simp)
        have out : b ∉ T.asL ts := fun z => n3 b hbt b z rfl
        rw [T.putL_out ts out]
        exact .cons (TrR.put k hb ru t _ h1 n1 q) (TrRL.frame (Ex.refl _) ts _ (fun a z => k a fun e => out (by rw [← e]; exact z)) h2)
      | none =>
        rw [q] at h
        have hbt : b ∈ T.asL ts := (T.nodeL_sub ts h).subset (by simp)
        have out : b ∉ t.as := fun z => n3 b z b hbt rfl
        rw [T.put_out t out]
        exact .cons (TrR.frame (Ex.refl _) t _ (fun a z => k a fun e => out (by rw [← e]; exact z)) h1) (TrRL.put k hb ru ts _ h2 n2 h)
end
end
section
variable {K : Cz} {W : WX} {p : Addr} {G0 H0 G H : Hp} {c : Nat} {σ : St} {ρ : Ro}
theorem EnvR.tr {i : Nat} {t : T} (h : EnvR K p H0 G H σ ρ) (e : ρ[i]? = some (.tr t)) : ∃ v, σ[i]? = some (some v) ∧ TrR K p G H v t ∧ t.as.Nodup ∧ ∀ a ∈ t.as, G a = none ∧ H0 a = none ∧ a ≠ p := by
  obtain ⟨o, h1, h2⟩ := h.get e
  cases h2 with
  | tr r n f => exact ⟨_, h1, r, n, f⟩
theorem EnvR.adr {i : Nat} {b : Addr} (h : EnvR K p H0 G H σ ρ) (e : ρ[i]? = some (.adr b)) : σ[i]? = some (some (.ref b)) := by
  obtain ⟨o, h1, h2⟩ := h.get e
  cases h2 with
  | adr => exact h1
/-- the tree is shared from now on -/
def mFrzT (i : Nat) (m : DS) : DS := fun xe E ρ c => match ρ[i]? with | some (.tr t) => m xe E (ρ.set i (.sh t.d)) c | _ => False
mutual
/-- no list in it -/
def D.nl : D → Bool
  | .lst _ => false
  | .tup l => D.nlL l
  | .ins _ fs => D.nlF fs
  | _ => true
def D.nlL : List D → Bool
  | [] => true
  | d :: ds => D.nl d && D.nlL ds
def D.nlF : List (Str × D) → Bool
  | [] => true
  | (_, d) :: ds => D.nl d && D.nlF ds
end
/-- a value, the tree of slot i looked at -/
def mTmE (i : Nat) (me : DE) : DE := fun xe ρ c Q => match ρ[i]? with
  | some (.tr t) => me (fun _ _ _ => False) (ρ.set i (.sh t.d)) c fun d c1 => d.nl = true ∧ Q d c1
  | _ => False
def mTmT (i : Nat) (mt : DT) : DT := fun xe ρ c Q => match ρ[i]? with
  | some (.tr t) => mt (fun _ _ _ => False) (ρ.set i (.sh t.d)) c Q
  | _ => False
/-- a value, the list of slot j in the tree of slot i looked at -/
def mTmA (i j : Nat) (me : DE) : DE := fun xe ρ c Q => match ρ[i]?, ρ[j]? with
  | some (.tr t), some (.adr b) => i ≠ j ∧ (t.as.Nodup → ∃ us, T.node b t = some us ∧ me (fun _ _ _ => False) ((ρ.set i (.sh t.d)).set j (.sh (.lst (T.dL us)))) c fun d c1 => d.nl = true ∧ Q d c1)
  | _, _ => False
def mTmAT (i j : Nat) (mt : DT) : DT := fun xe ρ c Q => match ρ[i]?, ρ[j]? with
  | some (.tr t), some (.adr b) => i ≠ j ∧ (t.as.Nodup → ∃ us, T.node b t = some us ∧ mt (fun _ _ _ => False) ((ρ.set i (.sh t.d)).set j (.sh (.lst (T.dL us)))) c Q)
  | _, _ => False
end
end Dm

namespace Dm
open PySem L2 Evl
open PyProof.Rows (envOfC)
section
variable {K : Cz} {W : WX} {p : Addr} {G0 H0 G H : Hp} {c : Nat} {σ : St} {ρ : Ro}
abbrev DA := XP → Ro → Nat → (Addr → Nat → Prop) → Prop
def aRoot (i : Nat) : DA := fun _ ρ c Q => match ρ[i]? with | some (.tr (.ls a _)) => Q a c | _ => False
def aVar (j : Nat) : DA := fun _ ρ c Q => match ρ[j]? with | some (.adr b) => Q b c | _ => False
/-- x[k] of the list at an address of slot i's tree -/
def aIx (i : Nat) (ma : DA) (mk : DE) : DA := fun xe ρ c Q => ma xe ρ c fun b c1 => mk xe ρ c1 fun d c2 => match ρ[i]?, d with
  | some (.tr t), .int k => t.as.Nodup → ∃ us n b' ws, T.node b t = some us ∧ ixN us.length k = some n ∧ us[n]? = some (.ls b' ws) ∧ Q b' c2
  | _, _ => False
/-- y = the list at an address -/
def mAsgA (ma : DA) (j : Nat) : DS := fun xe E ρ c => ma xe ρ c fun b c1 => E.nx (ρ.set j (.adr b)) c1
def mAppA (i : Nat) (ma : DA) (me : DE) : DS := fun xe E ρ c => ma xe ρ c fun b c1 => match ρ[i]? with
  | some (.tr t) => t.as.Nodup → ∃ us, T.node b t = some us ∧ us.length < 1000000 ∧ me xe ρ c1 fun d c2 => E.nx (ρ.set i (.tr (T.put b (us ++ [.lf d]) t))) c2
  | _ => False
/-- x[j] = e of the list at an address -/
def mSetA (i : Nat) (ma : DA) (mj me : DE) : DS := fun xe E ρ c => me xe ρ c fun d c1 => ma xe ρ c1 fun b c2 => mj xe ρ c2 fun j c3 => match ρ[i]?, j with
  | some (.tr t), .int k => t.as.Nodup → ∃ us n d0, T.node b t = some us ∧ ixN us.length k = some n ∧ us[n]? = some (.lf d0) ∧ E.nx (ρ.set i (.tr (T.put b (us.set n (.lf d)) t))) c3
  | _, _ => False
theorem TrRL.take {ts : List T} {vs : List V} (n : Nat) (h : TrRL K p G H vs ts) : TrRL K p G H (vs.take n) (ts.take n) := by
  induction ts generalizing vs n with
  | nil => cases h; simpa using TrRL.nil
  | cons t ts ih => cases h with | cons h1 h2 => cases n with | zero => exact .nil | succ n => exact .cons h1 (ih n h2)
theorem TrRL.drop {ts : List T} {vs : List V} (n : Nat) (h : TrRL K p G H vs ts) : TrRL K p G H (vs.drop n) (ts.drop n) := by
  induction ts generalizing vs n with
  | nil => cases h; simpa using TrRL.nil
  | cons t ts ih => cases h with | cons h1 h2 => cases n with | zero => exact .cons h1 h2 | succ n => exact ih n h2
def mInsA (i : Nat) (ma : DA) (mj me : DE) : DS := fun xe E ρ c => ma xe ρ c fun b c1 => match ρ[i]? with
  | some (.tr t) => t.as.Nodup → ∃ us, T.node b t = some us ∧ us.length < 1000000 ∧ mj xe ρ c1 fun j c2 => me xe ρ c2 fun d c3 => match j with
    | .int k => (0 ≤ k ∧ k < 2 ^ 63) ∧ E.nx (ρ.set i (.tr (T.put b (us.take k.toNat ++ [.lf d] ++ us.drop k.toNat) t))) c3
    | _ => False
  | _ => False
def mAppF (mt : DTr) (me : DE) : DS := fun xe E ρ c => mt xe ρ c fun t c1 => match t with
  | .ls _ ts => ts.length < 1000000 ∧ me xe ρ c1 fun _ c2 => E.nx ρ c2
  | _ => False
end
end Dm

namespace Dm
open PySem L2 Evl
open PyProof.Rows (envOfC)
/-- draws so far, other arguments, the tree; wished: the answer, the tree -/
abbrev DFM := (Err → Nat → Prop) → List D → T → Nat → (D → T → Nat → Prop) → Prop
/-- a tree that is a list at a -/
def T.top : T → Option Addr
  | .lf _ => none
  | .ls a _ => some a
def mRetV (me : DE) : DS := fun xe E ρ c => me xe ρ c fun d c1 => E.rtV d ρ c1
def mRetNV : DS := fun _ E ρ c => E.rtV .non ρ c
section
variable {K : Cz} {W : WX}
end
section
variable {P : Program} {w : World} {K : PySem.W.Frag} {mg : Str → Option Value} {base : Heap}
/-- the ends of a def whose last parameter is a tree -/
def endM (k : Nat) (t : T) (rt : D → T → Nat → Prop) : DEnds :=
  { nx := fun ρ c' => ∃ t', ρ[k]? = some (.tr t') ∧ T.top t' = T.top t ∧ rt .non t' c', rt := fun _ _ => False, rtV := fun d ρ c' => ∃ t', ρ[k]? = some (.tr t') ∧ T.top t' = T.top t ∧ rt d t' c' }
end
section
variable {K : Cz} {W : WX}
def mLastT (i : Nat) : DL := fun _ ρ c Q => match ρ[i]? with | some (.tr _) => Q [] c | _ => False
/-- f(.., x), the answer not looked at -/
def mCallMS (i : Nat) (f : DFM) (ma : DL) : DS := fun xe E ρ c => ma xe ρ c fun ds c1 => match ρ[i]? with
  | some (.tr t) => T.top t ≠ none ∧ f (fun _ _ => False) ds t c1 fun _ t' c2 => E.nx (ρ.set i (.tr t')) c2
  | _ => False
abbrev DTW := XP → Ro → Nat → (Bool → Ro → Nat → Prop) → Prop
def wOf (mt : DT) : DTW := fun xe ρ c Q => mt xe ρ c fun b c' => Q b ρ c'
def wNot (mt : DTW) : DTW := fun xe ρ c Q => mt xe ρ c fun b ρ' c' => Q (!b) ρ' c'
def wOr (mt mu : DTW) : DTW := fun xe ρ c Q => mt xe ρ c fun b ρ' c1 => if b = true then Q true ρ' c1 else mu xe ρ' c1 Q
/-- f(.., x) as a test -/
def wCall (i : Nat) (f : DFM) (ma : DL) : DTW := fun xe ρ c Q => ma xe ρ c fun ds c1 => match ρ[i]? with
  | some (.tr t) => T.top t ≠ none ∧ f (fun _ _ => False) ds t c1 fun d t' c2 => match d with | .bl b => Q b (ρ.set i (.tr t')) c2 | _ => False
  | _ => False
def wIf (mt : DTW) (a b : DS) : DS := fun xe E ρ c => mt xe ρ c fun d ρ' c1 => if d = true then a xe E ρ' c1 else b xe E ρ' c1
/-- a list of one's own, the tree of slot i looked at -/
def mTmO (i : Nat) (mo : DL) : DL := fun xe ρ c Q => match ρ[i]? with
  | some (.tr t) => mo (fun _ _ _ => False) (ρ.set i (.sh t.d)) c fun l c1 => D.nlL l = true ∧ Q l c1
  | _ => False
/-- an own list is a tree from now on -/
def mOwnT (i : Nat) (m : DS) : DS := fun xe E ρ c => match ρ[i]? with | some (.own l) => ∀ a, m xe E (ρ.set i (.tr (.ls a (l.map T.lf)))) c | _ => False
end
end Dm

namespace Dm
open PySem L2 Evl
open PyProof.Rows (envOfC)
section
open PySem.W PySem.Builtin PyProof.Rows
variable {prog : Program} {w : World} {A : Around} {E : Value → Shared → Prop} {s : Shared} {K : Frag} {x C L f : Addr} {h₀ : Heap} {m : Str → Option Value} {ox : Obj} {od : Option Obj} {name : Str} {b tb : Value}
end
section
variable {X : Cx} {sp : Sp} {k j : Nat} {nm : Str} {ps : List Str}
end
section
variable {K : Cz} {W : WX} {T : CTab}
def mRev (me : DE) : DL := fun xe ρ c Q => me xe ρ c fun d c1 => match d with | .lst l => Q l.reverse c1 | _ => False
end
end Dm

namespace Dm
open PySem L2 Evl
open PyProof.Rows (envOfC)
section
variable {K : Cz} {W : WX} {p : Addr} {G0 H0 G H : Hp} {c : Nat} {σ : St} {ρ : Ro}
theorem T.putL_len {b : Addr} {us : List T} : ∀ ts : List T, (T.putL b us ts).length = ts.length
  | [] => rfl
  | t :: ts => by show (T.putL b us ts).length + 1 = ts.length + 1; rw [T.putL_len ts]
theorem T.putL_get {b : Addr} {us : List T} : ∀ (ts : List T) (k : Nat), (T.putL b us ts)[k]? = (ts[k]?).map (T.put b us)
  | [], _ => rfl
  | t :: ts, 0 => rfl
  | t :: ts, k + 1 => by
    show (T.putL b us ts)[k]? = _
    rw [T.putL_get ts k]; rfl
/-- all items are lists of at most L items -/
def kidsL (L : Nat) (ts : List T) : Prop := ∀ (k : Nat) (t : T), ts[k]? = some t → ∃ b ws, t = T.ls b ws ∧ ws.length ≤ L
theorem kidsL.put {L : Nat} {ts us : List T} {b : Addr} (h : kidsL L ts) (hu : us.length ≤ L + 1) : kidsL (L + 1) (T.putL b us ts) := by
  intro k t ht
  rw [T.putL_get] at ht
  cases q : ts[k]? with
  | none => rw [q] at ht; cases ht
  | some t0 =>
    rw [q] at ht
    obtain ⟨b2, ws, rfl, hl⟩ := h k t0 q
    have ht : T.put b us (.ls b2 ws) = t := Option.some.inj ht
    unfold T.put at ht
    by_cases z : b2 = b
    · rw [if_pos z] at ht
      exact ⟨b2, us, ht.symm, hu⟩
    · rw [if_neg z] at ht
      exact ⟨b2, _, ht.symm, by rw [T.putL_len]; omega⟩
theorem kidsL.up {L L' : Nat} {ts : List T} (h : kidsL L ts) (hL : L ≤ L') : kidsL L' ts := fun k t e => by
  obtain ⟨b, ws, h1, h2⟩ := h k t e
  exact ⟨b, ws, h1, by omega⟩
def mForCat (i i2 j : Nat) (v : Int) : DS := fun _ E ρ c => match ρ[i]?, ρ[i2]? with
  | some (.tr (.ls a ts)), some (.tr (.ls b us)) => i ≠ i2 ∧ i ≠ j ∧ i2 ≠ j ∧ j < ρ.length ∧ ts.length + us.length ≤ 1000 ∧ (kidsL 1000 ts ∧ kidsL 1000 us) ∧
    ∀ ts' us' s, ts'.length = ts.length → us'.length = us.length → E.nx (((ρ.set i (.tr (.ls a ts'))).set i2 (.tr (.ls b us'))).set j s) c
  | _, _ => False
def gSO (i j : Nat) : DG := fun d ρ P => match ρ[i]?, ρ[j]? with
  | some (.own l), some (.sh (.int k)) => ∃ n, ixN l.length k = some n ∧ P (ρ.set i (.own (l.set n d)))
  | _, _ => False
def mPopA (i : Nat) (ma : DA) (mj : DE) : DS := fun xe E ρ c => ma xe ρ c fun b c1 => match ρ[i]? with
  | some (.tr t) => t.as.Nodup → ∃ us, T.node b t = some us ∧ us.length < 1000000 ∧ mj xe ρ c1 fun j c2 => match j with
    | .int k => ∃ (n : Nat) (d0 : D), k = (n : Int) ∧ us[n]? = some (.lf d0) ∧ E.nx (ρ.set i (.tr (T.put b (us.eraseIdx n) t))) c2
    | _ => False
  | _ => False
theorem TrRL.erase {p : Addr} {G H : Hp} {ts : List T} {vs : List V} (n : Nat) (h : TrRL K p G H vs ts) : TrRL K p G H (vs.eraseIdx n) (ts.eraseIdx n) := by
  induction ts generalizing vs n with
  | nil => cases h; exact .nil
  | cons t ts ih => cases h with | cons h1 h2 => cases n with | zero => exact h2 | succ n => exact .cons h1 (ih n h2)
def mForCatF (i j : Nat) (mt : DTr) (v : Int) : DS := fun xe E ρ c => match ρ[i]? with
  | some (.tr (.ls a ts)) => mt xe ρ c fun t c1 => match t with
    | .ls _ us => i ≠ j ∧ j < ρ.length ∧ ts.length + us.length ≤ 1000 ∧ (kidsL 1000 ts ∧ kidsL 1000 us) ∧ ∀ ts' s, ts'.length = ts.length → E.nx ((ρ.set i (.tr (.ls a ts'))).set j s) c1
    | _ => False
  | _ => False
def Out (σ : St) (ρ : Ro) (x : Addr) : Prop := ∀ (k : Nat) (o : Option V) (s : S), σ[k]? = some o → ρ[k]? = some s → ¬ s.reg o x
theorem Out.adr {j : Nat} {x b : Addr} {o : Option V} (h : Out σ ρ x) : Out (σ.set j o) (ρ.set j (.adr b)) x := by
  intro k o' s q1 q2
  by_cases kj : j = k
  · subst kj
    rcases Nat.lt_or_ge j ρ.length with hl | hl
    · rw [List.getElem?_set_self hl] at q2; cases q2
      exact reg_adr
    · rw [List.getElem?_eq_none (by rw [List.length_set]; exact hl)] at q2; cases q2
  · rw [List.getElem?_set_ne kj] at q1 q2
    exact h k o' s q1 q2
theorem Out.tr {i : Nat} {x a : Addr} {ts ts' : List T} (h : Out σ ρ x) (e : ρ[i]? = some (.tr (.ls a ts))) (as : (T.ls a ts').as = (T.ls a ts).as) : Out σ (ρ.set i (.tr (.ls a ts'))) x := by
  intro k o' s q1 q2
  by_cases ki : i = k
  · subst ki
    rw [List.getElem?_set_self (List.getElem?_eq_some_iff.mp e).1] at q2; cases q2
    intro z
    refine h i o' _ q1 e ?_
    rw [reg_tr] at z ⊢
    rw [← as]; exact z
  · rw [List.getElem?_set_ne ki] at q2
    exact h k o' s q1 q2
def mTmS (i : Nat) (me : DE) : DE := fun xe ρ c Q => match ρ[i]? with
  | some (.tr _) => mTmE i me xe ρ c Q
  | _ => mNoX me xe ρ c Q
end
section
variable {X : Cx} {W : WX} {mg0 : Str → Option Value} {sp : Sp} {k j : Nat} {nm : Str} {ps : List Str} {o e : Expr} {pos : Pos} {te tb : TE}
end
end Dm

namespace Dm
open PySem L2 Evl
open PyProof.Rows (envOfC)
section
variable {K : Cz} {W : WX}
def mCallDs (f : DF) (is : List Int) (ma : DL) : DE := fun xe ρ c Q => ma xe ρ c fun ds c1 => f (fun e c2 => xe e ρ c2) (ds ++ is.map D.int) c1 Q
end
section
variable {K : Cz} {W : WX}
def mListRg1 (ma : DE) : DL := fun xe ρ c Q => ma xe ρ c fun x c1 => match x with
  | .int i => (-1000000 ≤ i ∧ i ≤ 1000000) ∧ Q (rng 0 i.toNat) c1
  | _ => False
end
end Dm

namespace Dm
open PySem L2 Evl
section
variable {K : Cz} {W : WX}
end
end Dm

namespace Dm
open PySem L2 Evl
section
open PyProof.Rows
variable {prog : Program} {w : World} {A : Around} {E : Value → Shared → Prop} {s : Shared}
end
section
variable {K : Cz} {W : WX}
def dSorted : DRL := fun ds Q => match ds with | [d] => dSeq d fun l => ∃ ns : List Int, l = ns.map D.int ∧ ∀ ns' : List Int, ns'.Perm ns → ns'.Pairwise (· ≤ ·) → Q (.lst (ns'.map D.int)) | _ => False
def dIn : DR2 := fun x y Q => match x with | .int i => dSeq y fun l => ∃ ns : List Int, l = ns.map D.int ∧ Q (.bl (decide (i ∈ ns))) | _ => False
end
section
variable {K : Cz} {W : WX} {p : Addr} {G0 H0 G H : Hp} {c : Nat} {σ : St} {ρ : Ro}
/-- x.clear() -/
def mClrR (i : Nat) : DS := fun xe E ρ c => match ρ[i]? with | some (.tr (.ls a _)) => E.nx (ρ.set i (.tr (.ls a []))) c | _ => False
/-- x.append(a new list or a tree of new ones) -/
def mAppR (i : Nat) (mt : DTr) : DS := fun xe E ρ c => match ρ[i]? with
  | some (.tr (.ls a ts)) => ts.length < 1000000 ∧ mt xe ρ c fun t c1 => E.nx (ρ.set i (.tr (.ls a (ts ++ [t])))) c1
  | _ => False
/-- return x, x a tree -/
def mRetVT (i : Nat) : DS := fun xe E ρ c => match ρ[i]? with | some (.tr t) => E.rtT t c | _ => False
/-- x.append(y.pop(j)), x a list of a tree, y a list of one's own -/
def mAppPop (i : Nat) (ma : DA) (k : Nat) (mj : DE) : DS := fun xe E ρ c => ma xe ρ c fun b c1 => match ρ[i]?, ρ[k]? with
  | some (.tr t), some (.own l) => i ≠ k ∧ (t.as.Nodup → ∃ us, T.node b t = some us ∧ us.length < 1000000 ∧ l.length < 1000000 ∧ mj xe ρ c1 fun j c2 => match j with
    | .int z => ∃ (n : Nat) (d0 : D), z = (n : Int) ∧ l[n]? = some d0 ∧ E.nx ((ρ.set k (.own (l.eraseIdx n))).set i (.tr (T.put b (us ++ [.lf d0]) t))) c2
    | _ => False)
  | _, _ => False
end
end Dm

namespace Dm
open PySem L2 Evl
def dAddA : DR2 := fun x y Q => match x, y with
  | .tup a, .tup b => a.length + b.length ≤ 1000000 ∧ Q (.tup (a ++ b))
  | _, _ => dAdd x y Q
section
variable {K : Cz} {W : WX}
def mSlT (me : DE) (lo hi : DO) : DE := fun xe ρ c Q => me xe ρ c fun d c1 => lo xe ρ c1 fun l c2 => hi xe ρ c2 fun u c3 => match d with
  | .tup xs => Q (.tup (cutD xs l u)) c3
  | _ => False
def dAny : DRL := fun ds Q => match ds with | [.lst l] => (∃ bs : List Bool, l = bs.map D.bl ∧ Q (.bl (bs.any id))) | _ => False
def ltD (x y : D) : Bool := PySem.W.dataLt (py x) (py y)
end
def leP (a b : V × D) : Bool := PySem.W.dataLe false (fun b : V × D => py b.2) a b
def leD (x y : D) : Bool := PySem.W.dataLe false py x y
def sortOk (l : List D) : Prop := l.length ≤ 1000000 ∧ (∀ d ∈ l, D.ok 60 d = true ∧ (py d).depth ≤ 60) ∧ PySem.W.AllAlike (l.map py) ∧ PySem.W.Sortable (l.map py)
def rSortD (K : PySem.W.Frag) : List V → Hp → VK → Prop := fun vs H Q => ∃ (a : Addr) (bs : List (V × D)), vs = [V.ref a] ∧ SqL K H a (bs.map (·.1)) ∧ (∀ b ∈ bs, Dp K H b.1 (py b.2)) ∧ sortOk (bs.map (·.2)) ∧
  ∀ p : Addr, H p = none → Q (.ref p) (upd H p (.lst ((bs.mergeSort leP).map (·.1))))
theorem eachV : ∀ {bs : List (V × D)} {its : List Value}, Vals (bs.map (·.1)) its → PySem.W.EachIs (fun v (b : V × D) => RelV b.1 v) its bs
  | [], _, h => by cases h; exact .nil
  | b :: bs, _, h => by
    cases h with
    | cons h1 h2 => exact .cons h1 (eachV h2)
theorem backV2 : ∀ {bs : List (V × D)} {its : List Value}, PySem.W.EachIs (fun v (b : V × D) => RelV b.1 v) its bs → Vals (bs.map (·.1)) its
  | _, _, .nil => .nil
  | _, _, .cons h1 h2 => .cons h1 (backV2 h2)
theorem eachR {X : Cx} {pins : List (Addr × Obj)} {σ : St} {H : Hp} {s : Shared} (I : Inv X pins σ H s) : ∀ {bs : List (V × D)} {its : List Value}, (∀ b ∈ bs, Dp X.K H b.1 (py b.2)) → Vals (bs.map (·.1)) its → PySem.W.EachIs (fun v (b : V × D) => ∃ as, PySem.Reads s.heap v (py b.2) as) its bs
  | [], _, _, h => by cases h; exact .nil
  | b :: bs, _, hd, h => by
    cases h with
    | cons h1 h2 => exact .cons (Dp.reads I _ _ _ (hd b (by simp)) h1) (eachR I (fun b hb => hd b (by simp [hb])) h2)
theorem cr_sortD {X : Cx} (hu : X.A.units + 64 < cLine) : CallR X (.builtin "sorted") (rSortD X.K) := by
  intro pins s σ H vs us Q I r h
  obtain ⟨a, bs, rfl, hs, hd, ⟨hl1, hok, hal, hst⟩, q⟩ := h
  obtain ⟨its, rv, hl, hz⟩ := I.list hs
  rw [Vals.ref1 r]
  have e2 : (bs.map (·.2)).map py = bs.map fun b => py b.2 := by rw [List.map_map]; rfl
  rw [e2] at hal hst
  refine PySem.W.sorted_data (R := fun v (b : V × D) => RelV b.1 v) (enc := fun b => py b.2) (bs := bs) hl.isList (eachV rv) (eachR I hd rv) hal hst (by rw [List.length_map] at hl1; exact Nat.le_trans hl1 (by decide)) (fun b hb => ?_) fun out h1 h2 => ?_
  · have := (hok b.2 (List.mem_map.mpr ⟨b, hb, rfl⟩)).2
    omega
  · obtain ⟨ep, he'⟩ := PyProof.Rows.sortedAll_at s.heap its out.toArray
    have rb := backV2 h2
    have hlen : ((bs.mergeSort leP).map (·.1)).length ≤ sizeLine := by
      rw [List.length_map, (List.mergeSort_perm bs leP).length_eq]
      rw [List.length_map] at hl1
      exact Nat.le_trans hl1 (by decide)
    exact ⟨.ref _, upd H (s.heap.objs.size + 1) (.lst ((bs.mergeSort leP).map (·.1))), I.laid (t' := s.toks) (fun _ _ => PyProof.Rows.sortedAll_old) (Nat.le_succ _) ⟨hlen, out, ep, rb, he'⟩, rfl, q _ (I.hok.fresh (Nat.le_succ _))⟩
section
variable {K : Cz} {W : WX}
def dSortD : DRL := fun ds Q => match ds with | [.lst l] => sortOk l ∧ Q (.lst (l.mergeSort leD)) | _ => False
theorem zip_rp {p : Addr} {G : Hp} : ∀ {xs : List V} {l : List D}, RpL K p G xs l → (xs.zip l).map (·.1) = xs ∧ (xs.zip l).map (·.2) = l ∧ ∀ b ∈ xs.zip l, Rp K p G b.1 b.2
  | _, [], r => by cases r; exact ⟨rfl, rfl, by simp⟩
  | _, d :: l, r => by
    cases r with
    | cons h1 h2 =>
      obtain ⟨a1, a2, a3⟩ := zip_rp h2
      refine ⟨by simp [a1], by simp [a2], fun b hb => ?_⟩
      rw [List.zip_cons_cons] at hb
      rcases List.mem_cons.mp hb with rfl | hb
      · exact h1
      · exact a3 b hb
theorem rp_zip {p : Addr} {G : Hp} : ∀ {bs : List (V × D)}, (∀ b ∈ bs, Rp K p G b.1 b.2) → RpL K p G (bs.map (·.1)) (bs.map (·.2))
  | [], _ => .nil
  | b :: bs, h => .cons (h b (by simp)) (rp_zip fun b hb => h b (by simp [hb]))
theorem srl_sortD : SimRL K (rSortD K.K) dSortD := by
  intro p c G H xs ds Q post w r m k
  unfold dSortD at m
  split at m
  · rename_i l
    obtain ⟨v, rfl, r1⟩ := r.one
    cases r1 with
    | @lst a zs _ h1 h2 =>
      obtain ⟨ok, m⟩ := m
      obtain ⟨a1, a2, a3⟩ := zip_rp h2
      refine ⟨a, zs.zip l, rfl, by rw [a1]; exact sq_of (w.sub _ _ h1), fun b hb => ?_, by rw [a2]; exact ok, fun q hq => ?_⟩
      · exact dp_of w.sub 60 b.2 b.1 (ok.2.1 b.2 (by rw [← a2]; exact List.mem_map.mpr ⟨b, hb, rfl⟩)).1 (a3 b hb)
      · have e : ((zs.zip l).mergeSort leP).map (·.2) = l.mergeSort leD := by
          have := List.map_mergeSort (r := leP) (s := leD) (f := (·.2)) (l := zs.zip l) (fun a _ b _ => rfl)
          rw [this, a2]
        have r2 : RpL K p G (((zs.zip l).mergeSort leP).map (·.1)) (l.mergeSort leD) := by
          rw [← e]
          exact rp_zip fun b hb => a3 b ((List.mergeSort_perm _ _).mem_iff.mp hb)
        exact k _ _ _ _ m (Grow.laid hq w.sub) (w.laid hq) (.lst upd_same (r2.up (Grow.laid (p := p) hq w.sub).ex))
  · exact m.elim
end
end Dm

namespace Dm
open PySem L2 Evl
open PyProof.Rows (envOfC)
def fD (fs : List (Str × T)) : List (Str × D) := fs.map fun x => (x.1, x.2.d)
def fput (f : Str) (t : T) : List (Str × T) → List (Str × T)
  | [] => [(f, t)]
  | (g, x) :: r => if g = f then (g, t) :: r else (g, x) :: fput f t r
section
variable {K : Cz} {p : Addr} {G H G' H' : Hp}
end
section
variable {K : Cz} {W : WX} {p : Addr} {G0 H0 G H G' H' : Hp} {c c' : Nat} {σ : St} {ρ : Ro} {T : CTab}
theorem EnvR.ob {i : Nat} {a : Addr} {nm : Str} {fs : List (Str × Dm.T)} (h : EnvR K p H0 G H σ ρ) (e : ρ[i]? = some (.ob a nm fs)) : σ[i]? = some (some (.ref a)) ∧ ObR K p G H a nm fs ∧ ∀ b, b = a ∨ b ∈ fas fs → G b = none ∧ H0 b = none ∧ b ≠ p := by
  obtain ⟨o, h1, h2⟩ := h.get e
  cases h2 with
  | ob r f => exact ⟨h1, r, f⟩
/-- self.f, shared data -/
def mObF (T : CTab) (i : Nat) (f : Str) : DE := fun _ ρ c Q => match ρ[i]? with
  | some (.ob _ nm fs) => hasF T nm f = true ∧ (match fs.lookup f with | some (.lf d) => Q d c | _ => False)
  | _ => False
def mTmBE (i : Nat) (me : DE) : DE := fun xe ρ c Q => match ρ[i]? with
  | some (.ob _ nm fs) => me (fun _ _ _ => False) (ρ.set i (.sh (.ins nm (fD fs)))) c fun d c1 => d.scal = true ∧ Q d c1
  | _ => False
def mTmBT (i : Nat) (mt : DT) : DT := fun xe ρ c Q => match ρ[i]? with
  | some (.ob _ nm fs) => mt (fun _ _ _ => False) (ρ.set i (.sh (.ins nm (fD fs)))) c Q
  | _ => False
def mTmBO (i : Nat) (mo : DL) : DL := fun xe ρ c Q => match ρ[i]? with
  | some (.ob _ nm fs) => mo (fun _ _ _ => False) (ρ.set i (.sh (.ins nm (fD fs)))) c fun l c1 => allSc l = true ∧ Q l c1
  | _ => False
/-- the instance is shared from now on -/
def mFrzB (i : Nat) (m : DS) : DS := fun xe E ρ c => match ρ[i]? with | some (.ob _ nm fs) => m xe E (ρ.set i (.sh (.ins nm (fD fs)))) c | _ => False
/-- a field is shared from now on -/
def mFrzF (i : Nat) (f : Str) (m : DS) : DS := fun xe E ρ c => match ρ[i]? with
  | some (.ob a nm fs) => (match fs.lookup f with | some t => m xe E (ρ.set i (.ob a nm (fput f (.lf t.d) fs))) c | none => False)
  | _ => False
end
end Dm

namespace Dm
open PySem L2 Evl
open PyProof.Rows (envOfC)
section
variable {K : Cz} {W : WX} {p : Addr} {G0 H0 G H G' H' : Hp} {c c' : Nat} {σ : St} {ρ : Ro} {Z : CTab}
/-- self.f = e, shared -/
def mSetBD (Z : CTab) (i : Nat) (f : Str) (me : DE) : DS := fun xe E ρ c => me xe ρ c fun d c1 => match ρ[i]? with
  | some (.ob a nm fs) => (hasF Z nm f = true ∧ fs.length < 1000) ∧ E.nx (ρ.set i (.ob a nm (fput f (.lf d) fs))) c1
  | _ => False
/-- self.f = a list of one's own -/
def mSetBT (Z : CTab) (i : Nat) (f : Str) (mt : DTr) : DS := fun xe E ρ c => mt xe ρ c fun t c1 => match ρ[i]? with
  | some (.ob a nm fs) => (hasF Z nm f = true ∧ fs.length < 1000) ∧ E.nx (ρ.set i (.ob a nm (fput f t fs))) c1
  | _ => False
/-- self.f.append(e) -/
def mAppB (Z : CTab) (i : Nat) (f : Str) (me : DE) : DS := fun xe E ρ c => match ρ[i]? with
  | some (.ob a nm fs) => hasF Z nm f = true ∧ (match fs.lookup f with
    | some (.ls b ts) => ts.length < 1000000 ∧ me xe ρ c fun d c1 => E.nx (ρ.set i (.ob a nm (fput f (.ls b (ts ++ [.lf d])) fs))) c1
    | _ => False)
  | _ => False
/-- self.f[j] = e -/
def mSetIB (Z : CTab) (i : Nat) (f : Str) (mj me : DE) : DS := fun xe E ρ c => match ρ[i]? with
  | some (.ob a nm fs) => hasF Z nm f = true ∧ (match fs.lookup f with
    | some (.ls b ts) => me xe ρ c fun d c1 => mj xe ρ c1 fun j c2 => match j with
      | .int k => ∃ n d0, ixN ts.length k = some n ∧ ts[n]? = some (.lf d0) ∧ E.nx (ρ.set i (.ob a nm (fput f (.ls b (ts.set n (.lf d))) fs))) c2
      | _ => False
    | _ => False)
  | _ => False
end
/-- arguments, fields, draws so far; wished: the answer, the fields -/
abbrev DFB := List D → List (Str × T) → Nat → (D → List (Str × T) → Nat → Prop) → Prop
section
variable {K : Cz} {W : WX}
end
section
variable {P : Program} {w : World} {K : PySem.W.Frag} {mg : Str → Option Value} {base : Heap}
end
section
variable {K : Cz} {W : WX}
/-- self.m(..), the answer not looked at; .. stored in slot j -/
def mBCall (i : Nat) (nm m : Str) (f : DFB) (ma : DL) : DS := fun xe E ρ c => match ρ[i]? with
  | some (.ob a nm' fs) => (nm' = nm ∧ fs.lookup m = none) ∧ ma xe ρ c fun ds c1 => f ds fs c1 fun _ fs' c2 => E.nx (ρ.set i (.ob a nm fs')) c2
  | _ => False
def mBCallA (i : Nat) (nm m : Str) (f : DFB) (ma : DL) (j : Nat) : DS := fun xe E ρ c => match ρ[i]? with
  | some (.ob a nm' fs) => (nm' = nm ∧ fs.lookup m = none) ∧ ma xe ρ c fun ds c1 => f ds fs c1 fun d fs' c2 => E.nx ((ρ.set i (.ob a nm fs')).set j (.sh d)) c2
  | _ => False
end
abbrev DIB := List D → Nat → (List (Str × T) → Nat → Prop) → Prop
section
variable {P : Program} {w : World} {K : PySem.W.Frag} {mg : Str → Option Value} {base : Heap}
end
section
variable {K : Cz} {W : WX}
def mMakeB (nm : Str) (f : DIB) (ma : DL) (i : Nat) : DS := fun xe E ρ c => ma xe ρ c fun ds c1 => f ds c1 fun fs c2 => ∀ a, E.nx (ρ.set i (.ob a nm fs)) c2
end
end Dm

namespace Dm
open PySem L2 Evl
def repOk (a : List D) (k : Int) : Prop := (-1000000 ≤ k ∧ k ≤ 1000000) ∧ a.length * k.toNat ≤ 1000000
def dMulA : DR2 := fun x y Q => match x, y with
  | .lst a, .int k => repOk a k ∧ Q (.lst (List.replicate k.toNat a).flatten)
  | _, _ => dI CMulW (fun i j => i * j) x y Q
section
variable {K : Cz} {W : WX}
/-- a new list of one's own -/
def mRepO (ma mb : DE) : DL := fun xe ρ c Q => ma xe ρ c fun x c1 => mb xe ρ c1 fun y c2 => match x, y with
  | .lst a, .int k => repOk a k ∧ Q (List.replicate k.toNat a).flatten c2
  | _, _ => False
end
end Dm

namespace Dm
open PySem L2 Evl
section
variable {K : Cz}
def dInS : DR2 := fun x y Q => match x with | .str i => dSeq y fun l => ∃ ns : List Str, l = ns.map D.str ∧ Q (.bl (decide (i ∈ ns))) | _ => False
end
end Dm

namespace Dm
open PySem L2 Evl
section
variable {K : Cz}
def dNotInS : DR2 := fun x y Q => match x with | .str i => dSeq y fun l => ∃ ns : List Str, l = ns.map D.str ∧ Q (.bl (!decide (i ∈ ns))) | _ => False
variable {W : WX}
def mAsgF2 (f : DF) (ma : DL) (i j : Nat) : DS := fun xe E ρ c => ma xe ρ c fun ds c1 => f (fun _ _ => False) ds c1 fun d c2 => ∃ x l, d = .tup [x, .lst l] ∧ x.scal = true ∧ ∀ F, E.nx ((ρ.set i (.sh x)).set j (.frs F (.lst l))) c2
/-- a new value of a variable, handed out -/
def mVarFr (i : Nat) : DE := fun _ ρ c Q => match ρ[i]? with | some (.frs _ d) => Q d c | _ => False
/-- a list of one's own out of what a new value has; its items are numbers, texts -/
def mTmpO (i : Nat) (mo : DL) : DL := fun xe ρ c Q => match ρ[i]? with
  | some (.own l) => mo (fun _ _ _ => False) (ρ.set i (.sh (.lst l))) c fun l c1 => allSc l = true ∧ Q l c1
  | some (.frs _ d) => mo (fun _ _ _ => False) (ρ.set i (.sh d)) c fun l c1 => allSc l = true ∧ Q l c1
  | _ => False
theorem sim_tmpO {i : Nat} {te : TE} {mo : DL} (h : SimO K (fun _ _ _ _ => False) te mo) : SimO K W te (mTmpO i mo) := by
  intro p G0 H0 c G H σ ρ xe Q post ws xc m k
  unfold mTmpO at m
  split at m
  · rename_i l e
    obtain ⟨F, hF, ws'⟩ := ws.freeze e
    refine h p G0 H0 c _ H σ _ (fun _ _ _ => False) _ _ ws' (fun _ _ _ _ _ _ _ _ _ _ z => z) m fun l c1 a xs G1 H1 m1 g1 w1 ha hg hh r1 => ?_
    obtain ⟨w2, g2⟩ := ws.wd.back (mg_ex hF) g1 w1
    exact k l c1 a xs G H1 m1.2 g2 w2 ha (ws.fresh0 ha).2.2 hh (r1.scalar m1.1)
  · rename_i F d e
    have ws' := ws.freezeF e
    obtain ⟨v, e2, hf, r⟩ := ws.en.frs e
    refine h p G0 H0 c _ H σ _ (fun _ _ _ => False) _ _ ws' (fun _ _ _ _ _ _ _ _ _ _ z => z) m fun l c1 a xs G1 H1 m1 g1 w1 ha hg hh r1 => ?_
    obtain ⟨w2, g2⟩ := ws.wd.back (mg_ex fun a o q => (hf a o q).1) g1 w1
    exact k l c1 a xs G H1 m1.2 g2 w2 ha (ws.fresh0 ha).2.2 hh (r1.scalar m1.1)
  · exact m.elim
/-- a change in what a slot has of its own -/
theorem WS.change {p : Addr} {G0 H0 G H : Hp} {c : Nat} {σ : St} {ρ : Ro} {i : Nat} {v : V} {F : Hp} {d d' : D} {a : Addr} {o u : HO} (h : WS K p G0 H0 c G H σ ρ) (e2 : σ[i]? = some (some v)) (e : ρ[i]? = some (.frs F d)) (ha : F a = some o) (r' : RpN K p G (upd F a u) v d') : WS K p G0 H0 c G (upd H a u) σ (ρ.set i (.frs (upd F a u) d')) := by
  have il : i < ρ.length := (List.getElem?_eq_some_iff.mp e).1
  obtain ⟨v', e2', hf, r⟩ := h.en.frs e
  rw [e2] at e2'; cases e2'
  obtain ⟨hg, n0, np, hh⟩ := hf a o ha
  have up : ∀ b, upd F a u b ≠ none → F b ≠ none := fun b q => by
    by_cases z : b = a
    · subst z; rw [ha]; exact nofun
    · rwa [upd_ne z] at q
  have rg : ∀ b, (S.frs (upd F a u) d').reg (some v) b → (S.frs F d).reg (some v) b := fun b q => by
    have q' : upd F a u b ≠ none := by cases v <;> exact q
    have := up b q'
    cases v <;> exact this
  have ra : (S.frs F d).reg (some v) a := by
    have : F a ≠ none := by rw [ha]; exact nofun
    cases v <;> exact this
  have no_of : ∀ (j : Nat) (s : S), (ρ.set i (.frs (upd F a u) d'))[j]? = some s → (j = i ∧ s = .frs (upd F a u) d') ∨ (j ≠ i ∧ ρ[j]? = some s) := fun j s q => by
    by_cases z : i = j
    · subst z; rw [List.getElem?_set_self il] at q; cases q; exact .inl ⟨rfl, rfl⟩
    · rw [List.getElem?_set_ne z] at q; exact .inr ⟨Ne.symm z, q⟩
  refine ⟨⟨h.gr.ex, h.gr.new, fun b w hb q => ?_, fun zs q => ?_⟩, ⟨fun b w q => ?_, h.wd.gp, h.wd.pl.of (Ex.refl _) fun w q => by rw [upd_ne np.symm]; exact q⟩, by simp [h.en.len], fun j o' s q1 q2 => ?_, fun j k o1 o2 s s' ne q1 q2 q3 q4 b z y => ?_⟩
  · rw [upd_ne (ne_of_none q n0)]; exact h.gr.keep b w hb q
  · obtain ⟨us, h1, h2⟩ := h.gr.pc zs q
    exact ⟨us, by rw [upd_ne np.symm]; exact h1, h2⟩
  · rw [upd_ne (ne_of_none q hg)]; exact h.wd.sub b w q
  · rcases no_of j s q2 with ⟨rfl, rfl⟩ | ⟨nj, q2⟩
    · rw [e2] at q1; cases q1
      refine .frs (fun b w q => ?_) r'
      by_cases z : b = a
      · subst z; rw [upd_same] at q; cases q; exact ⟨hg, n0, np, upd_same⟩
      · rw [upd_ne z] at q
        obtain ⟨y1, y2, y3, y4⟩ := hf b w q
        exact ⟨y1, y2, y3, by rw [upd_ne z]; exact y4⟩
    · exact (h.en.sl j o' s q1 q2).apart fun y => h.en.dis i j _ o' _ s (Ne.symm nj) e2 e q1 q2 a ra y
  · rcases no_of j s q2 with ⟨rfl, rfl⟩ | ⟨nj, r2⟩
    · rw [e2] at q1; cases q1
      rcases no_of k s' q4 with ⟨rfl, rfl⟩ | ⟨_, r4⟩
      · exact ne rfl
      · exact h.en.dis j k _ o2 _ s' ne e2 e q3 r4 b (rg b z) y
    · rcases no_of k s' q4 with ⟨rfl, rfl⟩ | ⟨_, r4⟩
      · rw [e2] at q3; cases q3
        exact h.en.dis j k o1 _ s _ ne q1 r2 e2 e b z (rg b y)
      · exact h.en.dis j k o1 o2 s s' ne q1 r2 q3 r4 b z y
/-- x = told[k]; x.append(e), told new, its other items numbers or texts -/
def mSpoilF (i j : Nat) (k : Int) (me : DE) (m3 : DS) : DS := fun xe E ρ c => match ρ[i]? with
  | some (.frs _ (.tup l)) => (match ixN l.length k with
    | some n => ∃ l', l[n]? = some (.lst l') ∧ (allSc l' = true ∧ ∀ (q : Nat) (d : D), l[q]? = some d → q ≠ n → d.scal = true) ∧ (l'.length < 1000000 ∧ i ≠ j ∧ j < ρ.length) ∧
        me xe (ρ.set j .no) c fun d c1 => d.scal = true ∧ ∀ F, m3 xe E ((ρ.set j .no).set i (.frs F (.tup (l.set n (.lst (l' ++ [d])))))) c1
    | none => False)
  | _ => False
def rngC (c : Int) (n : Nat) : List D := (List.range n).map fun i => .int (0 + (i : Nat) * c)
def mRng3 (ma : DL) : DL := fun xe ρ c Q => ma xe ρ c fun ds c1 => match ds with
  | [.int i, .int j, .int k] => ∃ n c : Nat, i = 0 ∧ j = ((n * c : Nat) : Int) ∧ k = c ∧ 0 < c ∧ c ≤ 1000 ∧ n ≤ 1000 ∧ Q (rngC k n) c1
  | _ => False
def dNotInD : DR2 := fun x y Q => match y with | .lst l => (D.ok 60 x = true ∧ D.ok 60 (.lst l) = true) ∧ Q (.bl (!l.any fun z => D.eqv z x)) | _ => False
end
end Dm

namespace Dm
open PySem L2 Evl
section
variable {K : Cz} {W : WX}
end
end Dm

namespace Dm
open PySem L2 Evl
mutual
def T.sc : T → Bool
  | .lf d => d.scal
  | .ls _ ts => T.scL ts
def T.scL : List T → Bool
  | [] => true
  | t :: ts => T.sc t && T.scL ts
end
section
variable {K : Cz} {p : Addr} {G G' H : Hp}
mutual
theorem TrR.scalar : ∀ (t : T) (v : V), T.sc t = true → TrR K p G H v t → TrR K p G' H v t
  | .lf d, _, e, h => by cases h with | lf r => exact .lf (r.scalar (by simpa [T.sc] using e))
  | .ls a ts, _, e, h => by cases h with | ls h1 h2 => exact .ls h1 (TrRL.scalar ts _ (by simpa [T.sc] using e) h2)
theorem TrRL.scalar : ∀ (ts : List T) (vs : List V), T.scL ts = true → TrRL K p G H vs ts → TrRL K p G' H vs ts
  | [], _, _, h => by cases h; exact .nil
  | t :: ts, _, e, h => by
    cases h with
    | cons h1 h2 =>
      unfold T.scL at e
      rw [Bool.and_eq_true] at e
      exact .cons (TrR.scalar t _ e.1 h1) (TrRL.scalar ts _ e.2 h2)
end
end
section
variable {K : Cz} {W : WX}
/-- x += number -/
def mAugI (i : Nat) (f : Int → Int → Int) (me : DE) : DS := fun xe E ρ c => match ρ[i]? with
  | some (.sh (.int a)) => me xe ρ c fun d c1 => match d with
    | .int b => E.nx (ρ.set i (.sh (.int (f a b)))) c1
    | _ => False
  | _ => False
end
end Dm

namespace Dm
open PySem L2 Evl
theorem typeCall_zipN : ∀ vs : List Value, vs.length ≤ 24 → checkTypeCall "zip" ⟨vs, []⟩ = pure ()
  | [], _ => by kernel_rfl
  | [_], _ => by kernel_rfl
  | [_, _], _ => by kernel_rfl
  | [_, _, _], _ => by kernel_rfl
  | [_, _, _, _], _ => by kernel_rfl
  | [_, _, _, _, _], _ => by kernel_rfl
  | [_, _, _, _, _, _], _ => by kernel_rfl
  | [_, _, _, _, _, _, _], _ => by kernel_rfl
  | [_, _, _, _, _, _, _, _], _ => by kernel_rfl
  | [_, _, _, _, _, _, _, _, _], _ => by kernel_rfl
  | [_, _, _, _, _, _, _, _, _, _], _ => by kernel_rfl
  | [_, _, _, _, _, _, _, _, _, _, _], _ => by kernel_rfl
  | [_, _, _, _, _, _, _, _, _, _, _, _], _ => by kernel_rfl
  | [_, _, _, _, _, _, _, _, _, _, _, _, _], _ => by kernel_rfl
  | [_, _, _, _, _, _, _, _, _, _, _, _, _, _], _ => by kernel_rfl
  | [_, _, _, _, _, _, _, _, _, _, _, _, _, _, _], _ => by kernel_rfl
  | [_, _, _, _, _, _, _, _, _, _, _, _, _, _, _, _], _ => by kernel_rfl
  | [_, _, _, _, _, _, _, _, _, _, _, _, _, _, _, _, _], _ => by kernel_rfl
  | [_, _, _, _, _, _, _, _, _, _, _, _, _, _, _, _, _, _], _ => by kernel_rfl
  | [_, _, _, _, _, _, _, _, _, _, _, _, _, _, _, _, _, _, _], _ => by kernel_rfl
  | [_, _, _, _, _, _, _, _, _, _, _, _, _, _, _, _, _, _, _, _], _ => by kernel_rfl
  | [_, _, _, _, _, _, _, _, _, _, _, _, _, _, _, _, _, _, _, _, _], _ => by kernel_rfl
  | [_, _, _, _, _, _, _, _, _, _, _, _, _, _, _, _, _, _, _, _, _, _], _ => by kernel_rfl
  | [_, _, _, _, _, _, _, _, _, _, _, _, _, _, _, _, _, _, _, _, _, _, _], _ => by kernel_rfl
  | [_, _, _, _, _, _, _, _, _, _, _, _, _, _, _, _, _, _, _, _, _, _, _, _], _ => by kernel_rfl
  | _ :: _ :: _ :: _ :: _ :: _ :: _ :: _ :: _ :: _ :: _ :: _ :: _ :: _ :: _ :: _ :: _ :: _ :: _ :: _ :: _ :: _ :: _ :: _ :: _ :: _, h => absurd h (by simp only [List.length_cons]; omega)
theorem newCall_zipN : ∀ vs : List Value, vs.length ≤ 24 → checkBuiltinCall "zip.__new__" ⟨.type "zip" :: vs, []⟩ = pure ()
  | [], _ => by kernel_rfl
  | [_], _ => by kernel_rfl
  | [_, _], _ => by kernel_rfl
  | [_, _, _], _ => by kernel_rfl
  | [_, _, _, _], _ => by kernel_rfl
  | [_, _, _, _, _], _ => by kernel_rfl
  | [_, _, _, _, _, _], _ => by kernel_rfl
  | [_, _, _, _, _, _, _], _ => by kernel_rfl
  | [_, _, _, _, _, _, _, _], _ => by kernel_rfl
  | [_, _, _, _, _, _, _, _, _], _ => by kernel_rfl
  | [_, _, _, _, _, _, _, _, _, _], _ => by kernel_rfl
  | [_, _, _, _, _, _, _, _, _, _, _], _ => by kernel_rfl
  | [_, _, _, _, _, _, _, _, _, _, _, _], _ => by kernel_rfl
  | [_, _, _, _, _, _, _, _, _, _, _, _, _], _ => by kernel_rfl
  | [_, _, _, _, _, _, _, _, _, _, _, _, _, _], _ => by kernel_rfl
  | [_, _, _, _, _, _, _, _, _, _, _, _, _, _, _], _ => by kernel_rfl
  | [_, _, _, _, _, _, _, _, _, _, _, _, _, _, _, _], _ => by kernel_rfl
  | [_, _, _, _, _, _, _, _, _, _, _, _, _, _, _, _, _], _ => by kernel_rfl
  | [_, _, _, _, _, _, _, _, _, _, _, _, _, _, _, _, _, _], _ => by kernel_rfl
  | [_, _, _, _, _, _, _, _, _, _, _, _, _, _, _, _, _, _, _], _ => by kernel_rfl
  | [_, _, _, _, _, _, _, _, _, _, _, _, _, _, _, _, _, _, _, _], _ => by kernel_rfl
  | [_, _, _, _, _, _, _, _, _, _, _, _, _, _, _, _, _, _, _, _, _], _ => by kernel_rfl
  | [_, _, _, _, _, _, _, _, _, _, _, _, _, _, _, _, _, _, _, _, _, _], _ => by kernel_rfl
  | [_, _, _, _, _, _, _, _, _, _, _, _, _, _, _, _, _, _, _, _, _, _, _], _ => by kernel_rfl
  | [_, _, _, _, _, _, _, _, _, _, _, _, _, _, _, _, _, _, _, _, _, _, _, _], _ => by kernel_rfl
  | _ :: _ :: _ :: _ :: _ :: _ :: _ :: _ :: _ :: _ :: _ :: _ :: _ :: _ :: _ :: _ :: _ :: _ :: _ :: _ :: _ :: _ :: _ :: _ :: _ :: _, h => absurd h (by simp only [List.length_cons]; omega)
theorem args_oiN (obj : Value) : ∀ vs : List Value, vs.length ≤ 24 → argsOk "object.__init__" ⟨obj :: vs, []⟩
  | [], _ => by kernel_rfl
  | [_], _ => by kernel_rfl
  | [_, _], _ => by kernel_rfl
  | [_, _, _], _ => by kernel_rfl
  | [_, _, _, _], _ => by kernel_rfl
  | [_, _, _, _, _], _ => by kernel_rfl
  | [_, _, _, _, _, _], _ => by kernel_rfl
  | [_, _, _, _, _, _, _], _ => by kernel_rfl
  | [_, _, _, _, _, _, _, _], _ => by kernel_rfl
  | [_, _, _, _, _, _, _, _, _], _ => by kernel_rfl
  | [_, _, _, _, _, _, _, _, _, _], _ => by kernel_rfl
  | [_, _, _, _, _, _, _, _, _, _, _], _ => by kernel_rfl
  | [_, _, _, _, _, _, _, _, _, _, _, _], _ => by kernel_rfl
  | [_, _, _, _, _, _, _, _, _, _, _, _, _], _ => by kernel_rfl
  | [_, _, _, _, _, _, _, _, _, _, _, _, _, _], _ => by kernel_rfl
  | [_, _, _, _, _, _, _, _, _, _, _, _, _, _, _], _ => by kernel_rfl
  | [_, _, _, _, _, _, _, _, _, _, _, _, _, _, _, _], _ => by kernel_rfl
  | [_, _, _, _, _, _, _, _, _, _, _, _, _, _, _, _, _], _ => by kernel_rfl
  | [_, _, _, _, _, _, _, _, _, _, _, _, _, _, _, _, _, _], _ => by kernel_rfl
  | [_, _, _, _, _, _, _, _, _, _, _, _, _, _, _, _, _, _, _], _ => by kernel_rfl
  | [_, _, _, _, _, _, _, _, _, _, _, _, _, _, _, _, _, _, _, _], _ => by kernel_rfl
  | [_, _, _, _, _, _, _, _, _, _, _, _, _, _, _, _, _, _, _, _, _], _ => by kernel_rfl
  | [_, _, _, _, _, _, _, _, _, _, _, _, _, _, _, _, _, _, _, _, _, _], _ => by kernel_rfl
  | [_, _, _, _, _, _, _, _, _, _, _, _, _, _, _, _, _, _, _, _, _, _, _], _ => by kernel_rfl
  | [_, _, _, _, _, _, _, _, _, _, _, _, _, _, _, _, _, _, _, _, _, _, _, _], _ => by kernel_rfl
  | _ :: _ :: _ :: _ :: _ :: _ :: _ :: _ :: _ :: _ :: _ :: _ :: _ :: _ :: _ :: _ :: _ :: _ :: _ :: _ :: _ :: _ :: _ :: _ :: _ :: _, h => absurd h (by simp only [List.length_cons]; omega)
def TupAt (h : Heap) (T : Addr) (vs : List Value) : Prop := h.get? T = some { cls := .type "tuple", data := .seq vs.toArray }
/-- a zip object: the flag of its tuple (none, or an address) -/
def ZipF (h : Heap) (z TI TO : Addr) (f0 : Value) (f1 : Bool) : Prop := h.get? z = some { cls := .type "zip", dict := none, data := .fields #[f0, .bool f1, .bool false, .ref TI, .ref TO], slots := #[] }
/-- a zip over lists and tuples, laid from N on: their iterators, the tuple of these, the tuple that is handed out, itself -/
structure ZnAt (N : Nat) (ls : List (Bool × Addr)) (i : Nat) (h : Heap) : Prop where
  hz : ∃ f0 f1, ZipF h (N + ls.length + 2) (N + ls.length) (N + ls.length + 1) f0 f1 ∧ (f0 = .none ∨ ∃ a : Nat, f0 = rawInt a)
  hi : TupAt h (N + ls.length) ((List.range ls.length).map fun k => .ref (N + k))
  ho : ∃ vs : List Value, vs.length = ls.length ∧ TupAt h (N + ls.length + 1) vs
  it : ∀ k κ a, ls[k]? = some (κ, a) → IterB κ h (N + k) a i
section
variable {prog : Program} {w : World} {A : Around} {E : Value → Shared → Prop} {s : Shared} {N i : Nat} {ls : List (Bool × Addr)} {vss : List (List Value)}
theorem adn {a b : Nat} (h : a < b ∨ b < a) : a ≠ b := by omega
/-- while the iterators are asked: j of them have answered -/
structure ZnMid (N : Nat) (ls : List (Bool × Addr)) (i : Nat) (hp : Heap) (j : Nat) (h : Heap) : Prop where
  bef : ∀ k κ a, ls[k]? = some (κ, a) → k < j → IterB κ h (N + k) a (i + 1)
  beh : ∀ k κ a, ls[k]? = some (κ, a) → j ≤ k → IterB κ h (N + k) a i
  same : ∀ c, c < N ∨ c = N + ls.length ∨ N + ls.length + 2 < c → h.get? c = hp.get? c
  size : h.objs.size = hp.objs.size
/-- what j of them answered -/
def ZnGot (vss : List (List Value)) (i j : Nat) (xs : List Value) : Prop := xs.length = j ∧ ∀ k l, vss[k]? = some l → k < j → xs[k]? = l[i]?
theorem ZnMid.step {N : Nat} {ls : List (Bool × Addr)} {i : Nat} {hp h p q : Heap} {k : Nat} {κ : Bool} {a : Addr} (M : ZnMid N ls i hp k h) (hl : ls[k]? = some (κ, a)) (sn : IterB κ p (N + k) a (i + 1)) (hp1 : Heap.SameBut (N + k) h p) (hq : Heap.SameBut (N + ls.length + 1) p q) : ZnMid N ls i hp (k + 1) q := by
  have hkl := (List.getElem?_eq_some_iff.mp hl).1
  refine ⟨fun k' κ' a' hk' hlt' => ?_, fun k' κ' a' hk' hge => ?_, fun c hc => ?_, by rw [hq.1, hp1.1]; exact M.size⟩
  · by_cases z : k' = k
    · subst z
      rw [hl] at hk'; cases hk'
      exact sn.at fun o e => (hq.2 _ (adn (by omega))).trans e
    · exact (M.bef k' κ' a' hk' (by omega)).at fun o e => (hq.2 _ (adn (by have := (List.getElem?_eq_some_iff.mp hk').1; omega))).trans ((hp1.2 _ (adn (by omega))).trans e)
  · have := (List.getElem?_eq_some_iff.mp hk').1
    exact (M.beh k' κ' a' hk' (by omega)).at fun o e => (hq.2 _ (adn (by omega))).trans ((hp1.2 _ (adn (by omega))).trans e)
  · rw [hq.2 c (adn (by omega)), hp1.2 c (adn (by omega))]
    exact M.same c hc
theorem ZnGot.step {vss : List (List Value)} {i k : Nat} {xs : List Value} {l : List Value} {x : Value} (G : ZnGot vss i k xs) (hv : vss[k]? = some l) (hx : l[i]? = some x) : ZnGot vss i (k + 1) (xs ++ [x]) := by
  obtain ⟨hxs, hxv⟩ := G
  refine ⟨by simp [hxs], fun k' l' hk' hlt' => ?_⟩
  by_cases z : k' = k
  · subst z
    rw [hv] at hk'; cases hk'
    rw [List.getElem?_append_right (by omega), hxs, Nat.sub_self, hx]; rfl
  · rw [List.getElem?_append_left (by omega)]
    exact hxv k' l' hk' (by omega)
theorem zips_at {N n j : Nat} {it : Value} {k : Nat} {rest : List (Value × Nat)} (er : (it, k) :: rest = (((List.range n).map fun k => Value.ref (N + k)).zipIdx).drop j) : j < n ∧ it = .ref (N + j) ∧ k = j ∧ rest = (((List.range n).map fun k => Value.ref (N + k)).zipIdx).drop (j + 1) := by
  have hl0 : (((List.range n).map fun k => Value.ref (N + k)).zipIdx).length = n := by simp
  have hjl : j < n := by
    have := congrArg List.length er
    rw [List.length_drop, hl0] at this
    simp at this; omega
  rw [List.drop_eq_getElem_cons (by rw [hl0]; exact hjl)] at er
  injection er with e1 e2
  have e1 : it = Value.ref (N + j) ∧ k = j := by simpa using e1
  exact ⟨hjl, e1.1, e1.2, e2⟩
theorem its_at {N n j : Nat} {it : Value} {rest : List Value} (er : it :: rest = ((List.range n).map fun k => Value.ref (N + k)).drop j) : j < n ∧ it = .ref (N + j) ∧ rest = ((List.range n).map fun k => Value.ref (N + k)).drop (j + 1) := by
  have hl0 : ((List.range n).map fun k => Value.ref (N + k)).length = n := by simp
  have hjl : j < n := by
    have := congrArg List.length er
    rw [List.length_drop, hl0] at this
    simp at this; omega
  rw [List.drop_eq_getElem_cons (by rw [hl0]; exact hjl)] at er
  injection er with e1 e2
  have e1 : it = Value.ref (N + j) := by simpa using e1
  exact ⟨hjl, e1, e2⟩
theorem IsB.same {κ : Bool} {h h' : Heap} {a : Addr} {items : Array Value} (q : IsB κ h a items) (e : h'.get? a = h.get? a) : IsB κ h' a items := by
  cases κ with
  | false => exact Heap.IsList.at q fun o k => by rw [e]; exact k
  | true => exact Heap.IsTuple.at q fun o k => by rw [e]; exact k
theorem wpAny_alive {a : Addr} {Q : Option Obj → Shared → Prop} (h : Q (s.heap.get? a) s) : wpAny (model prog w) A (loadIfAlive a) Q E s := fun Γ p hΓ => h
theorem zipN_free {z TI TO : Addr} {f0 : Value} {f1 : Bool} {Q : Bool → Shared → Prop} (hz : ZipF s.heap z TI TO f0 f1) (hf : f0 = .none ∨ ∃ a : Nat, f0 = rawInt a) (hQ : ∀ b f2 h', ZipF h' z TI TO f0 f2 → Heap.SameBut z s.heap h' → Q b { s with heap := h' }) :
    wpAny (model prog w) A (Builtin.SmallTypes.ownedTupleIsFree (.ref z)) Q E s := by
  unfold Builtin.SmallTypes.ownedTupleIsFree
  refine wpAny_bind (wpAny_field hz rfl (x := f0) rfl ?_)
  have idn : Heap.SameBut z s.heap s.heap := ⟨rfl, fun _ _ => rfl⟩
  rcases hf with rfl | ⟨a, rfl⟩
  · exact wpAny_pure (hQ true f1 s.heap hz idn)
  · show wpAny _ _ (loadIfAlive ((a : Int).toNat) >>= _) _ _ _
    refine wpAny_bind (wpAny_alive ?_)
    cases q : s.heap.get? ((a : Int).toNat) with
    | none => exact wpAny_pure (hQ true f1 s.heap hz idn)
    | some o =>
      show wpAny _ _ (field (.ref z) 1 >>= _) _ _ _
      refine wpAny_bind (wpAny_field hz rfl (x := .bool f1) rfl ?_)
      cases f1 with
      | true => exact wpAny_pure (hQ false true s.heap hz idn)
      | false => exact wpAny_bind (wpAny_setField_rec hz (by simp) fun g0 hz0 hs0 => wpAny_pure (hQ false true g0 hz0 hs0))
theorem zipN_item {Q : Value → Shared → Prop} (hh : A.handled = none) (ne : ls ≠ []) (hs : ls.length ≤ 1000) (st : ZnAt N ls i s.heap) (lo : ∀ (k : Nat) κ a, ls[k]? = some (κ, a) → a < N ∧ ∃ l : List Value, vss[k]? = some l ∧ IsB κ s.heap a l.toArray ∧ i < l.length)
    (hQ : ∀ xs h' tk, ZnGot vss i ls.length xs → ZnAt N ls (i + 1) h' → TupAt h' s.heap.objs.size xs → h'.objs.size = s.heap.objs.size + 1 →
      (∀ c o, (c < N ∨ N + ls.length + 2 < c) → s.heap.get? c = some o → h'.get? c = some o) → Q (.ref s.heap.objs.size) { s with heap := h', toks := tk }) :
    wpAny (model prog w) A (Builtin.«zip.__next__» ⟨[.ref (N + ls.length + 2)], []⟩) (fun fin s' => ∃ v, fin = .done (.ret v) ∧ Q v s') E s := by
  obtain ⟨hp, g, d, tk0, os⟩ := s
  obtain ⟨⟨f0, f1, hz, hf⟩, hi, ⟨vs0, hv0, ho⟩, hit⟩ := st
  have n0 : 0 < ls.length := List.length_pos_iff.mpr ne
  have big : ls.length ≤ sizeLine := Nat.le_trans hs (by decide)
  show wpAny _ _ (field (.ref (N + ls.length + 2)) 2 >>= _) _ _ _
  refine wpAny_bind (wpAny_field hz rfl (x := .bool false) rfl (show wpAny _ _ (field (.ref (N + ls.length + 2)) 3 >>= _) _ _ _ from wpAny_bind (wpAny_field hz rfl (x := .ref (N + ls.length)) rfl ?_)))
  refine wpAny_bind (wpAny_seqItems hi rfl ?_)
  have em : ((List.range ls.length).map fun k => Value.ref (N + k)).toArray.isEmpty = false := by
    cases q : ls.length with
    | zero => omega
    | succ n => rw [List.range_succ_eq_map]; rfl
  dsimp only
  rw [em, if_neg (by decide)]
  refine wpAny_bind (zipN_free hz hf fun b f2 h1 hz1 hs1 => ?_)
  have mid0 : ∀ g0 : Heap, Heap.SameBut (N + ls.length + 2) h1 g0 → ZnMid N ls i hp 0 g0 := fun g0 hs0 => ⟨fun k κ a hk hlt => absurd hlt (Nat.not_lt_zero _), fun k κ a hk _ => by
    have := (List.getElem?_eq_some_iff.mp hk).1
    exact (hit k κ a hk).at fun o e => (hs0.2 _ (adn (by omega))).trans ((hs1.2 _ (adn (by omega))).trans e), fun c hc => (hs0.2 c (adn (by omega))).trans (hs1.2 c (adn (by omega))), hs0.1.trans hs1.1⟩
  have hz1' := hz1
  cases b with
  | true =>
    rw [if_pos rfl]
    refine wpAny_bind (wpAny_rule (wpAny_bind (wpAny_field hz1 rfl (x := .ref (N + ls.length + 1)) rfl (wpAny_bind (wpAny_setField_rec hz1 (by simp) fun g0 hz0 hs0 => ?_)))))
    refine wpAny_bind (wpAny_forIn_list _ (fun rest b s' => b = (none, ()) ∧ ∃ j h' tk xs, rest = (((List.range ls.length).map fun k => Value.ref (N + k)).zipIdx).drop j ∧ j ≤ ls.length ∧ s' = ⟨h', g, d, tk, os⟩ ∧ ZnMid N ls i hp j h' ∧ ZnGot vss i j xs ∧
      TupAt h' (N + ls.length + 1) (xs ++ vs0.drop j) ∧ ZipF h' (N + ls.length + 2) (N + ls.length) (N + ls.length + 1) .ellipsis f2) _ ?_ ?_ _ _ ⟨rfl, 0, g0, tk0, [], rfl, Nat.zero_le _, rfl, mid0 g0 hs0, ⟨rfl, fun k l hk hlt => absurd hlt (Nat.not_lt_zero _)⟩, ?_, hz0⟩)
    · rintro ⟨it, k⟩ rest b s' ⟨rfl, j, h', tk, xs, er, hj, rfl, M, G, hTO, hZ⟩
      obtain ⟨hjl, rfl, rfl, e2⟩ := zips_at er
      obtain ⟨κ, a, hl⟩ : ∃ κ a, ls[k]? = some (κ, a) := ⟨ls[k].1, ls[k].2, List.getElem?_eq_getElem hjl⟩
      obtain ⟨la, l, hv, hB, hlt⟩ := lo k κ a hl
      have D := drawsB (κ := κ) (prog := prog) (w := w) (A := A) hh (adn (.inl (Nat.lt_of_lt_of_le la (Nat.le_add_right N k)))) l.toArray
      refine wpAny_bind (wpAny_onRaise ?_)
      show wpAny _ _ (Builtin.SmallTypes.nextOf (.ref (N + k)) >>= _) _ _ _
      refine wpAny_bind (D.item i _ _ _ (by simpa using hlt) ⟨M.beh k κ a hl (Nat.le_refl _), hB.same (M.same a (.inl la))⟩ fun x p tkx hx sn hp1 => wpAny_pure ?_)
      have TOp : TupAt p (N + ls.length + 1) (xs ++ vs0.drop k) := (hp1.2 _ (adn (by omega))).trans hTO
      have hxs := G.1
      have zl : (xs ++ vs0.drop k).length = ls.length := by rw [List.length_append, List.length_drop]; omega
      have hx : l[i]? = some x := by simpa using hx
      dsimp only
      refine wpAny_bind (wpAny_seqItems TOp rfl (wpAny_bind (wpAny_updateSeq TOp rfl (wpAny_bind (wpAny_letGo (wpAny_pure ⟨rfl, k + 1, _, tkx, xs ++ [x], e2, by omega, rfl, ?_⟩))) ?_ ?_)))
      · have hq : Heap.SameBut (N + ls.length + 1) p (p.update (N + ls.length + 1) (Obj.mapSeq fun y => y.setIfInBounds k x)) := Heap.SameBut.update ..
        have hT2 : (p.update (N + ls.length + 1) (Obj.mapSeq fun y => y.setIfInBounds k x)).get? (N + ls.length + 1) = some (Obj.mapSeq (fun y => y.setIfInBounds k x) { cls := .type "tuple", data := .seq (xs ++ vs0.drop k).toArray }) := Heap.get?_update_self _ TOp rfl
        generalize p.update (N + ls.length + 1) (Obj.mapSeq fun y => y.setIfInBounds k x) = q at hq hT2 ⊢
        refine ⟨M.step hl sn.1 hp1 hq, G.step hv hx, ?_, (hq.2 _ (adn (by omega))).trans ((hp1.2 _ (adn (by omega))).trans hZ)⟩
        unfold TupAt
        rw [hT2]
        have e3 : (xs ++ vs0.drop k).set k x = xs ++ [x] ++ vs0.drop (k + 1) := by
          rw [List.drop_eq_getElem_cons (by omega : k < vs0.length), List.set_append_right _ _ (by omega), hxs, Nat.sub_self, List.set_cons_zero, List.append_assoc]; rfl
        rw [← e3]
        simp [Obj.mapSeq]
      · rw [List.size_toArray, zl]; exact big
      · rw [Array.size_setIfInBounds, List.size_toArray, zl]; omega
    · rintro b s' ⟨rfl, j, h', tk, xs, er, hj, rfl, M, G, hTO, hZ⟩
      have hl0 : (((List.range ls.length).map fun k => Value.ref (N + k)).zipIdx).length = ls.length := by simp
      have ej : j = ls.length := by
        have := congrArg List.length er
        rw [List.length_drop, hl0] at this
        simp at this; omega
      subst ej
      rw [List.drop_eq_nil_of_le (by omega), List.append_nil] at hTO
      have hxs := G.1
      show wpAny _ _ (seqItems? (.ref (N + ls.length + 1)) >>= _) _ _ _
      refine wpAny_bind (wpAny_seqItems hTO rfl (wpAny_bind (wpAny_newTuple (hsz := by simpa [hxs] using big) ?_)))
      show wpAny _ _ (Builtin.SmallTypes.ownedTupleHandOut (.ref (N + ls.length + 2)) (.ref h'.objs.size) >>= _) _ _ _
      refine wpAny_bind (show wpAny _ _ (Builtin.SmallTypes.ownedTupleHandOut _ _) _ _ _ from ?_)
      unfold Builtin.SmallTypes.ownedTupleHandOut
      have z6 : ZipF (h'.push { cls := .type "tuple", data := .seq xs.toArray }) (N + ls.length + 2) (N + ls.length) (N + ls.length + 1) .ellipsis f2 := Heap.get?_push_of_some _ hZ
      have zlt : N + ls.length + 2 < h'.objs.size := Heap.lt_size hZ
      refine wpAny_bind (wpAny_setField_rec z6 (by simp) fun h7 z7 s7 => wpAny_setField_rec (show ZipF h7 (N + ls.length + 2) (N + ls.length) (N + ls.length + 1) (rawInt h'.objs.size) f2 from z7) (by simp) fun h8 z8 s8 => wpAny_pure ⟨_, rfl, ?_⟩)
      have up : ∀ c o, c ≠ N + ls.length + 2 → h'.get? c = some o → h8.get? c = some o := fun c o c1 e => (s8.2 _ c1).trans ((s7.2 _ c1).trans (Heap.get?_push_of_some _ e))
      have hpz : hp.objs.size = h'.objs.size := M.size.symm
      have res := hQ xs h8 tk G ⟨⟨_, false, z8, .inr ⟨_, rfl⟩⟩, (up _ _ (adn (by omega)) ((M.same _ (.inr (.inl rfl))).trans hi)), ⟨xs, hxs, up _ _ (adn (by omega)) hTO⟩, fun k κ a hk => by
          have hkl := (List.getElem?_eq_some_iff.mp hk).1
          exact (M.bef k κ a hk hkl).at fun o e => up _ _ (adn (by omega)) e⟩ (by
          show TupAt h8 hp.objs.size xs
          rw [hpz]
          exact (s8.2 _ (adn (by omega))).trans ((s7.2 _ (adn (by omega))).trans (Heap.get?_push_size _ rfl))) (by show h8.objs.size = hp.objs.size + 1; rw [s8.1, s7.1, Heap.size_push, hpz]) fun c o hc e => up c o (adn (by omega)) ((M.same c (by omega)).trans e)
      show Q (.ref h'.objs.size) _
      rw [← hpz]
      exact res
    · rw [List.nil_append, List.drop_zero]
      exact (hs0.2 _ (adn (by omega))).trans ((hs1.2 _ (adn (by omega))).trans ho)
  | false =>
    rw [if_neg (by decide)]
    refine wpAny_bind (wpAny_forIn_array' _ (fun rest b s' => ∃ j h' tk xs, b = (none, (xs : List Value).toArray) ∧ rest = (((List.range ls.length).map fun k => Value.ref (N + k))).drop j ∧ j ≤ ls.length ∧ s' = ⟨h', g, d, tk, os⟩ ∧ ZnMid N ls i hp j h' ∧ ZnGot vss i j xs ∧
      TupAt h' (N + ls.length + 1) vs0 ∧ ZipF h' (N + ls.length + 2) (N + ls.length) (N + ls.length + 1) f0 f2) _ ?_ ?_ _ _ ⟨0, h1, tk0, [], rfl, rfl, Nat.zero_le _, rfl, mid0 h1 ⟨rfl, fun _ _ => rfl⟩, ⟨rfl, fun k l hk hlt => absurd hlt (Nat.not_lt_zero _)⟩, (hs1.2 _ (adn (by omega))).trans ho, hz1⟩)
    · rintro it rest b s' ⟨k, h', tk, xs, rfl, er, hj, rfl, M, G, hTO, hZ⟩
      obtain ⟨hjl, rfl, e2⟩ := its_at er
      obtain ⟨κ, a, hl⟩ : ∃ κ a, ls[k]? = some (κ, a) := ⟨ls[k].1, ls[k].2, List.getElem?_eq_getElem hjl⟩
      obtain ⟨la, l, hv, hB, hlt⟩ := lo k κ a hl
      have D := drawsB (κ := κ) (prog := prog) (w := w) (A := A) hh (adn (.inl (Nat.lt_of_lt_of_le la (Nat.le_add_right N k)))) l.toArray
      refine wpAny_bind (wpAny_holding ?_)
      show wpAny _ _ (Builtin.SmallTypes.nextOf (.ref (N + k)) >>= _) _ _ _
      refine wpAny_bind (D.item i _ _ _ (by simpa using hlt) ⟨M.beh k κ a hl (Nat.le_refl _), hB.same (M.same a (.inl la))⟩ fun x p tkx hx sn hp1 => wpAny_pure ?_)
      have hx : l[i]? = some x := by simpa using hx
      exact wpAny_pure ⟨k + 1, p, tkx, xs ++ [x], by simp, e2, by omega, rfl, M.step hl sn.1 hp1 ⟨rfl, fun _ _ => rfl⟩, G.step hv hx, (hp1.2 _ (adn (by omega))).trans hTO, (hp1.2 _ (adn (by omega))).trans hZ⟩
    · rintro b s' ⟨j, h', tk, xs, rfl, er, hj, rfl, M, G, hTO, hZ⟩
      have hl0 : ((List.range ls.length).map fun k => Value.ref (N + k)).length = ls.length := by simp
      have ej : j = ls.length := by
        have := congrArg List.length er
        rw [List.length_drop, hl0] at this
        simp at this; omega
      subst ej
      have hxs := G.1
      refine wpAny_bind (wpAny_newTuple (hsz := by simpa [hxs] using big) (wpAny_pure ⟨_, rfl, ?_⟩))
      have zlt : N + ls.length + 2 < h'.objs.size := Heap.lt_size hZ
      have hpz : hp.objs.size = h'.objs.size := M.size.symm
      have up : ∀ c o, h'.get? c = some o → (h'.push { cls := .type "tuple", data := .seq xs.toArray.toList.toArray }).get? c = some o := fun c o e => Heap.get?_push_of_some _ e
      have res := hQ xs (h'.push { cls := .type "tuple", data := .seq xs.toArray.toList.toArray }) tk G ⟨⟨f0, f2, up _ _ hZ, hf⟩, up _ _ ((M.same _ (.inr (.inl rfl))).trans hi), ⟨vs0, hv0, up _ _ hTO⟩, fun k κ a hk => by
          have hkl := (List.getElem?_eq_some_iff.mp hk).1
          exact (M.bef k κ a hk hkl).at fun o e => up _ _ e⟩ (by
          show TupAt _ hp.objs.size xs
          rw [hpz]
          exact Heap.get?_push_size _ rfl) (by show (h'.push _).objs.size = hp.objs.size + 1; rw [Heap.size_push, hpz]) fun c o hc e => up c o ((M.same c (by omega)).trans e)
      show Q (.ref h'.objs.size) _
      rw [← hpz]
      exact res
theorem zipN_end {Q : PySem.Fin → Shared → Prop} (hh : A.handled = none) (ne : ls ≠ []) (st : ZnAt N ls i s.heap) (lo : ∀ (k : Nat) κ a, ls[k]? = some (κ, a) → a < N ∧ ∃ l : List Value, IsB κ s.heap a l.toArray ∧ l.length = i)
    (hE : ∀ h' tk e, (∀ c o, (c < N ∨ N + ls.length + 2 < c) → s.heap.get? c = some o → h'.get? c = some o) → (∃ o, h'.get? e = some o ∧ o.cls = .type "StopIteration") → E (.ref e) { s with heap := h', toks := tk }) :
    wpAny (model prog w) A (Builtin.«zip.__next__» ⟨[.ref (N + ls.length + 2)], []⟩) Q E s := by
  obtain ⟨hp, g, d, tk0, os⟩ := s
  obtain ⟨⟨f0, f1, hz, hf⟩, hi, _, hit⟩ := st
  have n0 : 0 < ls.length := List.length_pos_iff.mpr ne
  show wpAny _ _ (field (.ref (N + ls.length + 2)) 2 >>= _) _ _ _
  refine wpAny_bind (wpAny_field hz rfl (x := .bool false) rfl (show wpAny _ _ (field (.ref (N + ls.length + 2)) 3 >>= _) _ _ _ from wpAny_bind (wpAny_field hz rfl (x := .ref (N + ls.length)) rfl (wpAny_bind (wpAny_seqItems hi rfl ?_)))))
  have em : ((List.range ls.length).map fun k => Value.ref (N + k)).toArray.isEmpty = false := by
    cases q : ls.length with
    | zero => omega
    | succ n => rw [List.range_succ_eq_map]; rfl
  dsimp only
  rw [em, if_neg (by decide)]
  refine wpAny_bind (zipN_free hz hf fun b f2 h1 hz1 hs1 => ?_)
  obtain ⟨κ, a, hl⟩ : ∃ κ a, ls[0]? = some (κ, a) := ⟨ls[0].1, ls[0].2, List.getElem?_eq_getElem n0⟩
  obtain ⟨la, l, hB, hlt⟩ := lo 0 κ a hl
  have D := drawsB (κ := κ) (prog := prog) (w := w) (A := A) hh (show a ≠ N from adn (.inl la)) l.toArray
  have az : a ≠ N + ls.length + 2 := adn (.inl (Nat.lt_of_lt_of_le la (Nat.le_trans (Nat.le_add_right N ls.length) (Nat.le_add_right _ _))))
  have i0 : IterB κ h1 N a l.toArray.size := by
    rw [List.size_toArray, hlt]
    exact (hit 0 κ a hl).at fun o e => (hs1.2 _ (adn (by omega))).trans e
  cases b with
  | true =>
    rw [if_pos rfl]
    refine wpAny_bind (wpAny_rule (wpAny_bind (wpAny_field hz1 rfl (x := .ref (N + ls.length + 1)) rfl (wpAny_bind (wpAny_setField_rec hz1 (by simp) fun g0 hz0 hs0 => ?_)))))
    refine wpAny_bind (wpAny_forIn_list _ (fun rest b s' => b = (none, ()) ∧ rest = ((List.range ls.length).map fun k => Value.ref (N + k)).zipIdx ∧ s' = ⟨g0, g, d, tk0, os⟩) _ ?_ ?_ _ _ ⟨rfl, rfl, rfl⟩)
    · rintro ⟨it, k⟩ rest b s' ⟨rfl, er, rfl⟩
      obtain ⟨_, rfl, rfl, _⟩ := zips_at (j := 0) er
      refine wpAny_bind (wpAny_onRaise ?_)
      show wpAny _ _ (Builtin.SmallTypes.nextOf (.ref N) >>= _) _ _ _
      refine wpAny_bind (D.done _ _ _ ⟨i0.at fun o e => (hs0.2 _ (adn (by omega))).trans e, hB.same ((hs0.2 a az).trans (hs1.2 a az))⟩ fun q e hq he => ?_)
      obtain ⟨oe, hoe, hce⟩ := he
      have zq : ZipF q (N + ls.length + 2) (N + ls.length) (N + ls.length + 1) .ellipsis f2 := hq _ _ (adn (by omega)) hz0
      have nz : e ≠ N + ls.length + 2 := fun z => by subst z; rw [show q.get? (N + ls.length + 2) = _ from zq] at hoe; cases hoe; simp at hce
      refine wpAny_setField_rec (s := ⟨q, g, d, tk0, os⟩) zq (by simp) fun q2 _ s2 => ?_
      exact hE q2 tk0 e (fun c o hc x => (s2.2 c (adn (by omega))).trans (hq _ _ (adn (by omega)) ((hs0.2 c (adn (by omega))).trans ((hs1.2 c (adn (by omega))).trans x)))) ⟨oe, (s2.2 e nz).trans hoe, hce⟩
    · rintro b s' ⟨rfl, er, rfl⟩
      have := congrArg List.length er
      simp at this; omega
  | false =>
    rw [if_neg (by decide)]
    refine wpAny_bind (wpAny_forIn_array' _ (fun rest b s' => b = (none, (#[] : Array Value)) ∧ rest = ((List.range ls.length).map fun k => Value.ref (N + k)) ∧ s' = ⟨h1, g, d, tk0, os⟩) _ ?_ ?_ _ _ ⟨rfl, rfl, rfl⟩)
    · rintro it rest b s' ⟨rfl, er, rfl⟩
      obtain ⟨_, rfl, _⟩ := its_at (j := 0) er
      refine wpAny_bind (wpAny_holding ?_)
      show wpAny _ _ (Builtin.SmallTypes.nextOf (.ref N) >>= _) _ _ _
      refine wpAny_bind (D.done _ _ _ ⟨i0, hB.same (hs1.2 a az)⟩ fun q e hq he => ?_)
      exact hE q tk0 e (fun c o hc x => hq _ _ (adn (by omega)) ((hs1.2 c (adn (by omega))).trans x)) he
    · rintro b s' ⟨rfl, er, rfl⟩
      have := congrArg List.length er
      simp at this; omega
theorem newClass_zip (vs : List Value) : Builtin.SmallTypes.newClass "zip" ⟨.type "zip" :: vs, []⟩ = pure (.type "zip", vs) := by
  unfold Builtin.SmallTypes.newClass
  simp only [isType, PySem.sub_zip, pure_bind, Bool.not_true, Bool.false_eq_true, if_false]
theorem zipN_new (hs : ls.length ≤ 1000) : Meets (Builtin.«zip.__new__» ⟨.type "zip" :: ls.map fun p => .ref p.2, []⟩) (fun _ R s => (∀ (k : Nat) κ a, ls[k]? = some (κ, a) → ∃ l : List Value, IsB κ s.heap a l.toArray) ∧
    ∀ h', ZnAt s.heap.objs.size ls 0 h' → h'.objs.size = s.heap.objs.size + ls.length + 3 → (∀ c o, s.heap.get? c = some o → h'.get? c = some o) → R (.ok (.ret (.ref (s.heap.objs.size + ls.length + 2)))) { s with heap := h' }) :=
  .of_wp fun prog w A R s h => by
    obtain ⟨hp, g, d, tk, os⟩ := s
    obtain ⟨hl, h⟩ := h
    unfold Builtin.«zip.__new__»
    rw [newClass_zip]
    show wpAny _ _ (Builtin.SmallTypes.iterAll (ls.map fun p => Value.ref p.2) >>= _) _ _ _
    refine wpAny_bind ?_
    unfold Builtin.SmallTypes.iterAll
    refine wpAny_bind (wpAny_forIn_list _ (fun rest b s' => ∃ j h', rest = (ls.map fun p => Value.ref p.2).drop j ∧ j ≤ ls.length ∧ b = ((List.range j).map fun k => Value.ref (hp.objs.size + k)).toArray ∧ s' = ⟨h', g, d, tk, os⟩ ∧ h'.objs.size = hp.objs.size + j ∧
      (∀ k κ a, ls[k]? = some (κ, a) → k < j → h'.get? (hp.objs.size + k) = some (iterOb κ a)) ∧ ∀ c o, hp.get? c = some o → h'.get? c = some o) _ ?_ ?_ _ _ ⟨0, hp, rfl, Nat.zero_le _, rfl, rfl, rfl, fun k κ a _ z => absurd z (Nat.not_lt_zero _), fun c o e => e⟩)
    · rintro x rest b s' ⟨j, h', er, hj, rfl, rfl, hsz, hit, hk⟩
      have hjl : j < ls.length := by
        have := congrArg List.length er
        rw [List.length_drop, List.length_map] at this
        simp at this; omega
      rw [List.drop_eq_getElem_cons (by rw [List.length_map]; exact hjl)] at er
      injection er with e1 e2
      obtain ⟨κ, a, hlj⟩ : ∃ κ a, ls[j]? = some (κ, a) := ⟨ls[j].1, ls[j].2, List.getElem?_eq_getElem hjl⟩
      have e1 : x = Value.ref a := by
        have : ls[j] = (κ, a) := by rw [List.getElem?_eq_getElem hjl] at hlj; exact Option.some.inj hlj
        rw [e1, List.getElem_map, this]
      subst e1
      obtain ⟨l, hB⟩ := hl j κ a hlj
      have B := beginsB (κ := κ) (a := a) l.toArray
      refine wpAny_bind (wpAny_holding (B.iter prog w _ _ ⟨h', g, d, tk, os⟩ _ (B.keeps _ _ hB hk) (wpAny_pure ⟨j + 1, _, e2, by omega, ?_, rfl, by rw [Heap.size_push, hsz]; omega, fun k κ' a' hk' hlt => ?_, fun c o e => Heap.get?_push_of_some _ (hk c o e)⟩)))
      · rw [List.range_succ, List.map_append]
        simp [hsz]
      · by_cases z : k = j
        · subst z
          rw [hlj] at hk'; cases hk'
          rw [← hsz]
          exact Heap.get?_push_size _ B.free
        · exact Heap.get?_push_of_some _ (hit k κ' a' hk' (by omega))
    · rintro b s' ⟨j, h', er, hj, rfl, rfl, hsz, hit, hk⟩
      have ej : j = ls.length := by
        have := congrArg List.length er
        rw [List.length_drop, List.length_map] at this
        simp at this; omega
      subst ej
      have big : ls.length ≤ sizeLine := Nat.le_trans hs (by decide)
      refine wpAny_pure (wpAny_bind (wpAny_newTuple (hsz := by simpa using big) (wpAny_bind (wpAny_newTuple (hsz := by simpa using big) (wpAny_bind ?_)))))
      unfold Builtin.SmallTypes.newRecord
      refine wpAny_newObj_type (wpAny_pure ⟨_, rfl, ?_⟩) (by show 5 ≤ sizeLine + 2; decide)
      have s1 : (h'.push { cls := .type "tuple", data := .seq ((List.range ls.length).map fun k => Value.ref (hp.objs.size + k)).toArray.toList.toArray }).objs.size = hp.objs.size + ls.length + 1 := by rw [Heap.size_push, hsz]
      have s2 : ((h'.push { cls := .type "tuple", data := .seq ((List.range ls.length).map fun k => Value.ref (hp.objs.size + k)).toArray.toList.toArray }).push { cls := .type "tuple", data := .seq (((List.range ls.length).map fun k => Value.ref (hp.objs.size + k)).toArray.toList.map fun _ => Value.none).toArray }).objs.size = hp.objs.size + ls.length + 2 := by rw [Heap.size_push, s1]
      have q := h (((h'.push { cls := .type "tuple", data := .seq ((List.range ls.length).map fun k => Value.ref (hp.objs.size + k)).toArray.toList.toArray }).push { cls := .type "tuple", data := .seq (((List.range ls.length).map fun k => Value.ref (hp.objs.size + k)).toArray.toList.map fun _ => Value.none).toArray }).push { cls := .type "zip", data := .fields #[.none, .bool false, .bool false, .ref (hp.objs.size + ls.length), .ref (hp.objs.size + ls.length + 1)] }) ⟨⟨.none, false, ?_, .inl rfl⟩, ?_, ⟨((List.range ls.length).map fun k => Value.ref (hp.objs.size + k)).toArray.toList.map fun _ => Value.none, by simp, ?_⟩, fun k κ a hk' => ?_⟩ (by rw [Heap.size_push, s2]) (fun c o e => Heap.get?_push_of_some _ (Heap.get?_push_of_some _ (Heap.get?_push_of_some _ (hk c o e))))
      · rw [s2, hsz, s1]
        exact q
      · have := Heap.get?_push_size (((h'.push { cls := .type "tuple", data := .seq ((List.range ls.length).map fun k => Value.ref (hp.objs.size + k)).toArray.toList.toArray }).push { cls := .type "tuple", data := .seq (((List.range ls.length).map fun k => Value.ref (hp.objs.size + k)).toArray.toList.map fun _ => Value.none).toArray })) (o := { cls := .type "zip", data := .fields #[.none, .bool false, .bool false, .ref (hp.objs.size + ls.length), .ref (hp.objs.size + ls.length + 1)] }) rfl
        rw [s2] at this
        exact this
      · have := Heap.get?_push_size h' (o := { cls := .type "tuple", data := .seq ((List.range ls.length).map fun k => Value.ref (hp.objs.size + k)).toArray.toList.toArray }) rfl
        rw [hsz] at this
        exact Heap.get?_push_of_some _ (Heap.get?_push_of_some _ this)
      · have := Heap.get?_push_size (h'.push { cls := .type "tuple", data := .seq ((List.range ls.length).map fun k => Value.ref (hp.objs.size + k)).toArray.toList.toArray }) (o := { cls := .type "tuple", data := .seq (((List.range ls.length).map fun k => Value.ref (hp.objs.size + k)).toArray.toList.map fun _ => Value.none).toArray }) rfl
        rw [s1] at this
        exact Heap.get?_push_of_some _ this
      · have := hit k κ a hk' (List.getElem?_eq_some_iff.mp hk').1
        exact IterB.new (Heap.get?_push_of_some _ (Heap.get?_push_of_some _ (Heap.get?_push_of_some _ this)))
theorem zipN_letGo {tg : Expr} {z TI TO T : Addr} {f0 : Value} {f1 : Bool} {Q : Unit → Shared → Prop} (hz : ZipF s.heap z TI TO f0 f1) (hQ : ∀ h' f2, (f2 = f0 ∨ f2 = .none) → ZipF h' z TI TO f2 f1 → Heap.SameBut z s.heap h' → Q () { s with heap := h' }) :
    wpAny (model prog w) A (letOwnedTupleGo tg (.ref z) (.ref T)) Q E s := by
  have q0 : Q () s := hQ s.heap f0 (.inl rfl) hz ⟨rfl, fun _ _ => rfl⟩
  unfold letOwnedTupleGo
  cases tg <;> first
    | exact wpAny_pure q0
    | (refine wpAny_bind (wpAny_load hz ?_)
       dsimp only
       split
       · refine wpAny_bind (wpAny_rule ?_)
         show wpAny _ _ (setField (.ref z) 0 .none) Q E s
         exact wpAny_setField_rec hz (by simp) fun h' hz' hs' => hQ h' .none (.inr rfl) hz' hs'
       · exact wpAny_pure q0)
end
def ItzN (K : PySem.W.Frag) (ls : List (Bool × Addr)) : It :=
  ⟨fun i H => ∃ xss : List (List V), ∀ (k : Nat) κ a, ls[k]? = some (κ, a) → ∃ xs, xss[k]? = some xs ∧ SqB K κ H a xs ∧ i < xs.length,
    fun i H v H' => ∃ T ys, v = .ref T ∧ H T = none ∧ H' = upd H T (.tup ys) ∧ ys.length = ls.length ∧ ∀ (k : Nat) κ a xs, ls[k]? = some (κ, a) → SqB K κ H a xs → ys[k]? = xs[i]?,
    fun i H => ∀ (k : Nat) κ a, ls[k]? = some (κ, a) → ∃ xs, SqB K κ H a xs ∧ xs.length = i⟩
theorem list_choice {α : Type} {P : Nat → α → Prop} : ∀ n : Nat, (∀ k, k < n → ∃ l, P k l) → ∃ vs : List α, vs.length = n ∧ ∀ (k : Nat) l, vs[k]? = some l → P k l
  | 0, _ => ⟨[], rfl, fun k l h => by simp at h⟩
  | n + 1, h => by
    obtain ⟨vs, h1, h2⟩ := list_choice n fun k hk => h k (by omega)
    obtain ⟨x, hx⟩ := h n (by omega)
    refine ⟨vs ++ [x], by simp [h1], fun k l e => ?_⟩
    by_cases z : k < n
    · rw [List.getElem?_append_left (by omega)] at e
      exact h2 k l e
    · rw [List.getElem?_append_right (by omega), h1] at e
      have : k = n := by
        have := (List.getElem?_eq_some_iff.mp e).1
        simp at this; omega
      subst this
      simp at e
      rw [← e]; exact hx
theorem vals_pt : ∀ {ys : List V} {us : List Value}, ys.length = us.length → (∀ (k : Nat) y u, ys[k]? = some y → us[k]? = some u → RelV y u) → Vals ys us
  | [], [], _, _ => .nil
  | y :: ys, u :: us, hl, h => .cons (h 0 y u rfl rfl) (vals_pt (by simpa using hl) fun k y' u' e1 e2 => h (k + 1) y' u' e1 e2)
  | [], _ :: _, hl, _ => by simp at hl
  | _ :: _, [], hl, _ => by simp at hl
theorem fp_at {N n : Nat} {c : Addr} (h : c ∈ (List.range (n + 3)).map fun k => N + k) : ∃ k : Nat, k < n + 3 ∧ c = N + k := by
  obtain ⟨k, hk, rfl⟩ := List.mem_map.mp h
  exact ⟨k, by simpa using hk, rfl⟩
theorem fp_not {N n : Nat} {c : Nat} (h : c ∉ (List.range (n + 3)).map fun k => N + k) : c < N ∨ N + n + 2 < c := by
  refine Classical.byContradiction fun q => h (List.mem_map.mpr ⟨c - N, by simp; omega, by omega⟩)
theorem turn_zipN {P : Program} {w : World} {K : PySem.W.Frag} {tg : Expr} {N : Nat} {ls : List (Bool × Addr)} (ne : ls ≠ []) (hs : ls.length ≤ 1000) (lo : ∀ (k : Nat) κ a, ls[k]? = some (κ, a) → a < N) :
    Turn P w K tg (ItzN K ls) ((List.range (ls.length + 3)).map fun k => N + k) (N + ls.length + 2) (fun i h => ZnAt N ls i h) where
  mem := List.mem_map.mpr ⟨ls.length + 2, by simp, rfl⟩
  obj := fun i h st c hc => by
    obtain ⟨⟨f0, f1, hz, _⟩, hi, ⟨vs, _, ho⟩, hit⟩ := st
    obtain ⟨k, hk, rfl⟩ := fp_at hc
    by_cases q : k < ls.length
    · exact iterB_obj (hit k ls[k].1 ls[k].2 (List.getElem?_eq_getElem q))
    · by_cases q1 : k = ls.length
      · subst q1; exact ⟨_, hi, fun v z => nomatch z⟩
      · by_cases q2 : k = ls.length + 1
        · subst q2; exact ⟨_, ho, fun v z => nomatch z⟩
        · have q3 : k = ls.length + 2 := by omega
          subst q3; exact ⟨_, hz, fun v z => nomatch z⟩
  keep := fun i h h' st k => by
    obtain ⟨⟨f0, f1, hz, hf⟩, hi, ⟨vs, hv, ho⟩, hit⟩ := st
    have m : ∀ j, j < ls.length + 3 → N + j ∈ (List.range (ls.length + 3)).map fun k => N + k := fun j hj => List.mem_map.mpr ⟨j, by simpa using hj, rfl⟩
    exact ⟨⟨f0, f1, k _ (m (ls.length + 2) (by omega)) _ hz, hf⟩, k _ (m ls.length (by omega)) _ hi, ⟨vs, hv, k _ (m (ls.length + 1) (by omega)) _ ho⟩, fun j κ a hj => (hit j κ a hj).at fun o e => k _ (m j (by have := (List.getElem?_eq_some_iff.mp hj).1; omega)) o e⟩
  item := by
    intro X hP hw hK hc i pins s σ H E I hf st hg
    subst hP hw hK
    obtain ⟨xss, hx⟩ := hg
    have ch : ∀ k, k < ls.length → ∃ l : List Value, ∀ κ a, ls[k]? = some (κ, a) → ∃ xs, xss[k]? = some xs ∧ SqB X.K κ H a xs ∧ i < xs.length ∧ Vals xs l ∧ IsB κ s.heap a l.toArray := fun k hk => by
      have hl : ls[k]? = some (ls[k].1, ls[k].2) := List.getElem?_eq_getElem hk
      obtain ⟨xs, h1, h2, h3⟩ := hx k _ _ hl
      obtain ⟨its, rv, p, _⟩ := getB I h2
      exact ⟨its, fun κ a e => by rw [hl] at e; cases e; exact ⟨xs, h1, h2, h3, rv, p⟩⟩
    obtain ⟨vss, hvl, hvs⟩ := list_choice ls.length ch
    have hT : s.TypeIs (.ref (N + ls.length + 2)) "zip" := by
      obtain ⟨⟨f0, f1, hz, _⟩, _⟩ := st
      exact ⟨_, hz, rfl⟩
    have hzl : N + ls.length + 2 < s.heap.objs.size := by
      obtain ⟨⟨f0, f1, hz, _⟩, _⟩ := st
      exact Heap.lt_size hz
    have at_ : ∀ k κ a, ls[k]? = some (κ, a) → ∃ l xs, vss[k]? = some l ∧ xss[k]? = some xs ∧ SqB X.K κ H a xs ∧ i < xs.length ∧ Vals xs l ∧ IsB κ s.heap a l.toArray := fun k κ a e => by
      have hk := (List.getElem?_eq_some_iff.mp e).1
      have hv : vss[k]? = some (vss[k]'(by omega)) := List.getElem?_eq_getElem (by omega)
      obtain ⟨xs, h⟩ := hvs k _ hv κ a e
      exact ⟨_, xs, hv, h⟩
    unfold pyNext
    refine wpAny_bind (wpAny_attempt (wpAny_callSpecial?_slot (name := Str.ofString "__next__") hT F.slot_zip_next (wpAny_call_entry F.slot_zip_next hT F.entry_zip_next
      (zipN_item (A := X.A.in1) (vss := vss) (I.ok.hd hc) ne hs st (fun k κ a e => ?_) fun xs h' tk G st' hTT hsz hk => ?_) (F.args_zip_next_1 _))))
    · obtain ⟨l, xs, h1, h2, h3, h4, h5, h6⟩ := at_ k κ a e
      exact ⟨lo k κ a e, l, h1, h6, by rw [← h5.length]; exact h4⟩
    obtain ⟨hxl, hxv⟩ := G
    have hn : ∀ k, k < ls.length → ∃ y : V, ∀ κ a xs', ls[k]? = some (κ, a) → SqB X.K κ H a xs' → xs'[i]? = some y ∧ ∀ u, xs[k]? = some u → RelV y u := fun k hk => by
      have hl : ls[k]? = some (ls[k].1, ls[k].2) := List.getElem?_eq_getElem hk
      obtain ⟨l, zs, h1, h2, h3, h4, h5, h6⟩ := at_ k _ _ hl
      obtain ⟨u, hu, ru⟩ := h5.get (List.getElem?_eq_getElem h4)
      refine ⟨zs[i], fun κ a xs' e q => ?_⟩
      rw [hl] at e; cases e
      rw [injB I q h3]
      refine ⟨List.getElem?_eq_getElem h4, fun u' e' => ?_⟩
      rw [hxv k l h1 hk, hu] at e'
      cases e'; exact ru
    obtain ⟨ys, hyl, hys⟩ := list_choice ls.length hn
    have rv : Vals ys xs := vals_pt (by omega) fun k y u e1 e2 => by
      have hk := (List.getElem?_eq_some_iff.mp e1).1
      have hl : ls[k]? = some (ls[k].1, ls[k].2) := List.getElem?_eq_getElem (by omega)
      obtain ⟨l, zs, h1, h2, h3, h4, h5, h6⟩ := at_ k _ _ hl
      exact (hys k y e1 _ _ zs hl h3).2 u e2
    obtain ⟨⟨f0, f1, hz, hf0⟩, hi, ⟨vs, hv, ho⟩, hit⟩ := st'
    refine wpAny_pure ⟨_, rfl, zipN_letGo (s := { s with heap := h', toks := tk }) hz fun h'' f2 hf2 z'' sb => ?_⟩
    have hT2 : h''.get? s.heap.objs.size = some { cls := .type "tuple", data := .seq xs.toArray } := (sb.2 _ (adn (.inr hzl))).trans hTT
    have new : ObjOk X.prog X.w (upd H s.heap.objs.size (.tup ys)) h'' s.heap.objs.size (.tup ys) :=
      ⟨by show ys.length ≤ sizeLine; rw [hyl]; exact Nat.le_trans hs (by decide), xs, rv, ⟨_, hT2, rfl, _, rfl⟩⟩
    have I1 : Inv X pins σ (upd H s.heap.objs.size (.tup ys)) { s with heap := h'', toks := tk } :=
      I.turnedNew (ch := (List.range (ls.length + 3)).map fun k => N + k) (fun c o hb q => by
        have := fp_not hb
        exact (sb.2 c (adn (by omega))).trans (hk c o this q)) hf (Nat.le_refl _) new
    refine ⟨.ref s.heap.objs.size, _, I1, rfl, ⟨_, ys, rfl, I.hok.fresh (Nat.le_refl _), rfl, hyl, fun k κ a xs' e q => ?_⟩, ⟨⟨f2, f1, z'', by rcases hf2 with rfl | rfl; exact hf0; exact .inl rfl⟩, (sb.2 _ (adn (by omega))).trans hi, ⟨vs, hv, (sb.2 _ (adn (by omega))).trans ho⟩, fun k κ a e => (hit k κ a e).at fun o e' => (sb.2 _ (adn (by have := (List.getElem?_eq_some_iff.mp e).1; omega))).trans e'⟩, fun c hcm => ?_⟩
    · have hk' := (List.getElem?_eq_some_iff.mp e).1
      have hy : ys[k]? = some (ys[k]'(by omega)) := List.getElem?_eq_getElem (by omega)
      rw [hy, (hys k _ hy κ a xs' e q).1]
    · obtain ⟨k, hkk, rfl⟩ := fp_at hcm
      rw [upd_ne (adn (.inl (Nat.lt_of_le_of_lt (show N + k ≤ N + ls.length + 2 by omega) hzl)))]
      exact (hf _ hcm).1
  done := by
    intro X hP hw hK hc i pins s σ H E I hf st hg
    subst hP hw hK
    have hT : s.TypeIs (.ref (N + ls.length + 2)) "zip" := by
      obtain ⟨⟨f0, f1, hz, _⟩, _⟩ := st
      exact ⟨_, hz, rfl⟩
    unfold pyNext
    refine wpAny_bind (wpAny_attempt (wpAny_callSpecial?_slot (name := Str.ofString "__next__") hT F.slot_zip_next (wpAny_call_entry F.slot_zip_next hT F.entry_zip_next
      (zipN_end (A := X.A.in1) (I.ok.hd hc) ne st (fun k κ a e => ?_) fun h' tk e hk he => ?_) (F.args_zip_next_1 _))))
    · obtain ⟨xs, h1, h2⟩ := hg k κ a e
      obtain ⟨its, rv, p, _⟩ := getB I h1
      exact ⟨lo k κ a e, its, p, by rw [← rv.length]; exact h2⟩
    obtain ⟨o, ho, hc'⟩ := he
    refine wpAny_bind (wpAny_isInstance (T := "StopIteration") (b := true) ⟨o, ho, hc'⟩ isSubtype_stop (wpAny_pure ⟨rfl, I.turnedL (ch := (List.range (ls.length + 3)).map fun k => N + k) (fun c o hb q => hk c o (fp_not hb) q) hf⟩))
  self := fun A i s Q E st h => by
    obtain ⟨⟨f0, f1, hz, _⟩, _⟩ := st
    have hT : s.TypeIs (.ref (N + ls.length + 2)) "zip" := ⟨_, hz, rfl⟩
    refine wpAny_pyIter_slot hT F.slot_zip_iter (wpAny_call_entry F.slot_zip_iter hT F.entry_zip_iter ?_ (F.args_zip_iter_1 _))
    show wpAny _ _ (ret (.ref (N + ls.length + 2))) _ _ s
    exact wpAny_pure ⟨_, rfl, "zip", _, hT, F.slot_zip_next.lookup, h⟩
theorem vals_refs : ∀ {ls : List (Bool × Addr)} {us : List Value}, Vals (ls.map fun p => V.ref p.2) us → us = ls.map fun p => Value.ref p.2
  | [], _, h => by cases h; rfl
  | p :: ls, _, h => by
    cases h with
    | cons r rr =>
      cases r
      rw [vals_refs rr]; rfl
/-- lists and tuples, at least one, at most 24 -/
structure ZnIn (K : PySem.W.Frag) (H : Hp) (vs : List V) (ls : List (Bool × Addr)) : Prop where
  eq : vs = ls.map fun p => V.ref p.2
  ne : ls ≠ []
  le : ls.length ≤ 24
  sq : ∀ (k : Nat) κ a, ls[k]? = some (κ, a) → ∃ xs, SqB K κ H a xs
section
variable {X : Cx} {pins : List (Addr × Obj)} {σ : St} {H : Hp} {s : Shared} {R : It → Hp → Prop} {tg : Expr} {ls : List (Bool × Addr)} {vs : List V}
theorem zipN_begin (I : Inv X pins σ H s) (z : ZnIn X.K H vs ls) (h : R (ItzN X.K ls) H) : wpAny (model X.prog X.w) X.A (call (.type "zip") (ls.map fun p => .ref p.2)) (fun v s1 => wpAny (model X.prog X.w) X.A (pyIter v) (PIE X pins σ tg R) X.xe s1) X.xe s := by
  have le := z.le
  have lo : ∀ (k : Nat) κ a, ls[k]? = some (κ, a) → a < s.heap.objs.size := fun k κ a e => by
    obtain ⟨xs, q⟩ := z.sq k κ a e
    obtain ⟨_, _, _, l⟩ := getB I q
    exact l
  have T := turn_zipN (P := X.prog) (w := X.w) (K := X.K) (tg := tg) z.ne (by omega : ls.length ≤ 1000) lo
  refine callType_new F.called_zip (by decide) (typeCall_zipN _ (by simpa using le)) (newCall_zipN _ (by simpa using le)) (fun obj => args_oiN obj _ (by simpa using le)) F.entry_zip_new (zipN_new (by omega : ls.length ≤ 1000)) ⟨fun k κ a e => ?_, fun h' st hsz hk => ⟨?_, ?_⟩⟩
  · obtain ⟨xs, q⟩ := z.sq k κ a e
    obtain ⟨its, _, p, _⟩ := getB I q
    exact ⟨its, p⟩
  · obtain ⟨⟨f0, f1, hz, _⟩, _⟩ := st
    exact ⟨_, hz, rfl⟩
  · have I2 : Inv X pins σ H { s with heap := h' } := I.kept (t' := s.toks) hk
    refine T.self X.A 0 _ _ _ st ⟨_, _, _, _, H, rfl, I2, T, st, fun c hcm => ?_, h⟩
    obtain ⟨k, _, rfl⟩ := fp_at hcm
    have hle : s.heap.objs.size ≤ s.heap.objs.size + k := Nat.le_add_right _ _
    exact I.fpOk hle (I.hok.fresh hle)
end
def iZipSt (K : PySem.W.Frag) (te : TE) : TI := fun σ H R => te σ H fun y H1 => ∃ a xs ls, y = .ref a ∧ (SqT K H1 a xs ∨ SqL K H1 a xs) ∧ ZnIn K H1 xs ls ∧ R (ItzN K ls) H1
theorem pi_zipSt {X : Cx} {e tg : Expr} {te : TE} {p sp pos : Pos} (hg : Gl X "zip") (hm : X.mg "zip" = none) (he : PE X e te) (hst : starEach [.Starred e sp] X.env = [(true, eval e X.env)] := by rfl) :
    PI X tg (.Call (.Name "zip" p) [.Starred e sp] [] pos) (iZipSt X.K te) := by
  refine ⟨fun pins s σ H R I h => PyProof.Rows.Call_ (ld_blt I hg hm PyProof.Rows.boot_zip ?_)⟩
  rw [hst]
  refine PySem.W.ks_call (P := fun _ => True) rfl (fun h _ => ⟨Keeper.machine, .inr (.inl rfl), ?_⟩) (PySem.W.ks_lone (thn (he.run pins s σ H _ I h) fun v s1 ⟨y, H1, I1, ry, a, xs, ls, ey, hx, z, q⟩ => ?_))
  · exact PySem.W.Looks.of_pure rfl
  · subst ey
    obtain rfl : v = Value.ref a := ry
    refine StX.star_any I1 hx fun us s2 I2 rv => ⟨trivial, ?_⟩
    have e1 := z.eq
    subst e1
    rw [vals_refs rv]
    exact zipN_begin I2 z q
def seqD : D → Option (List D)
  | .lst l => some l
  | .tup l => some l
  | _ => none
/-- the tuples of a zip of lists that are n long -/
def zipsD (n : Nat) (ds : List D) : List D := (List.range n).map fun i => .tup (ds.map fun d => ((seqD d).getD []).getD i .non)
def ZnD (ds : List D) (n : Nat) : Prop := (ds ≠ [] ∧ ds.length ≤ 24) ∧ ∀ d ∈ ds, ∃ l, seqD d = some l ∧ l.length = n
section
variable {K : Cz} {W : WX} {p : Addr} {G : Hp}
theorem zn_of : ∀ {ds : List D} {vs : List V} {n : Nat}, RpL K p G vs ds → (∀ d ∈ ds, ∃ l, seqD d = some l ∧ l.length = n) → ∃ (ls : List (Bool × Addr)) (xss : List (List V)), vs = ls.map (fun q => V.ref q.2) ∧ ls.length = ds.length ∧
    ∀ (k : Nat) κ a, ls[k]? = some (κ, a) → ∃ xs l d, ds[k]? = some d ∧ seqD d = some l ∧ xss[k]? = some xs ∧ G a = some (if κ then .tup xs else .lst xs) ∧ RpL K p G xs l
  | [], _, _, r, _ => by
    cases r
    exact ⟨[], [], rfl, rfl, fun k κ a h => by simp at h⟩
  | d :: ds, _, n, r, h => by
    cases r with
    | cons r1 r2 =>
      obtain ⟨ls, xss, e1, e2, e3⟩ := zn_of r2 fun d hd => h d (by simp [hd])
      obtain ⟨l, hl, _⟩ := h d (by simp)
      subst e1
      cases r1 with
      | @lst a xs l' h1 h2 =>
        refine ⟨(false, a) :: ls, xs :: xss, rfl, by simp [e2], fun k κ b hk => ?_⟩
        cases k with
        | zero => cases hk; exact ⟨xs, _, _, rfl, rfl, rfl, h1, h2⟩
        | succ k => exact e3 k κ b hk
      | @tup a xs l' h1 h2 =>
        refine ⟨(true, a) :: ls, xs :: xss, rfl, by simp [e2], fun k κ b hk => ?_⟩
        cases k with
        | zero => cases hk; exact ⟨xs, _, _, rfl, rfl, rfl, h1, h2⟩
        | succ k => exact e3 k κ b hk
      | _ => cases hl
theorem rpl_pt : ∀ {ys : List V} {es : List D}, ys.length = es.length → (∀ (k : Nat) y e, ys[k]? = some y → es[k]? = some e → Rp K p G y e) → RpL K p G ys es
  | [], [], _, _ => .nil
  | y :: ys, u :: us, hl, h => .cons (h 0 y u rfl rfl) (rpl_pt (by simpa using hl) fun k y' u' e1 e2 => h (k + 1) y' u' e1 e2)
  | [], _ :: _, hl, _ => by simp at hl
  | _ :: _, [], hl, _ => by simp at hl
theorem it_zipN {ls : List (Bool × Addr)} {xss : List (List V)} {ds : List D} {n : Nat} (hl : ls.length = ds.length) (hn : ∀ d ∈ ds, ∃ l, seqD d = some l ∧ l.length = n)
    (h : ∀ (k : Nat) κ a, ls[k]? = some (κ, a) → ∃ xs l d, ds[k]? = some d ∧ seqD d = some l ∧ xss[k]? = some xs ∧ G a = some (if κ then .tup xs else .lst xs) ∧ RpL K p G xs l) : ItOk K p (ItzN K.K ls) G (zipsD n ds) := by
  intro i c G' H' e w
  have sq : ∀ (k : Nat) κ a, ls[k]? = some (κ, a) → ∃ xs l d, ds[k]? = some d ∧ seqD d = some l ∧ xss[k]? = some xs ∧ SqB K.K κ H' a xs ∧ RpL K p G xs l ∧ xs.length = n := fun k κ a hk => by
    obtain ⟨xs, l, d, h1, h2, h3, h4, h5⟩ := h k κ a hk
    obtain ⟨l', q1, q2⟩ := hn d (List.mem_of_getElem? h1)
    rw [h2] at q1; cases q1
    refine ⟨xs, l, d, h1, h2, h3, ?_, h5, by rw [h5.len]; exact q2⟩
    cases κ with
    | false => exact sq_of (w.sub _ _ (e _ _ h4))
    | true => exact st_of (w.sub _ _ (e _ _ h4))
  refine ⟨fun d hd => ?_, fun hi _ => ?_⟩
  · unfold zipsD at hd
    rw [List.getElem?_map] at hd
    by_cases hin : i < n
    · rw [List.getElem?_range hin] at hd
      have hd : D.tup (ds.map fun d => ((seqD d).getD []).getD i .non) = d := Option.some.inj hd
      refine ⟨⟨xss, fun k κ a hk => ?_⟩, fun z H'' q => ?_⟩
      · obtain ⟨xs, l, d, h1, h2, h3, h4, h5, h6⟩ := sq k κ a hk
        exact ⟨xs, h3, h4, by omega⟩
      · obtain ⟨T, ys, rfl, hT, rfl, hyl, hy⟩ := q
        refine ⟨_, Grow.laid hT w.sub, w.laid hT, ?_⟩
        rw [← hd]
        have ex := (Grow.laid (p := p) (o := .tup ys) hT w.sub).ex
        refine .tup upd_same (rpl_pt (by rw [hyl, hl, List.length_map]) fun k y e' e1 e2 => ?_)
        have hkl : k < ls.length := by have := (List.getElem?_eq_some_iff.mp e1).1; omega
        have hlk : ls[k]? = some (ls[k].1, ls[k].2) := List.getElem?_eq_getElem hkl
        obtain ⟨xs, l, d', h1, h2, h3, h4, h5, h6⟩ := sq k _ _ hlk
        have hyk := hy k _ _ xs hlk h4
        rw [e1] at hyk
        have hix : i < l.length := by rw [← h5.len]; omega
        obtain ⟨v, hv, rv⟩ := h5.get (List.getElem?_eq_getElem hix)
        rw [hv] at hyk
        cases hyk
        rw [List.getElem?_map, h1] at e2
        have e2 := Option.some.inj e2
        have : ((seqD d').getD []).getD i .non = l[i] := by rw [h2]; simp [List.getD, hix]
        rw [← e2]
        dsimp only
        rw [this]
        exact (rv.up e).up ex
    · rw [List.getElem?_eq_none (by simpa using hin)] at hd; cases hd
  · have : (zipsD n ds).length = n := by unfold zipsD; simp
    intro k κ a hk
    obtain ⟨xs, l, d, h1, h2, h3, h4, h5, h6⟩ := sq k κ a hk
    exact ⟨xs, h4, by omega⟩
def mZipN (ma : DL) : DL := fun xe ρ c Q => ma xe ρ c fun ds c1 => ∃ n, ZnD ds n ∧ Q (zipsD n ds) c1
theorem zn_in {vs : List V} {ds : List D} {n : Nat} {H : Hp} {c : Nat} (w : Wd K p c G H) (r : RpL K p G vs ds) (z : ZnD ds n) : ∃ ls : List (Bool × Addr), ZnIn K.K H vs ls ∧ ItOk K p (ItzN K.K ls) G (zipsD n ds) := by
  obtain ⟨⟨z1, z2⟩, z3⟩ := z
  obtain ⟨ls, xss, e1, e2, e3⟩ := zn_of r z3
  refine ⟨ls, ⟨e1, fun q => z1 (List.length_eq_zero_iff.mp (by rw [← e2, q]; rfl)), by omega, fun k κ a hk => ?_⟩, it_zipN e2 z3 e3⟩
  obtain ⟨xs, l, d, h1, h2, h3, h4, h5⟩ := e3 k κ a hk
  cases κ with
  | false => exact ⟨xs, sq_of (w.sub _ _ h4)⟩
  | true => exact ⟨xs, st_of (w.sub _ _ h4)⟩
def mZipSt (me : DE) : DL := fun xe ρ c Q => me xe ρ c fun d c1 => ∃ ds n, seqD d = some ds ∧ ZnD ds n ∧ Q (zipsD n ds) c1
theorem sim_zipSt {te : TE} {me : DE} (h : SimE K W te me) : SimI K W (iZipSt K.K te) (mZipSt me) := by
  intro p G0 H0 c G H σ ρ xe R post ws xc m k
  refine h p G0 H0 c G H σ ρ xe _ _ ws xc m fun d c1 v G1 H1 m1 g1 w1 r1 => ?_
  obtain ⟨ds, n, hd, z, m1⟩ := m1
  cases r1 with
  | lst h1 h2 =>
    cases hd
    obtain ⟨ls, zi, io⟩ := zn_in w1 h2 z
    exact ⟨_, _, ls, rfl, .inr (sq_of (w1.sub _ _ h1)), zi, k _ c1 _ G1 H1 m1 g1 w1 io⟩
  | tup h1 h2 =>
    cases hd
    obtain ⟨ls, zi, io⟩ := zn_in w1 h2 z
    exact ⟨_, _, ls, rfl, .inl (st_of (w1.sub _ _ h1)), zi, k _ c1 _ G1 H1 m1 g1 w1 io⟩
  | _ => cases hd
/-- nothing is let out: for the inner list of a comprehension -/
def mNoXL (m : DL) : DL := fun _ ρ c Q => m (fun _ _ _ => False) ρ c Q
end
section
variable {X : Cx} {k j : Nat} {x : Str} {ps : List Str} {sp : Sp} {p pos : Pos}
end
end Dm

namespace Dm
open PySem L2 Evl
section
variable {K : Cz} {W : WX}
end
end Dm

namespace Dm
open PySem L2 Evl
open PyProof.Rows (envOfC)
section
open PySem.MeetsSeq PySem.AutoSeq1
variable {X : Cx} {pins : List (Addr × Obj)} {σ : St}
end
section
variable {K : Cz} {T : CTab}
def dInNX (T : CTab) (nm : Str) (f : DF) : DR2 := fun x y Q => match x, y with
  | .non, .lst ds => ((T.any fun x => x.1 == nm) = true ∧ ∀ d ∈ ds, ∃ fs, d = .ins nm fs) ∧ (∀ d ∈ ds, ∀ c, f (fun _ _ => False) [d, .non] c fun r c' => c' = c ∧ r = .bl false) ∧ Q (.bl false)
  | _, _ => False
end
end Dm

namespace Dm
open PySem L2 Evl
open PySem.Spec PyProof.Rows
section
variable {prog : Program} {w : World} {A : Around} {E : Value → Shared → Prop} {s : Shared}
theorem nextOf_key_item {it d : Addr} {i n ep : Nat} {od : Obj} {es : Array DictEntry} {en : DictEntry} {Q : Value → Shared → Prop} (hit : s.heap.IsKeyIter it d i n ep) (hod : s.heap.get? d = some od) (hdd : od.data = .dict es ep) (hsz : es.size = n) (hx : es[i]? = some en)
    (hQ : ∀ h', h'.IsKeyIter it d (i + 1) n ep → Heap.SameBut it s.heap h' → Q en.key { s with heap := h' }) : wpAny (model prog w) A (Builtin.SmallTypes.nextOf (.ref it)) Q E s := by
  obtain ⟨o, ho, hc, hd⟩ := id hit
  have ht := hit.typeIs
  obtain ⟨hl, he⟩ := Array.getElem?_eq_some_iff.mp hx
  unfold Builtin.SmallTypes.nextOf
  refine wpAny_bind (wpAny_callSpecial?_slot (name := Str.ofString "__next__") ht F.slot_dict_keyiterator_next (wpAny_call_entry F.slot_dict_keyiterator_next ht F.entry_dict_keyiterator_next (wpAny_bind (wpAny_pure (wpAny_bind (wpAny_bind ?_)))) (F.args_dict_keyiterator_next_1 _)))
  have own : Builtin.Dict_items.ownsTuple "dict_keyiterator" = false := by decide
  first | (refine wpAny_bind (wpAny_typeNameOfWhole_keyiter ht (wpAny_pure (wpAny_bind (wpAny_fieldsOf ho hd ?_))))) | (refine wpAny_bind (wpAny_typeNameOf_keyiter ht (wpAny_pure (wpAny_bind (wpAny_fieldsOf ho hd ?_)))))
  rw [own, if_neg (show ¬ (false = true) by decide)]
  show wpAny _ _ (if (Value.ref d == Value.none) = true then _ else _) _ _ s
  rw [if_neg (show ¬ ((Value.ref d == Value.none) = true) by exact Bool.false_ne_true)]
  refine wpAny_bind (wpAny_pure (wpAny_bind (wpAny_dictEntries hod hdd ?_)))
  rw [if_neg (show ¬ _ by rw [hsz]; simp)]
  refine wpAny_bind (wpAny_pure (wpAny_bind (wpAny_dictEpoch hod hdd ?_)))
  rw [if_neg (show ¬ _ by simp)]
  refine wpAny_pure ?_
  simp only [show ¬ ((i : Int) < 0) by omega, if_false, Int.toNat_natCast, hx]
  refine wpAny_bind ?_
  have hit' : (s.heap.update it (Obj.mapFields fun v => v.setIfInBounds 1 (rawInt ((i : Int) + 1)))).IsKeyIter it d (i + 1) n ep := ⟨_, Heap.get?_update_self _ ho (Obj.isFreed_of_fields (Obj.data_mapFields hd _)), (Obj.cls_mapFields ..).trans hc, by rw [Obj.data_mapFields hd]; simp [rawInt]⟩
  first | refine wpAny_bind (wpAny_typeNameOfWhole_keyiter ht (wpAny_pure (wpAny_bind (wpAny_isOneOf_keyiter ht ?_)))) | refine wpAny_bind (wpAny_typeNameOf_keyiter ht (wpAny_pure (wpAny_bind (wpAny_isOneOf_keyiter ht ?_))))
  show wpAny _ _ (setField (.ref it) 1 (rawInt ((i : Int) + 1)) >>= _) _ _ _
  refine wpAny_bind (wpAny_setField ho hd (by simp) (wpAny_bind (wpAny_holding (wpAny_bind (wpAny_isOneOf_keyiter (s := { s with heap := s.heap.update it (Obj.mapFields fun v => v.setIfInBounds 1 (rawInt ((i : Int) + 1))) }) hit'.typeIs ?_)))))
  exact wpAny_pure (wpAny_pure ⟨_, rfl, wpAny_pure (hQ _ hit' (Heap.SameBut.update ..))⟩)
theorem nextOf_key_end {it d : Addr} {i n ep : Nat} {od : Obj} {es : Array DictEntry} {Q : Value → Shared → Prop} (hh : A.handled = none) (hit : s.heap.IsKeyIter it d i n ep) (hod : s.heap.get? d = some od) (hdd : od.data = .dict es ep) (hsz : es.size = n) (hge : n ≤ i)
    (hE : ∀ h' e, Heap.ExtBut it s.heap h' → (∃ o, h'.get? e = some o ∧ o.cls = .type "StopIteration") → E (.ref e) { s with heap := h' }) : wpAny (model prog w) A (Builtin.SmallTypes.nextOf (.ref it)) Q E s := by
  obtain ⟨o, ho, hc, hd⟩ := id hit
  have ht := hit.typeIs
  have hx : es[i]? = none := Array.getElem?_eq_none (by omega)
  unfold Builtin.SmallTypes.nextOf
  refine wpAny_bind (wpAny_callSpecial?_slot (name := Str.ofString "__next__") ht F.slot_dict_keyiterator_next (wpAny_call_entry F.slot_dict_keyiterator_next ht F.entry_dict_keyiterator_next (wpAny_bind (wpAny_pure (wpAny_bind (wpAny_bind ?_)))) (F.args_dict_keyiterator_next_1 _)))
  have own : Builtin.Dict_items.ownsTuple "dict_keyiterator" = false := by decide
  first | (refine wpAny_bind (wpAny_typeNameOfWhole_keyiter ht (wpAny_pure (wpAny_bind (wpAny_fieldsOf ho hd ?_))))) | (refine wpAny_bind (wpAny_typeNameOf_keyiter ht (wpAny_pure (wpAny_bind (wpAny_fieldsOf ho hd ?_)))))
  rw [own, if_neg (show ¬ (false = true) by decide)]
  show wpAny _ _ (if (Value.ref d == Value.none) = true then _ else _) _ _ s
  rw [if_neg (show ¬ ((Value.ref d == Value.none) = true) by exact Bool.false_ne_true)]
  refine wpAny_bind (wpAny_pure (wpAny_bind (wpAny_dictEntries hod hdd ?_)))
  rw [if_neg (show ¬ _ by rw [hsz]; simp)]
  refine wpAny_bind (wpAny_pure (wpAny_bind (wpAny_dictEpoch hod hdd ?_)))
  rw [if_neg (show ¬ _ by simp)]
  refine wpAny_pure ?_
  simp only [show ¬ ((i : Int) < 0) by omega, if_false, Int.toNat_natCast, hx]
  refine wpAny_bind ?_
  first | refine wpAny_bind (wpAny_typeNameOfWhole_keyiter ht (wpAny_pure ?_)) | refine wpAny_bind (wpAny_typeNameOf_keyiter ht (wpAny_pure ?_))
  show wpAny _ _ (setField (.ref it) 0 .none >>= _) _ _ _
  refine wpAny_bind (wpAny_setField ho hd (by simp) ?_)
  show wpAny _ _ (newExc (.type "StopIteration") [] >>= fun e => raiseNew e) _ _ _
  refine wpAny_bind ?_
  simp only [newExc, newTuple]
  refine wpAny_bind (wpAny_newObj_type (wpAny_bind (m := firstArgMember _ _) (wpAny_of_eq (a := Value.none) (by first | rfl | (simp only [firstArgMember]; rfl)) (wpAny_newObj_type ?_ (by size_fits)))) (by size_fits))
  simp only [raiseNew]
  refine wpAny_bind (wpAny_handled ?_)
  first | rw [show A.in1.handled = none by exact hh] | rw [hh]
  exact wpAny_bind (wpAny_pure (wpAny_throw (hE _ _ (((Heap.SameBut.update ..).extBut.push _).push _) ⟨_, Heap.get?_push_size _ rfl, rfl⟩)))
end
inductive Zk where
  | l | t | d (n ep : Nat)
/-- the dict at a with these keys -/
def IsDk (h : Heap) (a : Addr) (n ep : Nat) (items : Array Value) : Prop := ∃ (o : Obj) (es : Array DictEntry), h.get? a = some o ∧ o.ExactDict ∧ o.data = .dict es ep ∧ es.size = n ∧ (a == sysModules) = false ∧ items = es.map (·.key)
theorem drawsD {prog : Program} {w : World} {A : Around} (hh : A.handled = none) {it a : Addr} (ne : a ≠ it) (n ep : Nat) (items : Array Value) : Draws prog w A it [it, a] items.size (fun i v => items[i]? = some v) (fun i h => h.IsKeyIter it a i n ep ∧ IsDk h a n ep items) where
  live := fun _ _ st => let ⟨o, ho, _⟩ := st.1; ⟨o, ho⟩
  frame := fun _ _ _ st hk => ⟨let ⟨o, ho, r⟩ := st.1; ⟨o, hk it (by simp) o ho, r⟩, let ⟨o, es, ho, r⟩ := st.2; ⟨o, es, hk a (by simp) o ho, r⟩⟩
  item := fun i s Q E hi st hQ => by
    obtain ⟨o, es, ho, hx, hd, hn, hs, rfl⟩ := st.2
    have hl : i < es.size := by simpa using hi
    refine nextOf_key_item st.1 ho hd hn (Array.getElem?_eq_getElem hl) fun h' hit' sb => hQ _ h' s.toks (by simp [hl]) ⟨hit', ⟨o, es, (sb.2 _ ne).trans ho, hx, hd, hn, hs, rfl⟩⟩ sb
  done := fun s Q E st hE => by
    obtain ⟨o, es, ho, hx, hd, hn, hs, rfl⟩ := st.2
    exact nextOf_key_end hh st.1 ho hd hn (by simp [hn]) hE
theorem begins_dk (a : Addr) (n ep : Nat) (items : Array Value) : Begins (.ref a) { cls := .type "dict_keyiterator", data := .fields #[.ref a, .int 0 0, .int n 0, .int ep 0] } fun h => IsDk h a n ep items where
  iter := fun prog w A E s Q hl h => by
    obtain ⟨o, es, ho, hx, hd, hn, hs, rfl⟩ := hl
    subst hn
    exact iter_keys hs ho hx hd h
  keeps := fun h h' x hk => let ⟨o, es, ho, r⟩ := x; ⟨o, es, hk a o ho, r⟩
  free := rfl
end Dm

namespace Dm
open PySem L2 Evl
open PySem.Spec PyProof.Rows
theorem keyI_kV (k : List Int) : (keyI k).map kV = k.map V.int := by
  unfold keyI
  rw [List.map_map]
  rfl
theorem keyI_inj : ∀ {k k' : List Int}, keyI k = keyI k' → k = k'
  | [], [], _ => rfl
  | [], _ :: _, h => by cases h
  | _ :: _, [], h => by cases h
  | a :: k, b :: k', h => by
    have h1 : (Sum.inl a : L2.Key) :: keyI k = Sum.inl b :: keyI k' := h
    injection h1 with h1 h2
    injection h1 with h1
    rw [h1, keyI_inj h2]
theorem KeysIn.len {G : Hp} : ∀ {qs : List Addr} {ks : List (List Int)}, KeysIn G qs ks → qs.length = ks.length
  | _ :: _, _ :: _, h => by show _ + 1 = _ + 1; rw [KeysIn.len h.2]
  | [], [], _ => rfl
  | [], _ :: _, h => h.elim
  | _ :: _, [], h => h.elim
theorem KeysIn.get {G : Hp} : ∀ {qs : List Addr} {ks : List (List Int)} {i : Nat} {q : Addr} {k : List Int}, KeysIn G qs ks → qs[i]? = some q → ks[i]? = some k → G q = some (.tup (k.map V.int))
  | _ :: _, _ :: _, 0, _, _, h, e1, e2 => by simp at e1 e2; subst e1 e2; exact h.1
  | _ :: _, _ :: _, i + 1, _, _, h, e1, e2 => KeysIn.get (i := i) h.2 (by simpa using e1) (by simpa using e2)
  | [], _, _, _, _, _, e1, _ => by simp at e1
  | _ :: _, [], _, _, _, h, _, _ => h.elim
theorem KeysIn.snoc {G : Hp} {q : Addr} {k : List Int} (e : G q = some (.tup (k.map V.int))) : ∀ {qs : List Addr} {ks : List (List Int)}, KeysIn G qs ks → KeysIn G (qs ++ [q]) (ks ++ [k])
  | _ :: _, _ :: _, h => ⟨h.1, KeysIn.snoc e h.2⟩
  | [], [], _ => ⟨e, True.intro⟩
  | [], _ :: _, h => h.elim
  | _ :: _, [], h => h.elim
theorem ents_get : ∀ {ks : List (List Int)} {qs bs : List Addr} {i : Nat} {x : List L2.Key × Addr × Value}, (ents ks qs bs)[i]? = some x → ∃ k q b, ks[i]? = some k ∧ qs[i]? = some q ∧ bs[i]? = some b ∧ x = (keyI k, q, .ref b)
  | k :: ks, q :: qs, b :: bs, 0, x, h => by
    have h : some (keyI k, q, Value.ref b) = some x := h
    cases h; exact ⟨k, q, b, rfl, rfl, rfl, rfl⟩
  | k :: ks, q :: qs, b :: bs, i + 1, x, h => by
    have h : (ents ks qs bs)[i]? = some x := by simpa [ents] using h
    obtain ⟨k', q', b', h1, h2, h3, h4⟩ := ents_get h
    exact ⟨k', q', b', by simpa using h1, by simpa using h2, by simpa using h3, h4⟩
  | [], _, _, _, _, h => by simp [ents] at h
  | _ :: _, [], _, _, _, h => by simp [ents] at h
  | _ :: _, _ :: _, [], _, _, h => by simp [ents] at h
theorem ents_at : ∀ {ks : List (List Int)} {qs bs : List Addr} {i : Nat} {k : List Int} {q b : Addr}, ks[i]? = some k → qs[i]? = some q → bs[i]? = some b → (ents ks qs bs)[i]? = some (keyI k, q, .ref b)
  | _ :: _, _ :: _, _ :: _, 0, _, _, _, h1, h2, h3 => by simp at h1 h2 h3; subst h1 h2 h3; rfl
  | _ :: ks, _ :: qs, _ :: bs, i + 1, _, _, _, h1, h2, h3 => by
    have := ents_at (ks := ks) (qs := qs) (bs := bs) (i := i) (by simpa using h1) (by simpa using h2) (by simpa using h3)
    simpa [ents] using this
  | [], _, _, _, _, _, _, h1, _, _ => by simp at h1
  | _ :: _, [], _, _, _, _, _, _, h2, _ => by simp at h2
  | _ :: _, _ :: _, [], _, _, _, _, _, _, h3 => by simp at h3
theorem ents_len : ∀ {ks : List (List Int)} {qs bs : List Addr}, qs.length = ks.length → bs.length = ks.length → (ents ks qs bs).length = ks.length
  | k :: ks, q :: qs, b :: bs, h1, h2 => by show _ + 1 = _ + 1; rw [ents_len (by simpa using h1) (by simpa using h2)]
  | [], _, _, _, _ => rfl
  | _ :: _, [], _, h, _ => by simp at h
  | _ :: _, _ :: _, [], _, h => by simp at h
theorem ents_keys : ∀ {ks : List (List Int)} {qs bs : List Addr}, qs.length = ks.length → bs.length = ks.length → (ents ks qs bs).map (·.1) = ks.map keyI
  | k :: ks, q :: qs, b :: bs, h1, h2 => by show keyI k :: _ = keyI k :: _; rw [ents_keys (by simpa using h1) (by simpa using h2)]
  | [], _, _, _, _ => rfl
  | _ :: _, [], _, h, _ => by simp at h
  | _ :: _, _ :: _, [], _, h => by simp at h
theorem ents_snoc {k : List Int} {q b : Addr} : ∀ {ks : List (List Int)} {qs bs : List Addr}, qs.length = ks.length → bs.length = ks.length → ents (ks ++ [k]) (qs ++ [q]) (bs ++ [b]) = ents ks qs bs ++ [(keyI k, q, .ref b)]
  | k' :: ks, q' :: qs, b' :: bs, h1, h2 => congrArg (List.cons (keyI k', q', Value.ref b')) (ents_snoc (ks := ks) (qs := qs) (bs := bs) (by simpa using h1) (by simpa using h2))
  | [], [], [], _, _ => rfl
  | [], _ :: _, _, h, _ => by simp at h
  | [], [], _ :: _, _, h => by simp at h
  | _ :: _, [], _, h, _ => by simp at h
  | _ :: _, _ :: _, [], _, h => by simp at h
theorem nodup_keyI {ks : List (List Int)} (h : ks.Nodup) : (ks.map keyI).Nodup := by
  induction ks with
  | nil => exact List.nodup_nil
  | cons k ks ih =>
    rw [List.nodup_cons] at h
    rw [List.map_cons, List.nodup_cons]
    refine ⟨fun z => ?_, ih h.2⟩
    obtain ⟨k', h1, h2⟩ := List.mem_map.mp z
    exact h.1 (by rw [← keyI_inj h2]; exact h1)
section
variable {X : Cx} {pins : List (Addr × Obj)} {σ : L2.St} {H : Hp} {s : Shared} {a b : Addr} {od : Obj}
theorem dk_new {P : Program} {w : World} {H' : Hp} {h' : Heap} (e : h'.get? a = some od) : ObjOk P w H' h' a (dkO a od) := ⟨e, ⟨_, e⟩, fun h1 h2 q k => k _ q⟩
theorem dk_ofH {K0 : PySem.W.Frag} {mg0 : Str → Option Value} {P : Program} {w : World} {h : Heap} {ks : List (List Int)} {qs bs : List Addr} (ok : HOk P w H h) (e : h.get? a = some od) (d : DkOf ⟨K0, mg0, P, w⟩ od (ents ks qs bs)) (kin : KeysIn H qs ks) (lb : bs.length = ks.length) (nd : ks.Nodup) :
    h.DictOfH (tupleKind (mixKind P w)) a (ents ks qs bs) := by
  obtain ⟨xd, es, ep, h1, h2⟩ := d
  refine ⟨od, es, ep, e, xd, h1, h2, fun x hx => ?_, by rw [ents_keys kin.len lb]; exact nodup_keyI nd⟩
  obtain ⟨i, hi⟩ := List.mem_iff_getElem?.mp hx
  obtain ⟨k, q, b, e1, e2, e3, rfl⟩ := ents_get hi
  exact key_of ok (by rw [keyI_kV]; exact kin.get e2 e1)
end
def tDNewE (K : Cz) : TE := fun _ H Q => ∀ a od, H a = none → DkOf K od [] → (a == sysModules) = false → Q (.ref a) (upd H a (dkO a od))
theorem pe_dnewE {X : Cx} {K : Cz} {pos : Pos} : PE X (.Dict [] [] pos) (tDNewE K) := ⟨fun pins s σ H Q I h =>
  PySem.wpAny_Dict_empty ⟨.ref s.heap.objs.size, _, I.laid (a := s.heap.objs.size) (o := dkO s.heap.objs.size { cls := .type "dict", data := .dict #[] }) (t' := s.toks) (fun _ _ q => Heap.get?_push_of_some _ q) (Nat.le_refl _) (dk_new (Heap.get?_push_size _ rfl)), rfl,
    h _ _ (I.hok.fresh (Nat.le_refl _)) ⟨⟨rfl, rfl, rfl⟩, #[], 0, rfl, rfl⟩ (beq_eq_false_iff_ne.mpr (Ne.symm (Nat.ne_of_lt I.big)))⟩⟩
def tDSetE (K : Cz) (td ty tx : TE) : TE := fun σ H Q => td σ H fun x H1 => ∃ (a : Addr) (od0 : Obj), x = .ref a ∧ H1 a = some (dkO a od0) ∧ od0.ExactDict ∧ ty σ H1 fun y H2 => tx σ H2 fun z H3 =>
  ∃ (od : Obj) (ks : List (List Int)) (qs bs : List Addr) (k : List Int) (b r : Addr), H3 a = some (dkO a od) ∧ DkOf K od (ents ks qs bs) ∧ KeysIn H3 qs ks ∧ bs.length = ks.length ∧ ks.Nodup ∧ (a == sysModules) = false ∧
    y = .ref b ∧ H3 b = some (.tup (k.map V.int)) ∧ z = .ref r ∧ ks.length < 1000000 ∧
    (∀ (n : Nat) (c : Addr), ks[n]? = some k → bs[n]? = some c → Q (.ref c) H3) ∧ (k ∉ ks → ∀ od', DkOf K od' (ents (ks ++ [k]) (qs ++ [b]) (bs ++ [r])) → Q (.ref r) (upd H3 a (dkO a od')))
section
variable {X : Cx} {o e f : Expr} {td ty tx : TE} {apos cpos : Pos}
theorem pe_dsetE {Kz : Cz} (hP : Kz.P = X.prog) (hw : Kz.w = X.w) (hu : X.A.units + 1 < cLine) (ho : PE X o td) (he : PE X e ty) (hf : PE X f tx) (m : M2 X o "setdefault" apos e f cpos) : PE X (.Call (.Attribute o "setdefault" apos) [e, f] [] cpos) (tDSetE Kz td ty tx) := by
  obtain ⟨K0, mg0, P0, w0⟩ := Kz
  dsimp only at hP hw
  subst hP hw
  refine ⟨fun pins s σ H Q I h => ?_⟩
  refine wpAny_Call_method m.base m.few m.line PySem.F.plainAttrs_dict PySem.F.slot_dict_setdefault PySem.F.type_dict_setdefault (thn (ho.run pins s σ H _ I h) fun u s1 ⟨x, H1, I1, rx, a, od0, ex, d, xd, q1⟩ => ?_)
  subst ex
  obtain rfl : u = Value.ref a := rx
  have hod : s1.heap.get? a = some od0 := (show ObjOk X.prog X.w H1 s1.heap a (dkO a od0) from I1.hok a _ d).1
  refine ⟨⟨od0, hod, xd.1⟩, fun b q => ?_, ?_⟩
  · cases q
    exact ⟨od0, hod, xd.2.1⟩
  rw [m.trees]
  refine Calls.callWith_builtin rfl (Calls.evalArgs_plain (Calls.spliced_cons (thn (he.run pins s1 σ H1 _ I1 q1) fun iv s2 ⟨y, H2, I2, ry, q2⟩ =>
    Calls.spliced_cons (thn (hf.run pins s2 σ H2 _ I2 q2) fun fv s3 ⟨z, H3, I3, rz, q3⟩ => Calls.spliced_nil ?_))))
  obtain ⟨od, ks, qs, bs, k, b, r, ea, dk, kin, lb, nd, sy, ey, eb, ez, hl, q3, q4⟩ := q3
  subst ey ez
  obtain rfl : iv = Value.ref b := ry
  obtain rfl : fv = Value.ref r := rz
  have hoa : s3.heap.get? a = some od := (show ObjOk X.prog X.w H3 s3.heap a (dkO a od) from I3.hok a _ ea).1
  have dd := dk_ofH I3.hok hoa dk kin lb nd
  have hn : (ents ks qs bs).length ≤ sizeLine := by rw [ents_len kin.len lb]; exact Nat.le_trans (Nat.le_of_lt hl) Grow.sz
  have nk : ((ents ks qs bs).map (·.1)).Nodup := by rw [ents_keys kin.len lb]; exact nodup_keyI nd
  refine PySem.call_setdefault_heap (tupleKind_room_in1 hu) (key_of I3.hok (ks := keyI k) (by rw [keyI_kV]; exact eb)) sy dd (fun p hp => ?_) (fun hno h' dd' hs => ?_) hn
  · have hk : k ∈ ks := by
      refine Classical.byContradiction fun hk => ?_
      have z : atKey (ents ks qs bs) (keyI k) = none := atKey_none_of_get fun j p hj => by
        obtain ⟨k', q', b', e1, e2, e3, e4⟩ := ents_get hj
        have e5 : keyI k = keyI k' := congrArg Prod.fst e4
        exact hk (by rw [keyI_inj e5]; exact List.mem_of_getElem? e1)
      rw [z] at hp; cases hp
    obtain ⟨n, hk⟩ := List.mem_iff_getElem?.mp hk
    have ln := (List.getElem?_eq_some_iff.mp hk).1
    obtain ⟨q, hq⟩ : ∃ q, qs[n]? = some q := ⟨_, List.getElem?_eq_getElem (by rw [kin.len]; exact ln)⟩
    obtain ⟨b', hb⟩ : ∃ b', bs[n]? = some b' := ⟨_, List.getElem?_eq_getElem (by rw [lb]; exact ln)⟩
    have z := atKey_of_get nk (ents_at hk hq hb)
    rw [z] at hp
    cases hp
    exact ⟨.ref b', _, I3.tok _, rfl, q3 n _ hk hb⟩
  · have hk : k ∉ ks := fun hk => by
      obtain ⟨n, hk⟩ := List.mem_iff_getElem?.mp hk
      have ln := (List.getElem?_eq_some_iff.mp hk).1
      have z := atKey_of_get nk (ents_at hk (List.getElem?_eq_getElem (by rw [kin.len]; exact ln)) (List.getElem?_eq_getElem (by rw [lb]; exact ln)))
      rw [z] at hno; cases hno
    obtain ⟨od', es, ep, h1, h2, h3, h4, _, _⟩ := dd'
    rw [storedH_new hno, ← ents_snoc kin.len lb] at h4
    exact ⟨.ref r, _, d_write I3 (by rw [ea]; exact True.intro) hs ⟨od', h1⟩ (dk_new h1), rfl, q4 hk od' ⟨h2, es, ep, h3, h4⟩⟩
end
def Itq (d : Addr) (o : Obj) (qs : List Addr) : It :=
  ⟨fun i H => H d = some (dkO d o) ∧ i < qs.length, fun i H x H' => H' = H ∧ ∃ q, qs[i]? = some q ∧ x = .ref q, fun i H => H d = some (dkO d o) ∧ qs.length ≤ i⟩
theorem ks_of {es : Array DictEntry} {qs : List Addr} (hk : es.toList.map (·.key) = qs.map Value.ref) : es.size = qs.length ∧ ∀ (i : Nat) (q : Addr), qs[i]? = some q → ∃ en, es[i]? = some en ∧ en.key = .ref q := by
  refine ⟨by rw [← Array.length_toList]; simpa using congrArg List.length hk, fun i q h => ?_⟩
  have z : (es.toList.map (·.key))[i]? = some (Value.ref q) := by rw [hk, List.getElem?_map, h]; rfl
  rw [List.getElem?_map] at z
  cases y : es.toList[i]? with
  | none => rw [y] at z; cases z
  | some en =>
    rw [y] at z
    exact ⟨en, by rw [← Array.getElem?_toList]; exact y, Option.some.inj z⟩
section
variable {P : Program} {w : World} {K : PySem.W.Frag} {tg : Expr} {d : Addr} {o : Obj} {es : Array DictEntry} {ep : Nat} {qs : List Addr}
theorem turn_keysQ (it : Addr) (hod : o.data = .dict es ep) (hk : es.toList.map (·.key) = qs.map Value.ref) : Turn P w K tg (Itq d o qs) [it] it (fun i h => h.IsKeyIter it d i qs.length ep) where
  mem := by simp
  obj := fun i h st b hb => by
    have e : b = it := by simpa using hb
    subst e
    obtain ⟨oi, e, c, dd⟩ := st
    exact ⟨oi, e, fun v z => by rw [dd] at z; cases z⟩
  keep := fun i h h' st k => st.at fun oi e => k it (by simp) oi e
  item := by
    intro X hP hw hK hc i pins s σ H E I hf st hg
    subst hP hw hK
    obtain ⟨hd, hi⟩ := hg
    obtain ⟨f0, f1, f2, f3, f4, f5⟩ := hf it (by simp)
    have hgd : s.heap.get? d = some o := (show ObjOk X.prog X.w H s.heap d (dkO d o) from I.hok d _ hd).1
    obtain ⟨en, hen, hkey⟩ := (ks_of hk).2 i qs[i] (List.getElem?_eq_getElem hi)
    refine next_key_item st hgd hod (ks_of hk).1 hen fun h' st' sb => ?_
    have I1 : Inv X pins σ H { s with heap := h' } := I.turned (t' := s.toks) (fun b ob hb e => (sb.2 b hb).trans e) f0 f1 f3 f4 f5
    obtain ⟨oi, e, c, dd⟩ := id st'
    exact ⟨en.key, rfl, go_of (s := { s with heap := h' }) e c dd (by decide) ⟨.ref qs[i], H, I1, hkey, ⟨rfl, qs[i], List.getElem?_eq_getElem hi, rfl⟩, st', fun b hb => (hf b hb).1⟩⟩
  done := by
    intro X hP hw hK hc i pins s σ H E I hf st hg
    subst hP hw hK
    obtain ⟨hd, hi⟩ := hg
    obtain ⟨f0, f1, f2, f3, f4, f5⟩ := hf it (by simp)
    have hgd : s.heap.get? d = some o := (show ObjOk X.prog X.w H s.heap d (dkO d o) from I.hok d _ hd).1
    exact next_key_end (I.ok.hd hc) st hgd hod (ks_of hk).1 hi fun h' eb => ⟨rfl, I.turned (t' := s.toks) (fun b ob hb e => eb b ob hb e) f0 f1 f3 f4 f5⟩
  self := fun A i s Q E st h => by
    refine wpAny_pyIter_slot st.typeIs F.slot_dict_keyiterator_iter (wpAny_call_entry F.slot_dict_keyiterator_iter st.typeIs F.entry_dict_keyiterator_iter ?_ (F.args_dict_keyiterator_iter_1 _))
    show wpAny _ _ (ret (.ref it)) _ _ s
    exact wpAny_pure ⟨_, rfl, "dict_keyiterator", _, st.typeIs, F.slot_dict_keyiterator_next.lookup, h⟩
end
def iKeysQ (td : TE) : TI := fun σ H R => td σ H fun x H1 => ∃ d o es ep qs, x = .ref d ∧ H1 d = some (dkO d o) ∧ o.ExactDict ∧ o.data = .dict es ep ∧ es.toList.map (·.key) = qs.map Value.ref ∧ (d == sysModules) = false ∧ R (Itq d o qs) H1
theorem pi_keysQ {X : Cx} {tg e : Expr} {td : TE} (he : PE X e td) : PI X tg e (iKeysQ td) := by
  refine ⟨fun pins s σ H R I h => ?_⟩
  refine thn (he.run pins s σ H _ I h) fun u s1 ⟨x, H1, I1, rx, d, o, es, ep, qs, ex, hd, hx, hdt, hk, hs, q⟩ => ?_
  subst ex
  obtain rfl : u = Value.ref d := rx
  have hgd : s1.heap.get? d = some o := (show ObjOk X.prog X.w H1 s1.heap d (dkO d o) from I1.hok d _ hd).1
  refine iter_keys hs hgd hx hdt (pi_one (tk := s1.toks) I1 _ (turn_keysQ _ hdt hk) ⟨_, Heap.get?_push_size _ rfl, rfl, ?_⟩ q)
  rw [(ks_of hk).1] <;> rfl
def tValsQ (td : TE) : TE := fun σ H Q => td σ H fun x H1 => ∃ a od es ep, x = .ref a ∧ H1 a = some (dkO a od) ∧ od.ExactDict ∧ od.data = .dict es ep ∧ (a == sysModules) = false ∧ ∀ p, H1 p = none → Q (.ref p) (upd H1 p (viewO "dict_values" p a))
section
variable {X : Cx} {e : Expr} {td : TE} {apos cpos : Pos}
theorem pe_valsQ (he : PE X e td) (hbase : attributeBase e "values" X.env (eval e X.env) = eval e X.env := by rfl) (hline : (apos.endLine == cpos.line) = true := by rfl) : PE X (.Call (.Attribute e "values" apos) [] [] cpos) (tValsQ td) := by
  refine ⟨fun pins s σ H Q I h => ?_⟩
  refine wpAny_Call_method (T := "dict") (id := "dict.values") hbase rfl hline PySem.F.plainAttrs_dict PySem.F.slot_dict_values PySem.F.type_dict_values (thn (he.run pins s σ H _ I h) fun u s1 ⟨x, H1, I1, rx, a, od, es, ep, ex, hd, xd, hdt, hs, q⟩ => ?_)
  subst ex
  obtain rfl : u = Value.ref a := rx
  have ho : s1.heap.get? a = some od := (show ObjOk X.prog X.w H1 s1.heap a (dkO a od) from I1.hok a _ hd).1
  have t1 : s1.TypeIs (.ref a) "dict" := ⟨od, ho, xd.1⟩
  refine ⟨t1, fun b q => ?_, ?_⟩
  · cases q
    exact ⟨od, ho, xd.2.1⟩
  have fin : EP X pins σ Q (.ref s1.heap.objs.size) { s1 with heap := s1.heap.push { cls := .type "dict_values", data := .fields #[.ref a] } } :=
    ⟨.ref s1.heap.objs.size, _, I1.laid (t' := s1.toks) (fun b o q => Heap.get?_push_of_some _ q) (Nat.le_refl _) (viewO_ok (Heap.get?_push_size _ rfl)), rfl, q _ (I1.hok.fresh (Nat.le_refl _))⟩
  show wpAny _ _ (callWith cpos (.builtin "dict.values") [.ref a] [] []) _ X.xe s1
  exact method_meetsIn PySem.F.slot_dict_values PySem.F.entry_dict_values rfl (PySem.evalArgs_none ⟨rfl, t1, PySem.F.args_dict_values_1 _, _, meets_dict_values_raw a hs, ⟨⟨es, ep, od, ho, xd, hdt⟩, fin⟩⟩)
theorem call_list_valsQ (hc : X.calm = true) : CallR X (.type "list") (fun xs H Q => ∃ (p a : Addr) (od : Obj) (es : Array DictEntry) (ep : Nat) (bs : List Addr), xs = [V.ref p] ∧ H p = some (viewO "dict_values" p a) ∧ H a = some (dkO a od) ∧ od.ExactDict ∧ od.data = .dict es ep ∧ es.toList.map (·.val) = bs.map Value.ref ∧ bs.length ≤ 1000000 ∧ ∀ l, H l = none → Q (.ref l) (upd H l (.lst (bs.map V.ref)))) := by
  intro pins s σ H xs us Q I r h
  obtain ⟨p, a, od, es, ep, bs, rfl, hp, hd, hx, hdt, hk, hl, q⟩ := h
  obtain ⟨u, rfl, rx⟩ := r.one
  cases rx
  have ho : s.heap.get? a = some od := (show ObjOk X.prog X.w H s.heap a (dkO a od) from I.hok a _ hd).1
  have hv : s.heap.get? p = some (DSub.viewOb "dict_values" a) := (show ObjOk X.prog X.w H s.heap p (viewO "dict_values" p a) from I.hok p _ hp).1
  have l1 : es.size = bs.length := by rw [← Array.length_toList]; simpa using congrArg List.length hk
  have hz : bs.length ≤ sizeLine := Nat.le_trans hl Grow.sz
  refine PySem.W.kdl_call (KdlSrc.rawValues (r := p) (d := a) (es := es) (ep := ep)) (I.ok.hd hc) ⟨⟨_, hv, rfl, rfl⟩, ⟨od, ho, hx, hdt⟩⟩ (by omega) fun h' tk acc' c' kp e it => ?_
  have hl' : acc'.toList.length = bs.length := by rw [Array.length_toList, it.1]; exact l1
  have rv : Vals (bs.map V.ref) acc'.toList := by
    refine vals_of_at (by rw [List.length_map, hl']) fun j x w h1 h2 => ?_
    obtain ⟨hj, hw⟩ := it.2 j w (by rw [← Array.getElem?_toList]; exact h2)
    rw [List.getElem?_map] at h1
    cases hb : bs[j]? with
    | none => rw [hb] at h1; cases h1
    | some b =>
      rw [hb] at h1
      obtain rfl : V.ref b = x := Option.some.inj h1
      have z : (es.toList.map (·.val))[j]? = some (Value.ref b) := by rw [hk, List.getElem?_map, hb]; rfl
      rw [List.getElem?_map, Array.getElem?_toList, Array.getElem?_eq_getElem hj] at z
      have z : es[j].val = Value.ref b := Option.some.inj z
      rw [hw, z]
      rfl
  have hz' : (bs.map V.ref).length ≤ sizeLine := by rw [List.length_map]; exact hz
  exact ⟨.ref s.heap.objs.size, _, I.laid (t' := tk) (o := .lst (bs.map V.ref)) kp (Nat.le_refl _) ⟨hz', acc'.toList, c', rv, by rw [Array.toArray_toList]; exact e⟩, rfl, q _ (I.hok.fresh (Nat.le_refl _))⟩
end
end Dm

namespace Dm
open PySem L2 Evl
def SqZ (K : PySem.W.Frag) (κ : Zk) (H : Hp) (a : Addr) (xs : List V) : Prop := match κ with
  | .l => SqL K H a xs
  | .t => SqT K H a xs
  | .d n ep => ∃ (od : Obj) (es : Array DictEntry) (qs : List Addr), H a = some (dkO a od) ∧ od.ExactDict ∧ od.data = .dict es ep ∧ es.size = n ∧ (a == sysModules) = false ∧ es.toList.map (·.key) = qs.map Value.ref ∧ xs = qs.map V.ref
def IterZ (κ : Zk) (h : Heap) (it a : Addr) (i : Nat) : Prop := match κ with | .l => h.IsListIter it a i | .t => h.IsTupleIter it a i | .d n ep => h.IsKeyIter it a i n ep
def IsZ (κ : Zk) (h : Heap) (a : Addr) (items : Array Value) : Prop := match κ with | .l => h.IsList a items | .t => h.IsTuple a items | .d n ep => IsDk h a n ep items
def iterOz (κ : Zk) (a : Addr) : Obj := match κ with | .l => { cls := .type "list_iterator", data := .fields #[.ref a, .int 0 0] } | .t => { cls := .type "tuple_iterator", data := .fields #[.ref a, .int 0 0] } | .d n ep => { cls := .type "dict_keyiterator", data := .fields #[.ref a, .int 0 0, .int n 0, .int ep 0] }
section
variable {X : Cx} {pins : List (Addr × Obj)} {σ : St} {H : Hp} {s : Shared} {κ : Zk} {a it : Addr} {xs ys : List V} {i : Nat} {h h' : Heap}
theorem getZ (I : Inv X pins σ H s) (q : SqZ X.K κ H a xs) : ∃ its : List Value, Vals xs its ∧ IsZ κ s.heap a its.toArray ∧ a < s.heap.objs.size := by
  cases κ with
  | l =>
    obtain ⟨its, rv, p, _⟩ := I.list q
    exact ⟨its, rv, p.isList, p.lt⟩
  | t =>
    obtain ⟨its, rv, tl, _⟩ := I.tuple q
    have tl' : s.heap.IsTuple a its.toArray := tl
    exact ⟨its, rv, tl', by obtain ⟨_, y, _⟩ := tl'; exact Heap.lt_size y⟩
  | d n ep =>
    obtain ⟨od, es, qs, hd, hx, hdt, hn, hs, hk, rfl⟩ := q
    have ho : s.heap.get? a = some od := (show ObjOk X.prog X.w H s.heap a (dkO a od) from I.hok a _ hd).1
    have hi : (es.toList.map (·.key)).toArray = es.map (·.key) := by rw [← Array.toList_map, Array.toArray_toList]
    refine ⟨es.toList.map (·.key), ?_, ⟨od, es, ho, hx, hdt, hn, hs, hi⟩, Heap.lt_size ho⟩
    rw [hk]
    refine vals_of_at (by rw [List.length_map, List.length_map]) fun j x w h1 h2 => ?_
    rw [List.getElem?_map] at h1 h2
    cases hb : qs[j]? with
    | none => rw [hb] at h1; cases h1
    | some b => rw [hb] at h1 h2; cases h1; cases h2; rfl
theorem injZ (I : Inv X pins σ H s) (q : SqZ X.K κ H a xs) (q' : SqZ X.K κ H a ys) : xs = ys := by
  cases κ with
  | l => exact I.list_inj q q'
  | t => exact I.tuple_inj q q'
  | d n ep =>
    obtain ⟨od, es, qs, hd, hx, hdt, hn, hs, hk, rfl⟩ := q
    obtain ⟨od', es', qs', hd', hx', hdt', hn', hs', hk', rfl⟩ := q'
    have ho : s.heap.get? a = some od := (show ObjOk X.prog X.w H s.heap a (dkO a od) from I.hok a _ hd).1
    have ho' : s.heap.get? a = some od' := (show ObjOk X.prog X.w H s.heap a (dkO a od') from I.hok a _ hd').1
    rw [ho] at ho'; cases ho'
    rw [hdt] at hdt'; cases hdt'
    rw [hk] at hk'
    have e : qs = qs' := by
      refine List.ext_getElem? fun j => ?_
      have z := congrArg (fun l => l[j]?) hk'
      simp only [List.getElem?_map] at z
      cases h1 : qs[j]? with
      | none =>
        cases h2 : qs'[j]? with
        | none => rfl
        | some b => rw [h1, h2] at z; cases z
      | some b =>
        cases h2 : qs'[j]? with
        | none => rw [h1, h2] at z; cases z
        | some b' => rw [h1, h2] at z; cases z; rfl
    rw [e]
theorem drawsZ {prog : Program} {w : World} {A : Around} (hh : A.handled = none) (ne : a ≠ it) (items : Array Value) : Draws prog w A it [it, a] items.size (fun i v => items[i]? = some v) (fun i h => IterZ κ h it a i ∧ IsZ κ h a items) := by
  cases κ with
  | l => exact Draws.list hh it a ne items
  | t => exact Draws.tuple hh it a ne items
  | d n ep => exact drawsD hh ne n ep items
theorem beginsZ (items : Array Value) : Begins (.ref a) (iterOz κ a) fun h => IsZ κ h a items := by
  cases κ with
  | l => exact begins_list a items
  | t => exact begins_tuple a items
  | d n ep => exact begins_dk a n ep items
theorem iterZ_obj (q : IterZ κ h it a i) : ∃ o, h.get? it = some o ∧ ∀ v, o.data ≠ .cell v := by
  cases κ with
  | l => obtain ⟨o, ho, _, hd⟩ := q; exact ⟨o, ho, fun v z => by rw [hd] at z; cases z⟩
  | t => obtain ⟨o, ho, _, hd⟩ := q; exact ⟨o, ho, fun v z => by rw [hd] at z; cases z⟩
  | d n ep => obtain ⟨o, ho, _, hd⟩ := q; exact ⟨o, ho, fun v z => by rw [hd] at z; cases z⟩
theorem IterZ.at (q : IterZ κ h it a i) (k : ∀ o, h.get? it = some o → h'.get? it = some o) : IterZ κ h' it a i := by
  cases κ with
  | l => exact Heap.IsListIter.at q k
  | t => exact Heap.IsTupleIter.at q k
  | d n ep => exact Heap.IsKeyIter.at q k
theorem IterZ.new (q : h.get? it = some (iterOz κ a)) : IterZ κ h it a 0 := by
  cases κ with
  | l => exact ⟨_, q, rfl, rfl⟩
  | t => exact ⟨_, q, rfl, rfl⟩
  | d n ep => exact ⟨_, q, rfl, rfl⟩
end
def ItzZ (K : PySem.W.Frag) (κ μ : Zk) (a b : Addr) : It :=
  ⟨fun i H => ∃ (xs ys : List V) (x y : V), SqZ K κ H a xs ∧ SqZ K μ H b ys ∧ xs[i]? = some x ∧ ys[i]? = some y,
    fun i H v H' => ∃ T x y, v = .ref T ∧ H T = none ∧ H' = upd H T (.tup [x, y]) ∧ (∀ xs, SqZ K κ H a xs → xs[i]? = some x) ∧ ∀ ys, SqZ K μ H b ys → ys[i]? = some y,
    fun i H => ∃ xs ys : List V, SqZ K κ H a xs ∧ SqZ K μ H b ys ∧ i ≤ xs.length ∧ i ≤ ys.length ∧ (i = xs.length ∨ i = ys.length)⟩
theorem turn_zipZ {P : Program} {w : World} {K : PySem.W.Frag} {elts : List Expr} {kk : Nat} {tpos : Pos} {κ μ : Zk} {a b z TI TO i1 i2 : Addr} (D : ZipSep2 z TI TO i1 i2 [i1, a] [i2, b]) (na : a ≠ i1) (nb : b ≠ i2) :
    Turn P w K (.Tuple elts kk tpos) (ItzZ K κ μ a b) [z, TI, TO, i1, i2] z (fun i h => IsZip h z TI TO .none ∧ IsTupOf2 h TI (.ref i1) (.ref i2) ∧ (∃ x y, IsTupOf2 h TO x y) ∧ IterZ κ h i1 a i ∧ IterZ μ h i2 b i) where
  mem := by simp
  obj := fun i h st c hc => by
    obtain ⟨hz, hTI, ⟨x, y, hTO⟩, h1, h2⟩ := st
    have e' : c = z ∨ c = TI ∨ c = TO ∨ c = i1 ∨ c = i2 := by simpa using hc
    rcases e' with q | q | q | q | q
    · rw [q]; exact ⟨_, hz, fun v q => nomatch q⟩
    · rw [q]; exact ⟨_, hTI, fun v q => nomatch q⟩
    · rw [q]; exact ⟨_, hTO, fun v q => nomatch q⟩
    · rw [q]; exact iterZ_obj h1
    · rw [q]; exact iterZ_obj h2
  keep := fun i h h' st k => by
    obtain ⟨hz, hTI, ⟨x, y, hTO⟩, h1, h2⟩ := st
    exact ⟨k z (by simp) _ hz, k TI (by simp) _ hTI, ⟨x, y, k TO (by simp) _ hTO⟩, h1.at fun o q => k i1 (by simp) o q, h2.at fun o q => k i2 (by simp) o q⟩
  item := by
    intro X hP hw hK hc i pins s σ H E I hf st hg
    subst hP hw hK
    obtain ⟨hz, hTI, ⟨x0, y0, hTO⟩, h1, h2⟩ := st
    obtain ⟨xs, ys, x, y, hqx, hqy, hx, hy⟩ := hg
    obtain ⟨its, rv, p, la⟩ := getZ I hqx
    obtain ⟨its2, rv2, p2, lb⟩ := getZ I hqy
    obtain ⟨u, hu, ru⟩ := rv.get hx
    obtain ⟨u2, hu2, ru2⟩ := rv2.get hy
    have hzl : z < s.heap.objs.size := Heap.lt_size hz
    have l1 : i < its.toArray.size := by have := (List.getElem?_eq_some_iff.mp hu).1; simpa using this
    have l2 : i < its2.toArray.size := by have := (List.getElem?_eq_some_iff.mp hu2).1; simpa using this
    refine wpAny_pyNext_zipD2_item D (drawsZ (A := X.A.in1) (I.ok.hd hc) na its.toArray) (drawsZ (A := X.A.in1) (I.ok.hd hc) nb its2.toArray) hz hTI hTO ⟨h1, p⟩ ⟨h2, p2⟩ l1 l2 fun x1 x2 h' tk y1 y2 z' TO' st1 st2 hT hsz hk => ?_
    have ex1 : x1 = u := by
      have : its.toArray[i]? = some u := by simpa using hu
      have y1 : its.toArray[i]? = some x1 := y1
      rw [this] at y1; exact (Option.some.inj y1).symm
    have ex2 : x2 = u2 := by
      have : its2.toArray[i]? = some u2 := by simpa using hu2
      have y2 : its2.toArray[i]? = some x2 := y2
      rw [this] at y2; exact (Option.some.inj y2).symm
    subst ex1 ex2
    refine ⟨_, rfl, wpAny_letOwnedTupleGo_zip (s := { s with heap := h', toks := tk }) z' fun h'' z'' sb => ?_⟩
    have hT2 : h''.get? s.heap.objs.size = some { cls := .type "tuple", data := .seq #[x1, x2] } := (sb.2 _ (Nat.ne_of_gt hzl)).trans hT
    have new : ObjOk X.prog X.w (upd H s.heap.objs.size (.tup [x, y])) h'' s.heap.objs.size (.tup [x, y]) :=
      ⟨by show 2 ≤ sizeLine; decide, [x1, x2], .cons ru (.cons ru2 .nil), ⟨_, hT2, rfl, _, rfl⟩⟩
    have I1 : Inv X pins σ (upd H s.heap.objs.size (.tup [x, y])) { s with heap := h'', toks := tk } :=
      I.turnedNew (ch := [z, TI, TO, i1, i2]) (fun c o hb q => (sb.2 c (fun q' => hb (by simp [q']))).trans (hk c o (fun q' => hb (by simp [q'])) (fun q' => hb (by simp [q'])) (fun q' => hb (by simp [q'])) (fun q' => hb (by simp [q'])) q)) hf (Nat.le_refl _) new
    refine ⟨.ref s.heap.objs.size, _, I1, rfl, ⟨_, x, y, rfl, I.hok.fresh (Nat.le_refl _), rfl, fun l hl => by rw [injZ I hl hqx]; exact hx, fun l hl => by rw [injZ I hl hqy]; exact hy⟩, ⟨z'', ?_, ⟨x1, x2, ?_⟩, ?_, ?_⟩, fun c hcm => ?_⟩
    · exact (sb.2 _ D.TIz).trans (hk _ _ D.TIz D.TITO D.TIi1 D.TIi2 hTI)
    · exact (sb.2 _ D.TOz).trans TO'
    · exact st1.1.at fun o q => (sb.2 _ (Ne.symm D.zi1)).trans q
    · exact st2.1.at fun o q => (sb.2 _ (Ne.symm D.zi2)).trans q
    · have hlt : c < s.heap.objs.size := by
        have e' : c = z ∨ c = TI ∨ c = TO ∨ c = i1 ∨ c = i2 := by simpa using hcm
        rcases e' with q | q | q | q | q
        · rw [q]; exact hzl
        · rw [q]; exact Heap.lt_size hTI
        · rw [q]; exact Heap.lt_size hTO
        · rw [q]; obtain ⟨_, e1, _⟩ := iterZ_obj h1; exact Heap.lt_size e1
        · rw [q]; obtain ⟨_, e2, _⟩ := iterZ_obj h2; exact Heap.lt_size e2
      rw [upd_ne (Nat.ne_of_lt hlt)]
      exact (hf c hcm).1
  done := by
    intro X hP hw hK hc i pins s σ H E I hf st hg
    subst hP hw hK
    obtain ⟨hz, hTI, ⟨x0, y0, hTO⟩, h1, h2⟩ := st
    obtain ⟨xs, ys, hqx, hqy, le1, le2, hend⟩ := hg
    obtain ⟨its, rv, p, _⟩ := getZ I hqx
    obtain ⟨its2, rv2, p2, _⟩ := getZ I hqy
    have l1 := rv.length
    have l2 := rv2.length
    have z1 : its.toArray.size = xs.length := by rw [List.size_toArray]; exact l1.symm
    have z2 : its2.toArray.size = ys.length := by rw [List.size_toArray]; exact l2.symm
    exact wpAny_pyNext_zipD2_end D (drawsZ (A := X.A.in1) (I.ok.hd hc) na its.toArray) (drawsZ (A := X.A.in1) (I.ok.hd hc) nb its2.toArray) hz hTI hTO ⟨h1, p⟩ ⟨h2, p2⟩ (by omega) (by omega) (by omega) fun h' tk hk => ⟨rfl, I.turnedL (ch := [z, TI, TO, i1, i2]) (fun c o hb q =>
      hk c o (fun q' => hb (by simp [q'])) (fun q' => hb (by simp [q'])) (fun q' => hb (by simp [q'])) (fun q' => hb (by simp [q'])) q) hf⟩
  self := fun A i s Q E st h => wpAny_pyIter_zip st.1 h
def iZipZ (K : PySem.W.Frag) (ta : TA) : TI := fun σ H R => ta σ H fun vs H1 => ∃ a b κ μ xs ys, vs = [.ref a, .ref b] ∧ SqZ K κ H1 a xs ∧ SqZ K μ H1 b ys ∧ R (ItzZ K κ μ a b) H1
theorem pi_zipZ {X : Cx} {e e2 : Expr} {ta : TA} {p pos tpos : Pos} {elts : List Expr} {kk : Nat} (hg : Gl X "zip") (hm : X.mg "zip" = none) (ha : PA X [e, e2] ta)
    (hs : starEach [e, e2] X.env = (false, eval e X.env) :: starEach [e2] X.env := by rfl) (hpl : (backTo pos (starEach [e2] X.env)).any (·.1) = false := by rfl) :
    PI X (.Tuple elts kk tpos) (.Call (.Name "zip" p) [e, e2] [] pos) (iZipZ X.K ta) := by
  refine ⟨fun pins s σ H R I h => ?_⟩
  refine PyProof.Rows.Call_ (ld_blt I hg hm PyProof.Rows.boot_zip (PyProof.Rows.callWith_type1 (thn (ha.run pos pins s σ H _ I h) fun us s1 ⟨vs, H1, I1, r1, q1⟩ => ?_) hs hpl))
  obtain ⟨a, b, κ, μ, xs, ys, ex, hqx, hqy, q⟩ := q1
  subst ex
  cases r1 with
  | cons r rr =>
    cases rr with
    | cons r' rr =>
      cases rr
      cases r
      cases r'
      obtain ⟨its, rv, p1, la⟩ := getZ I1 hqx
      obtain ⟨its2, rv2, p2, lb⟩ := getZ I1 hqy
      refine zip_begins2 (beginsZ its.toArray) (beginsZ its2.toArray) p1 p2 fun h' hz hTI hTO h1 h2 hsz hk => wpAny_pyIter_zip hz ?_
      have I2 : Inv X pins σ H1 { s1 with heap := h' } := I1.kept (t' := s1.toks) hk
      refine ⟨s1.heap.objs.size + 4, [s1.heap.objs.size + 4, s1.heap.objs.size + 2, s1.heap.objs.size + 3, s1.heap.objs.size, s1.heap.objs.size + 1], _, _, H1, rfl, I2, turn_zipZ (sep_new la lb) (Nat.ne_of_lt la) (Nat.ne_of_lt (Nat.lt_succ_of_lt lb)), ⟨hz, hTI, ⟨_, _, hTO⟩, .new h1, .new h2⟩, fun c hcm => ?_, q⟩
      have e' : c = s1.heap.objs.size + 4 ∨ c = s1.heap.objs.size + 2 ∨ c = s1.heap.objs.size + 3 ∨ c = s1.heap.objs.size ∨ c = s1.heap.objs.size + 1 := by simpa using hcm
      have hle : s1.heap.objs.size ≤ c := by
        rcases e' with z | z | z | z | z
        · rw [z]; exact Nat.le_add_right _ _
        · rw [z]; exact Nat.le_add_right _ _
        · rw [z]; exact Nat.le_add_right _ _
        · rw [z]; exact Nat.le_refl _
        · rw [z]; exact Nat.le_add_right _ _
      exact I1.fpOk hle (I1.hok.fresh hle)
section
variable {K : Cz} {W : WX}
theorem it_zipZ {p : Addr} {G : Hp} {κ μ : Zk} {a b : Addr} {xs ys : List V} {ds es : List D} (h : ∀ G' H' c, Ex G G' → Wd K p c G' H' → SqZ K.K κ H' a xs) (h' : ∀ G' H' c, Ex G G' → Wd K p c G' H' → SqZ K.K μ H' b ys) (r : RpL K p G xs ds) (r' : RpL K p G ys es) : ItOk K p (ItzZ K.K κ μ a b) G (zipD ds es) := by
  intro i c G' H' e w
  have s1 := h G' H' c e w
  have s2 := h' G' H' c e w
  refine ⟨fun d hd => ?_, fun hi _ => ?_⟩
  · unfold zipD at hd
    rw [List.getElem?_zipWith] at hd
    cases q1 : ds[i]? with
    | none => rw [q1] at hd; simp at hd
    | some x =>
      cases q2 : es[i]? with
      | none => rw [q1, q2] at hd; simp at hd
      | some y =>
        rw [q1, q2] at hd
        have hd : D.tup [x, y] = d := Option.some.inj hd
        obtain ⟨v, hv, rv⟩ := r.get q1
        obtain ⟨u, hu, ru⟩ := r'.get q2
        refine ⟨⟨xs, ys, v, u, s1, s2, hv, hu⟩, fun z H'' q => ?_⟩
        obtain ⟨T, v', u', rfl, hT, rfl, k1, k2⟩ := q
        have := k1 xs s1
        rw [hv] at this; cases this
        have := k2 ys s2
        rw [hu] at this; cases this
        refine ⟨_, Grow.laid hT w.sub, w.laid hT, ?_⟩
        rw [← hd]
        have ex := (Grow.laid (p := p) (o := .tup [v, u]) hT w.sub).ex
        exact .tup upd_same (.cons ((rv.up e).up ex) (.cons ((ru.up e).up ex) .nil))
  · have hl : (zipD ds es).length = min ds.length es.length := by unfold zipD; rw [List.length_zipWith]
    rw [hl] at hi
    refine ⟨xs, ys, s1, s2, ?_, ?_, ?_⟩
    · rw [r.len]; omega
    · rw [r'.len]; omega
    · rw [r.len, r'.len]; omega
end
end Dm

namespace Dm
open PySem L2 Evl
open PySem.Calls PyProof.Rows PyProof.V PySem.Spec PySem.W
theorem zl_no_len : typeLookup (.type "zip") "__len__" = pure none := am_miss_of_fast (by decide +kernel)
theorem zl_no_hint : typeLookup (.type "zip") "__length_hint__" = pure none := am_miss_of_fast (by decide +kernel)
structure ZlSt (z TI TO i1 i2 l1 l2 S : Addr) (xs ys : Array Value) (i : Nat) (h : Heap) : Prop where
  ti : IsPair h TI (.ref i1) (.ref i2)
  h1 : h.IsListIter i1 l1 i
  h2 : h.IsListIter i2 l2 i
  l1 : h.IsList l1 xs
  l2 : h.IsList l2 ys
  z : (IsZip h z TI TO .none ∧ ∃ a b, IsPair h TO a b) ∨ ∃ T f oT, IsZipHeld h z TI TO T f ∧ h.get? T = some oT ∧ T ≠ z ∧ T ≠ i1 ∧ T ≠ i2 ∧ T ≠ S
/-- S lies behind all of it -/
structure ZlLt (z TI TO i1 i2 l1 l2 S : Addr) : Prop where
  z : z < S
  TI : TI < S
  TO : TO < S
  i1 : i1 < S
  i2 : i2 < S
  l1 : l1 < S
  l2 : l2 < S
section
variable {prog : Program} {w : World} {A : Around} {E : Value → Shared → Prop} {s : Shared} {z TI TO i1 i2 l1 l2 S : Addr} {xs ys : Array Value} {i : Nat}
theorem ZlSt.keep {h h' : Heap} (L : ZlLt z TI TO i1 i2 l1 l2 S) (st : ZlSt z TI TO i1 i2 l1 l2 S xs ys i h) (hk : ∀ b o, b ≠ S → h.get? b = some o → h'.get? b = some o) : ZlSt z TI TO i1 i2 l1 l2 S xs ys i h' := by
  have ne : ∀ {b : Addr}, b < S → b ≠ S := fun q => Nat.ne_of_lt q
  refine ⟨hk _ _ (ne L.TI) st.ti, st.h1.at fun o e => hk _ o (ne L.i1) e, st.h2.at fun o e => hk _ o (ne L.i2) e, st.l1.at fun o e => hk _ o (ne L.l1) e, st.l2.at fun o e => hk _ o (ne L.l2) e, ?_⟩
  rcases st.z with ⟨hz, a, b, hTO⟩ | ⟨T, f, oT, hz, hT, r1, r2, r3, r4⟩
  · exact .inl ⟨hk _ _ (ne L.z) hz, a, b, hk _ _ (ne L.TO) hTO⟩
  · exact .inr ⟨T, f, oT, hk _ _ (ne L.z) hz, hk _ _ r4 hT, r1, r2, r3, r4⟩
theorem zl_item {x y : Value} {Q : Option Value → Shared → Prop} (D : ZipApart z TI TO i1 i2 l1 l2) (st : ZlSt z TI TO i1 i2 l1 l2 S xs ys i s.heap) (hS : S < s.heap.objs.size) (ex : xs[i]? = some x) (ey : ys[i]? = some y)
    (hQ : ∀ h', ZlSt z TI TO i1 i2 l1 l2 S xs ys (i + 1) h' → IsPair h' s.heap.objs.size x y → h'.objs.size = s.heap.objs.size + 1 → (∀ c o, c ≠ z → c ≠ TO → c ≠ i1 → c ≠ i2 → s.heap.get? c = some o → h'.get? c = some o) → Q (some (.ref s.heap.objs.size)) { s with heap := h' }) :
    wpAny (model prog w) A (pyNext (.ref z)) Q E s := by
  obtain ⟨hTI, h1, h2, hl1, hl2, hz⟩ := st
  have lt : ∀ {c o}, s.heap.get? c = some o → s.heap.objs.size ≠ c := fun e => Nat.ne_of_gt (Heap.lt_size e)
  have n1 : s.heap.objs.size ≠ i1 := let ⟨_, e, _⟩ := h1; lt e
  have n2 : s.heap.objs.size ≠ i2 := let ⟨_, e, _⟩ := h2; lt e
  rcases hz with ⟨hz, a, b, hTO⟩ | ⟨T, f, oT, hz, hT, r1, r2, r3, r4⟩
  · refine wpAny_pyNext_zip_item D hz hTI hTO h1 h2 hl1 hl2 ex ey fun h' a1 a2 a3 a4 a5 a6 hk => ?_
    exact hQ h' ⟨hk _ _ D.TIz D.TITO D.TIi1 D.TIi2 hTI, a3, a4, hl1.at fun o e => hk _ o D.l1z D.l1TO D.l1i1 D.l1i2 e, hl2.at fun o e => hk _ o D.l2z D.l2TO D.l2i1 D.l2i2 e,
        .inr ⟨s.heap.objs.size, false, _, a1, a5, lt hz, n1, n2, Nat.ne_of_gt hS⟩⟩ a5 a6 hk
  · refine wpAny_pyNext_zip_item_held D hz hT hTI h1 h2 hl1 hl2 ex ey fun h' a1 a3 a4 a5 a6 hk => ?_
    exact hQ h' ⟨hk _ _ D.TIz D.TIi1 D.TIi2 hTI, a3, a4, hl1.at fun o e => hk _ o D.l1z D.l1i1 D.l1i2 e, hl2.at fun o e => hk _ o D.l2z D.l2i1 D.l2i2 e,
        .inr ⟨T, true, oT, a1, hk _ _ r1 r2 r3 hT, r1, r2, r3, r4⟩⟩ a5 a6 fun c o c1 c2 c3 c4 e => hk c o c1 c3 c4 e
theorem zl_done {Q : Option Value → Shared → Prop} (hh : A.handled = none) (D : ZipApart z TI TO i1 i2 l1 l2) (st : ZlSt z TI TO i1 i2 l1 l2 S xs ys i s.heap) (hend : xs[i]? = none ∨ ys[i]? = none)
    (hQ : ∀ h', (∀ c o, c ≠ z → c ≠ TO → c ≠ i1 → c ≠ i2 → s.heap.get? c = some o → h'.get? c = some o) → Q none { s with heap := h' }) : wpAny (model prog w) A (pyNext (.ref z)) Q E s := by
  obtain ⟨hTI, h1, h2, hl1, hl2, hz⟩ := st
  rcases hz with ⟨hz, a, b, hTO⟩ | ⟨T, f, oT, hz, hT, r1, r2, r3, r4⟩
  · exact wpAny_pyNext_zip_end hh D hz hTI hTO h1 h2 hl1 hl2 hend fun h' hk => hQ h' hk
  · exact wpAny_pyNext_zip_end_held hh D hz hT hTI h1 h2 hl1 hl2 hend fun h' hk => hQ h' fun c o c1 c2 c3 c4 e => hk c o c1 c3 c4 e
structure ZlG (xs ys : Array Value) (lo : Addr) (h : Heap) (as : List Addr) : Prop where
  rise : as.Pairwise (· < ·)
  above : ∀ a ∈ as, lo < a
  pairs : ∀ (j : Nat) (a : Addr), as[j]? = some a → ∃ x y, xs[j]? = some x ∧ ys[j]? = some y ∧ IsPair h a x y
theorem ZlG.there {lo : Addr} {h : Heap} {as : List Addr} (g : ZlG xs ys lo h as) {a : Addr} (ha : a ∈ as) : a < h.objs.size := by
  obtain ⟨j, hj⟩ := List.mem_iff_getElem?.mp ha
  obtain ⟨_, _, _, _, e⟩ := g.pairs j a hj
  exact Heap.lt_size e
theorem zl_loop {R : Result → Shared → Prop} (hh : A.handled = none) (D : ZipApart z TI TO i1 i2 l1 l2) (L : ZlLt z TI TO i1 i2 l1 l2 S) (hn : min xs.size ys.size ≤ sizeLine) (res : Value) {h₁ : Heap}
    (hR : ∀ h' tk acc c as, (∀ b o, b ≠ S → b ≠ z → b ≠ TO → b ≠ i1 → b ≠ i2 → h₁.get? b = some o → h'.get? b = some o) → h'.get? S = some { cls := .type "list", dict := none, data := .seq acc c, slots := #[] } → as.length = min xs.size ys.size → ZlG xs ys S h' as →
      acc.toList = as.map Value.ref → R (.ok (.ret res)) { s with heap := h', toks := tk }) :
    ∀ (k i : Nat) (h : Heap) (tk c : Nat) (acc : Array Value) (as : List Addr), min xs.size ys.size - i = k → i ≤ min xs.size ys.size → ZlSt z TI TO i1 i2 l1 l2 S xs ys i h → (∀ b o, b ≠ S → b ≠ z → b ≠ TO → b ≠ i1 → b ≠ i2 → h₁.get? b = some o → h.get? b = some o) →
      h.get? S = some { cls := .type "list", dict := none, data := .seq acc c, slots := #[] } → acc.toList = as.map Value.ref → as.length = i → ZlG xs ys S h as →
      codeAny (model prog w) A (.builtin "list.extend.loop" ⟨[.ref S, .ref z, res], []⟩) R { s with heap := h, toks := tk } := by
  have nS : ∀ {b : Addr}, b < S → S ≠ b := fun q => Nat.ne_of_gt q
  intro k
  induction k with
  | zero =>
    intro i h tk c acc as hk hi hst hkeep hS hacc hal hG
    have hin : i = min xs.size ys.size := by omega
    have hend : xs[i]? = none ∨ ys[i]? = none := by
      rcases Nat.le_total xs.size ys.size with q | q
      · exact .inl (Array.getElem?_eq_none (by omega))
      · exact .inr (Array.getElem?_eq_none (by omega))
    refine codeAny_builtin PySem.F.entry_extend_loop ?_
    rw [Around.under_plainId PySem.F.plain_extend_loop _]
    show wpAny _ A.in1 (pyNext (.ref z) >>= _) _ _ _
    refine wpAny_bind (zl_done (s := { s with heap := h, toks := tk }) (A := A.in1) hh D hst hend fun h' he => ?_)
    refine wpAny_pure (hR h' tk acc c as (fun b o b0 b1 b2 b3 b4 e => he b o b1 b2 b3 b4 (hkeep b o b0 b1 b2 b3 b4 e)) (he S _ (nS L.z) (nS L.TO) (nS L.i1) (nS L.i2) hS) (by omega) ⟨hG.rise, hG.above, fun j a hj => ?_⟩ hacc)
    obtain ⟨x, y, e1, e2, e3⟩ := hG.pairs j a hj
    have ab := hG.above a (List.mem_of_getElem? hj)
    have na : ∀ {b : Addr}, b < S → a ≠ b := fun q => Nat.ne_of_gt (Nat.lt_trans q ab)
    exact ⟨x, y, e1, e2, he a _ (na L.z) (na L.TO) (na L.i1) (na L.i2) e3⟩
  | succ k ih =>
    intro i h tk c acc as hk hi hst hkeep hS hacc hal hG
    have hx : xs[i]? = some xs[i] := Array.getElem?_eq_getElem (by omega)
    have hy : ys[i]? = some ys[i] := Array.getElem?_eq_getElem (by omega)
    have hsz : acc.size = i := by rw [← Array.length_toList, hacc, List.length_map, hal]
    have hSl : S < h.objs.size := Heap.lt_size hS
    refine codeAny_builtin PySem.F.entry_extend_loop ?_
    rw [Around.under_plainId PySem.F.plain_extend_loop _]
    show wpAny _ A.in1 (pyNext (.ref z) >>= _) _ _ _
    refine wpAny_bind (zl_item (s := { s with heap := h, toks := tk }) D hst hSl hx hy fun h' hst' ht hz hkp => ?_)
    dsimp only at ht hz hkp ⊢
    have hS' := hkp S _ (nS L.z) (nS L.TO) (nS L.i1) (nS L.i2) hS
    have up : ∀ b o, b ≠ S → h'.get? b = some o → (h'.update S (Obj.mapSeq (·.push (Value.ref h.objs.size)))).get? b = some o := fun b o hb e => (Heap.get?_update_other _ _ (Ne.symm hb)).trans e
    have upG : ∀ {a x y}, S < a → IsPair h a x y → IsPair (h'.update S (Obj.mapSeq (·.push (Value.ref h.objs.size)))) a x y := fun {a x y} ab e => by
      have na : ∀ {b : Addr}, b < S → a ≠ b := fun q => Nat.ne_of_gt (Nat.lt_trans q ab)
      exact up a _ (Nat.ne_of_gt ab) (hkp a _ (na L.z) (na L.TO) (na L.i1) (na L.i2) e)
    show wpAny _ A.in1 (updateSeq S (·.push (Value.ref h.objs.size)) >>= _) _ _ _
    refine wpAny_bind ?_
    refine wpAny_updateSeq hS' rfl (wpAny_pure ⟨plainId_quiet PySem.F.plain_extend_loop _, ih (i + 1) _ tk _ (acc.push (Value.ref h.objs.size)) (as ++ [h.objs.size]) (by omega) (by omega) (hst'.keep L up)
      (fun b o b0 b1 b2 b3 b4 e => up b o b0 (hkp b o b1 b2 b3 b4 (hkeep b o b0 b1 b2 b3 b4 e))) (Heap.get?_update_self _ hS' rfl) (by rw [Array.toList_push, hacc, List.map_append]; rfl) (by rw [List.length_append, hal]; rfl) ⟨?_, ?_, ?_⟩⟩) (by rw [hsz]; omega) (by show (acc.push (Value.ref h.objs.size)).size ≤ sizeLine + 1; rw [Array.size_push, hsz]; omega)
    · refine List.pairwise_append.mpr ⟨hG.rise, List.pairwise_singleton _ _, fun a ha b hb => ?_⟩
      rw [List.mem_singleton.mp hb]
      exact hG.there ha
    · intro a ha
      rcases List.mem_append.mp ha with ha | ha
      · exact hG.above a ha
      · rw [List.mem_singleton.mp ha]; exact hSl
    · intro j b hj
      rcases Nat.lt_trichotomy j as.length with h1 | h1 | h1
      · rw [List.getElem?_append_left h1] at hj
        obtain ⟨x, y, e1, e2, e3⟩ := hG.pairs j b hj
        exact ⟨x, y, e1, e2, upG (hG.above b (List.mem_of_getElem? hj)) e3⟩
      · subst h1
        have hb : h.objs.size = b := by simpa using hj
        subst hb
        exact ⟨_, _, by rw [hal]; exact hx, by rw [hal]; exact hy, up _ _ (Nat.ne_of_gt hSl) ht⟩
      · have hnone : (as ++ [h.objs.size])[j]? = none := List.getElem?_eq_none (by rw [List.length_append, List.length_singleton]; omega)
        rw [hnone] at hj; cases hj
theorem zl_hint {Q : Bool → Shared → Prop} (hT : s.TypeIs (.ref z) "zip") (h : Q true s) : wpAny (model prog w) A (Builtin.List.listLengthHint (.ref z)) Q E s := by
  unfold Builtin.List.listLengthHint
  refine wpAny_bind (wpAny_specialOf hT zl_no_len ?_)
  refine wpAny_bind (wpAny_specialOf hT zl_no_hint ?_)
  exact wpAny_pure h
theorem zl_extend {R : Result → Shared → Prop} (hh : A.handled = none) (D : ZipApart z TI TO i1 i2 l1 l2) (L : ZlLt z TI TO i1 i2 l1 l2 S) (hn : min xs.size ys.size ≤ sizeLine) (st : ZlSt z TI TO i1 i2 l1 l2 S xs ys 0 s.heap) (hz : IsZip s.heap z TI TO .none) (res : Value) (c₀ : Nat)
    (hS : s.heap.get? S = some { cls := .type "list", data := .seq #[] c₀ })
    (hR : ∀ h' tk acc c as, (∀ b o, b ≠ S → b ≠ z → b ≠ TO → b ≠ i1 → b ≠ i2 → s.heap.get? b = some o → h'.get? b = some o) → h'.get? S = some { cls := .type "list", dict := none, data := .seq acc c, slots := #[] } → as.length = min xs.size ys.size → ZlG xs ys S h' as →
      acc.toList = as.map Value.ref → R (.ok (.ret res)) { s with heap := h', toks := tk }) :
    wpAny (model prog w) A.in1 (Builtin.List.listExtendWith (.ref S) (.ref z) res)
      (fun fin s' => match fin with | .done f => R (.ok f) s' | .again c' => c'.quiet = true ∧ codeAny (model prog w) A c' R s') (fun e s' => R (.error e) s') s := by
  have key : ∀ (h : Heap) (c₁ tk : Nat), (∀ b o, b ≠ S → s.heap.get? b = some o → h.get? b = some o) →
      h.get? S = some { cls := .type "list", data := .seq #[] c₁ } → codeAny (model prog w) A (.builtin "list.extend.loop" ⟨[.ref S, .ref z, res], []⟩) R { s with heap := h, toks := tk } := fun h c₁ tk hk hS₁ =>
    zl_loop (s := s) hh D L hn res (h₁ := s.heap) hR _ 0 h tk c₁ #[] [] rfl (Nat.zero_le _) (st.keep L hk) (fun b o b0 _ _ _ _ e => hk b o b0 e) hS₁ rfl rfl ⟨List.Pairwise.nil, (fun _ ha => nomatch ha), (fun j a hj => by simp at hj)⟩
  have hT : s.TypeIs (.ref z) "zip" := ⟨_, hz, rfl⟩
  unfold Builtin.List.listExtendWith
  refine wpAny_bind (wpAny_typeOf (T := "zip") hT ?_)
  have h1 : Builtin.List.listSameRef (.ref S) (.ref z) = false := by simp [Builtin.List.listSameRef, (Nat.ne_of_gt L.z : S ≠ z)]
  have h2 : (Value.type "zip" == Value.type "list") = false := by decide
  have h3 : (Value.type "zip" == Value.type "tuple") = false := by decide
  simp only [h1, h2, h3, Bool.or_false, Bool.false_eq_true, if_false]
  refine wpAny_bind (wpAny_pyIter_zip hz ?_)
  refine wpAny_bind (wpAny_holding (zl_hint hT ?_))
  refine wpAny_ite_split (fun _ => ?_) (fun _ => wpAny_pure ⟨plainId_quiet PySem.F.plain_extend_loop _, key _ c₀ _ (fun b o _ e => e) hS⟩)
  refine wpAny_bind (wpAny_rule ?_)
  refine wpAny_bind ?_
  show wpAny _ _ (updateSeq S (·.push .none) >>= fun _ => updateSeq S (·.pop)) _ _ _
  refine wpAny_bind (wpAny_updateSeq hS rfl ?_)
  have hS₂ := Heap.get?_update_self (Obj.mapSeq (·.push Value.none)) hS rfl
  refine wpAny_updateSeq (hz := by seq_fits) hS₂ rfl ?_
  have hS₃ := Heap.get?_update_self (Obj.mapSeq (·.pop)) hS₂ rfl
  refine wpAny_pure ⟨plainId_quiet PySem.F.plain_extend_loop _, key _ _ _ (fun b o hb e => ?_) hS₃⟩
  exact (Heap.get?_update_other _ _ (Ne.symm hb)).trans ((Heap.get?_update_other _ _ (Ne.symm hb)).trans e)
theorem zl_init {R : Result → Shared → Prop} (hh : A.handled = none) (D : ZipApart z TI TO i1 i2 l1 l2) (L : ZlLt z TI TO i1 i2 l1 l2 S) (hn : min xs.size ys.size ≤ sizeLine) (st : ZlSt z TI TO i1 i2 l1 l2 S xs ys 0 s.heap) (hz : IsZip s.heap z TI TO .none)
    (hS : s.heap.get? S = some { cls := .type "list", data := .seq #[] })
    (hR : ∀ h' tk acc c as, (∀ b o, b ≠ S → b ≠ z → b ≠ TO → b ≠ i1 → b ≠ i2 → s.heap.get? b = some o → h'.get? b = some o) → h'.get? S = some { cls := .type "list", dict := none, data := .seq acc c, slots := #[] } → as.length = min xs.size ys.size → ZlG xs ys S h' as →
      acc.toList = as.map Value.ref → R (.ok (.ret .none)) { s with heap := h', toks := tk }) :
    wpAny (model prog w) A.in1 (Builtin.«list.__init__» ⟨[.ref S, .ref z], []⟩)
      (fun fin s' => match fin with | .done f => R (.ok f) s' | .again c' => c'.quiet = true ∧ codeAny (model prog w) A c' R s') (fun e s' => R (.error e) s') s := by
  show wpAny _ _ (do let old ← Builtin.List.listItems (.ref S); Builtin.List.listUpdate (.ref S) (fun _ => #[]); letGo old.toList.reverse; Builtin.List.listExtendWith (.ref S) (.ref z) .none) _ _ s
  refine wpAny_bind ?_
  unfold Builtin.List.listItems
  refine wpAny_bind (wpAny_seqItems hS rfl (wpAny_pure ?_))
  show wpAny _ _ (updateSeq S (fun _ => #[]) >>= fun _ => letGo (#[] : Array Value).toList.reverse >>= fun _ => Builtin.List.listExtendWith (.ref S) (.ref z) .none) _ _ s
  refine wpAny_bind (wpAny_updateSeq hS rfl ?_)
  have hS₂ := Heap.get?_update_self (Obj.mapSeq (fun _ => (#[] : Array Value))) hS rfl
  have oth : ∀ b o, b ≠ S → s.heap.get? b = some o → (s.heap.update S (Obj.mapSeq (fun _ => (#[] : Array Value)))).get? b = some o :=
    fun b o hb e => (Heap.get?_update_other _ _ (Ne.symm hb)).trans e
  refine wpAny_bind (wpAny_letGo ?_)
  exact zl_extend hh D L hn (st.keep L oth) (oth _ _ (Nat.ne_of_lt L.z) hz) .none _ hS₂ fun h' tk acc c as hk hS' hl hG hacc => hR h' tk acc c as (fun b o b0 b1 b2 b3 b4 e => hk b o b0 b1 b2 b3 b4 (oth b o b0 e)) hS' hl hG hacc
theorem zl_call {Q : Value → Shared → Prop} (hh : A.handled = none) (D : ZipApart z TI TO i1 i2 l1 l2) (L : ZlLt z TI TO i1 i2 l1 l2 s.heap.objs.size) (hn : min xs.size ys.size ≤ sizeLine) (hTI : IsPair s.heap TI (.ref i1) (.ref i2)) (hTO : ∃ a b, IsPair s.heap TO a b)
    (h1 : s.heap.IsListIter i1 l1 0) (h2 : s.heap.IsListIter i2 l2 0) (hl1 : s.heap.IsList l1 xs) (hl2 : s.heap.IsList l2 ys) (hz : IsZip s.heap z TI TO .none)
    (hQ : ∀ h' tk acc c as, (∀ b o, b ≠ z → b ≠ TO → b ≠ i1 → b ≠ i2 → s.heap.get? b = some o → h'.get? b = some o) → h'.get? s.heap.objs.size = some { cls := .type "list", dict := none, data := .seq acc c, slots := #[] } → as.length = min xs.size ys.size → ZlG xs ys s.heap.objs.size h' as →
      acc.toList = as.map Value.ref → Q (.ref s.heap.objs.size) { s with heap := h', toks := tk }) :
    wpAny (model prog w) A (call (.type "list") [.ref z]) Q E s := by
  refine callType_codes (Q₁ := fun obj s₁ => obj = .ref s.heap.objs.size ∧ s₁ = { s with heap := s.heap.push { cls := .type "list", data := .seq #[] } }) PySem.F.called_list (PySem.F.typeCall_list_1 _) PySem.F.entry_list_init
    (code_list_new _ ⟨rfl, rfl⟩) fun obj s₁ h₁ => ?_
  obtain ⟨rfl, rfl⟩ := h₁
  have hS : (s.heap.push { cls := .type "list", data := .seq #[] }).get? s.heap.objs.size = some { cls := .type "list", data := .seq #[] } := Heap.get?_push_size _ rfl
  have up : ∀ b o, s.heap.get? b = some o → (s.heap.push { cls := .type "list", data := .seq #[] }).get? b = some o := fun b o e => Heap.get?_push_of_some _ e
  obtain ⟨a, b, hTO⟩ := hTO
  refine ⟨⟨_, hS, rfl⟩, PySem.F.args_list_init_2 _ _, zl_init (A := A.in1) hh D L hn ⟨up _ _ hTI, h1.at fun o e => up _ o e, h2.at fun o e => up _ o e, hl1.at fun o e => up _ o e, hl2.at fun o e => up _ o e, .inl ⟨up _ _ hz, a, b, up _ _ hTO⟩⟩ (up _ _ hz) hS (fun h' tk acc c as hk hS' hl hG hacc => ?_)⟩
  exact ⟨rfl, hQ h' tk acc c as (fun b o b1 b2 b3 b4 e => hk b o (Nat.ne_of_lt (Heap.lt_size e)) b1 b2 b3 b4 (up b o e)) hS' hl hG hacc⟩
end
def layT (H : Hp) : List Addr → List HO → Hp
  | a :: as, o :: os => layT (upd H a o) as os
  | _, _ => H
theorem layT_ne : ∀ {as : List Addr} {os : List HO} {H : Hp} {b : Addr}, b ∉ as → layT H as os b = H b
  | [], _, _, _, _ => rfl
  | _ :: _, [], _, _, _ => rfl
  | a :: as, o :: os, H, b, h => by
    show layT (upd H a o) as os b = H b
    rw [layT_ne fun q => h (List.mem_cons_of_mem _ q), upd_ne fun q => h (by rw [q]; exact List.mem_cons_self)]
theorem layT_at : ∀ {as : List Addr} {os : List HO} {H : Hp} {j : Nat} {a : Addr} {o : HO}, as.Nodup → as[j]? = some a → os[j]? = some o → layT H as os a = some o
  | [], _, _, _, _, _, _, h, _ => by simp at h
  | _ :: _, [], _, _, _, _, _, _, h => by simp at h
  | a :: as, o :: os, H, 0, _, _, n, h1, h2 => by
    simp at h1 h2; subst h1 h2
    show layT (upd H a o) as os a = some o
    rw [layT_ne (List.nodup_cons.mp n).1, upd_same]
  | a :: as, o :: os, H, j + 1, _, _, n, h1, h2 => layT_at (H := upd H a o) (j := j) (List.nodup_cons.mp n).2 (by simpa using h1) (by simpa using h2)
theorem layT_inv : ∀ {as : List Addr} {os : List HO} {H : Hp} {b : Addr} {u : HO}, layT H as os b = some u → H b = some u ∨ ∃ j : Nat, as[j]? = some b ∧ os[j]? = some u
  | [], _, _, _, _, h => .inl h
  | _ :: _, [], _, _, _, h => .inl h
  | a :: as, o :: os, H, b, u, h => by
    have h : layT (upd H a o) as os b = some u := h
    rcases layT_inv h with q | ⟨j, q1, q2⟩
    · by_cases e : b = a
      · subst e; rw [upd_same] at q; cases q; exact .inr ⟨0, rfl, rfl⟩
      · rw [upd_ne e] at q; exact .inl q
    · exact .inr ⟨j + 1, by simpa using q1, by simpa using q2⟩
section
variable {X : Cx} {pins : List (Addr × Obj)} {σ : L2.St} {H H' : Hp} {s : Shared} {h' : Heap}
theorem Inv.laidAll {ch : List Addr} {t' : Nat} (I : Inv X pins σ H s) (k : ∀ b o, b ∉ ch → s.heap.get? b = some o → h'.get? b = some o) (hf : ∀ b ∈ ch, FpOk X pins H b) (hb : ∀ b ∈ ch, H' b = none) (old : ∀ b o, H b = some o → H' b = some o)
    (new : ∀ b o, H' b = some o → H b = some o ∨ (s.heap.get? b = none ∧ ObjOk X.prog X.w H' h' b o)) : Inv X pins σ H' { s with heap := h', toks := t' } := by
  have nit : ∀ b u, H b = some u → b ∉ ch := fun b u e z => by
    have q := (hf b z).1
    rw [q] at e; cases e
  refine I.step (g' := s.gens) (d' := s.drawn) (ch := ch) (fun b hb => ⟨(hf b hb).2.2.2.1, (hf b hb).2.1, (hf b hb).2.2.2.2.1, (hf b hb).2.2.2.2.2⟩) (fun b o _ _ hc e _ => k b o hc e) (fun b o _ _ hc e _ => ⟨o.slots, k b o hc e⟩)
    (fun b o _ e n => ?_) (fun b o hc e => ⟨o, k b o hc e⟩) (fun b xs e => old _ _ e) (fun b o u e => old _ _ e) (fun b ps e => ⟨#[], by rw [old _ _ e]; simp⟩) (fun m hm => ?_) (fun b u e => ?_) I.bare
  · cases q : H' b with
    | none => rfl
    | some u =>
      rcases new b u q with z | ⟨z, _⟩
      · rw [n] at z; cases z
      · rw [e] at z; cases z
  · obtain ⟨o, es, ep, ho, r⟩ := hm
    exact ⟨o, es, ep, k _ o (fun z => (hf _ z).2.1 rfl) ho, r⟩
  · rcases new b u e with z | ⟨_, z⟩
    · refine (I.hok b u z).stay (fun c v hc q => k c v ?_ q) (fun c q => old _ _ q) fun c xs q => old _ _ q
      rcases hc with y | y
      · rw [y]; exact nit b u z
      · exact nit c _ y
    · exact z
end
def pairsV (xs ys : List V) : List HO := List.zipWith (fun x y => HO.tup [x, y]) xs ys
def tListZip (K : PySem.W.Frag) (ta : TA) : TE := fun σ H Q => ta σ H fun vs H1 => ∃ (a b : Addr) (xs ys : List V), vs = [.ref a, .ref b] ∧ SqL K H1 a xs ∧ SqL K H1 b ys ∧
  ∀ (as : List Addr) (l : Addr), (l :: as).Nodup → as.length = (pairsV xs ys).length → (∀ c ∈ l :: as, H1 c = none) → Q (.ref l) (layT (upd H1 l (.lst (as.map V.ref))) as (pairsV xs ys))
theorem pe_listZip {X : Cx} {e e2 : Expr} {ta : TA} {p p2 pos pos2 : Pos} (hc : X.calm = true) (gl : Gl X "list") (ml : X.mg "list" = none) (gz : Gl X "zip") (mz : X.mg "zip" = none) (ha : PA X [e, e2] ta)
    (hs : starEach [e, e2] X.env = (false, eval e X.env) :: starEach [e2] X.env := by rfl) (hpl : (backTo pos2 (starEach [e2] X.env)).any (·.1) = false := by rfl)
    (na : starEach [.Call (.Name "zip" p2) [e, e2] [] pos2] X.env = (false, eval (.Call (.Name "zip" p2) [e, e2] [] pos2) X.env) :: starEach [] X.env := by rfl) :
    PE X (.Call (.Name "list" p) [.Call (.Name "zip" p2) [e, e2] [] pos2] [] pos) (tListZip X.K ta) := by
  refine ⟨fun pins s σ H Q I h => ?_⟩
  refine Call_ (ld_blt I gl ml boot_list (PyProof.Rows.callWith_type1 (args_cons ?_ na) na))
  refine Call_ (ld_blt I gz mz PyProof.Rows.boot_zip (PyProof.Rows.callWith_type1 (thn (ha.run pos2 pins s σ H _ I h) fun us s1 ⟨vs, H1, I1, r1, q1⟩ => ?_) hs hpl))
  obtain ⟨a, b, xs, ys, ex, hqx, hqy, q⟩ := q1
  subst ex
  cases r1 with
  | cons r rr =>
    cases rr with
    | cons r' rr =>
      cases rr
      cases r
      cases r'
      obtain ⟨its, rv, p1, z1⟩ := I1.list hqx
      obtain ⟨its2, rv2, p2, z2⟩ := I1.list hqy
      have la : @LT.lt Nat _ a s1.heap.objs.size := p1.lt
      have lb : @LT.lt Nat _ b s1.heap.objs.size := p2.lt
      refine zip_begins2 (begins_list a its.toArray) (begins_list b its2.toArray) p1.isList p2.isList fun h' hz hTI hTO h1 h2 hsz hk => args_nil ?_
      have D : ZipApart (s1.heap.objs.size + 4) (s1.heap.objs.size + 2) (s1.heap.objs.size + 3) s1.heap.objs.size (s1.heap.objs.size + 1) a b := by
        constructor <;> first | exact Nat.ne_of_lt (by omega) | exact Nat.ne_of_gt (by omega)
      have L : ZlLt (s1.heap.objs.size + 4) (s1.heap.objs.size + 2) (s1.heap.objs.size + 3) s1.heap.objs.size (s1.heap.objs.size + 1) a b h'.objs.size := by
        constructor <;> (show @LT.lt Nat _ _ _; rw [hsz]; omega)
      have e1 : its.toArray.size = xs.length := by rw [List.size_toArray]; exact rv.length.symm
      have e2 : its2.toArray.size = ys.length := by rw [List.size_toArray]; exact rv2.length.symm
      refine zl_call (s := { s1 with heap := h' }) (I1.ok.hd hc) D L (by omega) hTI ⟨_, _, hTO⟩ ⟨_, h1, rfl, rfl⟩ ⟨_, h2, rfl, rfl⟩ (p1.isList.at fun o e => hk _ o e) (p2.isList.at fun o e => hk _ o e) hz fun h'' tk acc c as hkk hS hl hG hacc => ?_
      dsimp only at hkk hS hG ⊢
      have lp : (pairsV xs ys).length = min xs.length ys.length := by unfold pairsV; rw [List.length_zipWith]
      have big : ∀ c ∈ h'.objs.size :: as, @LE.le Nat _ (s1.heap.objs.size + 5) c := fun c hcm => by
        rcases List.mem_cons.mp hcm with z | z
        · have z : @Eq Nat c h'.objs.size := z
          omega
        · have : @LT.lt Nat _ h'.objs.size c := hG.above c z
          omega
      have fr : ∀ c ∈ h'.objs.size :: as, H1 c = none := fun c hcm => I1.hok.fresh (by have := big c hcm; omega)
      have nd : (h'.objs.size :: as).Nodup := by
        refine List.nodup_cons.mpr ⟨fun z => absurd (hG.above _ z) (Nat.lt_irrefl _), hG.rise.imp fun h => Nat.ne_of_lt h⟩
      have keep : ∀ b o, s1.heap.get? b = some o → h''.get? b = some o := fun b o e => by
        have lt : @LT.lt Nat _ b s1.heap.objs.size := Heap.lt_size e
        exact hkk b o (Nat.ne_of_lt (by omega)) (Nat.ne_of_lt (by omega)) (Nat.ne_of_lt (by omega)) (Nat.ne_of_lt (by omega)) (hk b o e)
      have zl : min xs.length ys.length ≤ sizeLine := by omega
      refine ⟨.ref h'.objs.size, _, Inv.laidAll (ch := []) (H' := layT (upd H1 h'.objs.size (.lst (as.map V.ref))) as (pairsV xs ys)) I1 (fun b o _ e => keep b o e) (fun _ z => nomatch z) (fun _ z => nomatch z) (fun b o e => ?_) (fun b o e => ?_), rfl, q as _ nd (by rw [lp, hl, e1, e2]) fr⟩
      · have nb : b ∉ h'.objs.size :: as := fun z => by rw [fr b z] at e; cases e
        rw [layT_ne fun z => nb (List.mem_cons_of_mem _ z), upd_ne fun z => nb (by rw [z]; exact List.mem_cons_self)]
        exact e
      · rcases layT_inv e with z | ⟨j, z1, z2⟩
        · by_cases y : b = h'.objs.size
          · subst y
            rw [upd_same] at z; cases z
            refine .inr ⟨Heap.get?_none_of_le (by omega), by rw [List.length_map, hl, e1, e2]; exact zl, acc.toList, c, ?_, by rw [Array.toArray_toList]; exact hS⟩
            rw [hacc]
            refine vals_of_at (by rw [List.length_map, List.length_map]) fun j x w h1 h2 => ?_
            rw [List.getElem?_map] at h1 h2
            cases hb : as[j]? with
            | none => rw [hb] at h1; cases h1
            | some b => rw [hb] at h1 h2; cases h1; cases h2; rfl
          · rw [upd_ne y] at z; exact .inl z
        · obtain ⟨x, y, g1, g2, g3⟩ := hG.pairs j b z1
          have hb := big b (List.mem_cons_of_mem _ (List.mem_of_getElem? z1))
          refine .inr ⟨Heap.get?_none_of_le (by omega), ?_⟩
          unfold pairsV at z2
          rw [List.getElem?_zipWith] at z2
          cases c1 : xs[j]? with
          | none => rw [c1] at z2; simp at z2
          | some vx =>
            cases c2 : ys[j]? with
            | none => rw [c1, c2] at z2; simp at z2
            | some vy =>
              rw [c1, c2] at z2
              obtain rfl : HO.tup [vx, vy] = o := Option.some.inj z2
              obtain ⟨u1, d1, r1⟩ := rv.get c1
              obtain ⟨u2, d2, r2⟩ := rv2.get c2
              have f1 : x = u1 := by
                have : its.toArray[j]? = some u1 := by simpa using d1
                rw [this] at g1; exact (Option.some.inj g1).symm
              have f2 : y = u2 := by
                have : its2.toArray[j]? = some u2 := by simpa using d2
                rw [this] at g2; exact (Option.some.inj g2).symm
              subst f1 f2
              exact ⟨by show 2 ≤ sizeLine; decide, [x, y], .cons r1 (.cons r2 .nil), ⟨_, g3, rfl, _, rfl⟩⟩
end Dm

namespace Dm
open PySem L2 Evl
theorem units1 {k : Nat} {A : Around} (r : Room k A) : A.units + 1 < cLine := by have := r.units; omega
def keyD (k : List Int) : D := .tup (k.map D.int)
section
variable {K : Cz} {W : WX}
variable {p : Addr} {G0 H0 G H G' H' : Hp} {c c' : Nat} {σ : St} {ρ : Ro}
theorem OwL.get : ∀ {bs : List Addr} {vs : List (List D)} {n : Nat} {b : Addr} {l : List D}, OwL K p G H bs vs → bs[n]? = some b → vs[n]? = some l → ∃ xs, H b = some (.lst xs) ∧ RpL K p G xs l
  | _ :: _, _ :: _, 0, _, _, h, e1, e2 => by simp at e1 e2; subst e1 e2; exact h.1
  | _ :: _, _ :: _, n + 1, _, _, h, e1, e2 => OwL.get (n := n) h.2 (by simpa using e1) (by simpa using e2)
  | [], _, _, _, _, _, e1, _ => by simp at e1
  | _ :: _, [], _, _, _, h, _, _ => h.elim
theorem OwL.set {b : Addr} {ys : List V} {l' : List D} (r : RpL K p G ys l') : ∀ {bs : List Addr} {vs : List (List D)} {n : Nat}, OwL K p G H bs vs → bs.Nodup → bs[n]? = some b → OwL K p G (upd H b (.lst ys)) bs (vs.set n l')
  | x :: bs, l :: vs, 0, h, nd, e => by
    simp at e; subst e
    refine ⟨⟨ys, upd_same, r⟩, OwL.frame (Ex.refl _) (fun c hc => upd_ne fun z => (List.nodup_cons.mp nd).1 (by rw [← z]; exact hc)) h.2⟩
  | x :: bs, l :: vs, n + 1, h, nd, e => by
    have e' : bs[n]? = some b := by simpa using e
    have nx : x ≠ b := fun z => (List.nodup_cons.mp nd).1 (by rw [z]; exact List.mem_of_getElem? e')
    refine ⟨?_, OwL.set r h.2 (List.nodup_cons.mp nd).2 e'⟩
    obtain ⟨xs, h1, h2⟩ := h.1
    exact ⟨xs, by rw [upd_ne nx]; exact h1, h2⟩
  | [], _, _, _, _, e => by simp at e
  | _ :: _, [], _, h, _, _ => h.elim
theorem OwL.snoc {b : Addr} {xs : List V} {l : List D} (hb : H b = some (.lst xs)) (r : RpL K p G xs l) : ∀ {bs : List Addr} {vs : List (List D)}, OwL K p G H bs vs → OwL K p G H (bs ++ [b]) (vs ++ [l])
  | _ :: _, _ :: _, h => ⟨h.1, OwL.snoc hb r h.2⟩
  | [], [], _ => ⟨⟨xs, hb, r⟩, True.intro⟩
  | [], _ :: _, h => h.elim
  | _ :: _, [], h => h.elim
theorem OwL.rp (ex : Ex G G') : ∀ {bs : List Addr} {vs : List (List D)}, (∀ b ∈ bs, G' b = H b) → OwL K p G H bs vs → RpL K p G' (bs.map V.ref) (vs.map D.lst)
  | b :: bs, l :: vs, k, h => by
    obtain ⟨xs, h1, h2⟩ := h.1
    exact .cons (.lst ((k b (by simp)).trans h1) (h2.up ex)) (OwL.rp ex (fun c hc => k c (by simp [hc])) h.2)
  | [], [], _, _ => .nil
  | [], _ :: _, _, h => h.elim
  | _ :: _, [], _, h => h.elim
/-- a thing of a slot's own changes, the slot's description with it -/
theorem WS.regUpd {i : Nat} {v : V} {s s1 : S} {x : Addr} {u : HO} (h : WS K p G0 H0 c G H σ ρ) (e : ρ[i]? = some s) (e2 : σ[i]? = some (some v)) (hx : s.reg (some v) x) (np : x ≠ p) (n0 : H0 x = none) (hg : G x = none)
    (new : SlotR K p H0 G (upd H x u) (some v) s1) (sub : ∀ b, s1.reg (some v) b → s.reg (some v) b ∨ ∀ (j : Nat) (o : Option V) (s' : S), j ≠ i → σ[j]? = some o → ρ[j]? = some s' → ¬ s'.reg o b) : WS K p G0 H0 c G (upd H x u) σ (ρ.set i s1) := by
  have il : i < ρ.length := (List.getElem?_eq_some_iff.mp e).1
  refine ⟨⟨h.gr.ex, h.gr.new, fun b o hb q => ?_, fun zs q => ?_⟩, ⟨fun b o q => ?_, h.wd.gp, h.wd.pl.of (Ex.refl _) fun o q => by rw [upd_ne np.symm]; exact q⟩, by simp [h.en.len], fun j o s' q1 q2 => ?_, fun j k o o' s' s'' ne q1 q2 q3 q4 b z => ?_⟩
  · rw [upd_ne (ne_of_none q n0)]; exact h.gr.keep b o hb q
  · obtain ⟨us, h1, h2⟩ := h.gr.pc zs q
    exact ⟨us, by rw [upd_ne np.symm]; exact h1, h2⟩
  · rw [upd_ne (ne_of_none q hg)]; exact h.wd.sub b o q
  · by_cases z : i = j
    · subst z
      rw [List.getElem?_set_self il] at q2
      cases q2
      rw [e2] at q1; cases q1
      exact new
    · rw [List.getElem?_set_ne z] at q2
      exact (h.en.sl j o s' q1 q2).apart fun y => h.en.dis i j _ o _ s' z e2 e q1 q2 x hx y
  · intro y
    by_cases z1 : i = j
    · subst z1
      rw [List.getElem?_set_self il] at q2
      rw [List.getElem?_set_ne ne] at q4
      cases q2
      rw [e2] at q1; cases q1
      rcases sub b z with w | w
      · exact h.en.dis i k _ o' _ s'' ne e2 e q3 q4 b w y
      · exact w k o' s'' (Ne.symm ne) q3 q4 y
    · rw [List.getElem?_set_ne z1] at q2
      by_cases z2 : i = k
      · subst z2
        rw [List.getElem?_set_self il] at q4
        cases q4
        rw [e2] at q3; cases q3
        rcases sub b y with w | w
        · exact h.en.dis j i o _ s' _ ne q1 q2 e2 e b z w
        · exact w j o s' ne q1 q2 z
      · rw [List.getElem?_set_ne z2] at q4
        exact h.en.dis j k o o' s' s'' ne q1 q2 q3 q4 b z y
theorem EnvR.dc {i : Nat} {a : Addr} {ks : List (List Int)} {bs : List Addr} {vs : List (List D)} (h : EnvR K p H0 G H σ ρ) (e : ρ[i]? = some (.dc a ks bs vs)) : σ[i]? = some (some (.ref a)) ∧ DcR K p G H a ks bs vs ∧ ∀ b, b = a ∨ b ∈ bs → G b = none ∧ H0 b = none ∧ b ≠ p := by
  obtain ⟨o, h1, h2⟩ := h.get e
  cases h2 with
  | dc r f => exact ⟨h1, r, f⟩
theorem EnvR.dz {i : Nat} {ks : List (List Int)} {ds : List D} (h : EnvR K p H0 G H σ ρ) (e : ρ[i]? = some (.dz ks ds)) : ∃ a, σ[i]? = some (some (.ref a)) ∧ DzR K p G a ks ds := by
  obtain ⟨o, h1, h2⟩ := h.get e
  cases h2 with
  | dz r => exact ⟨_, h1, r⟩
/-- x = {} -/
def mDcNew (i : Nat) : DS := fun xe E ρ c => ∀ a, E.nx (ρ.set i (.dc a [] [] [])) c
theorem sim_dcNew {i : Nat} : SimS K W (tAsg (tDNewE K) (gName i)) (mDcNew i) := by
  intro p G0 H0 c G H σ ρ xe N E ws xc er m a od ha dk sy
  obtain ⟨np, n0, hg⟩ := ws.fresh0 ha
  have ws1 := ws.laidO (o := dkO a od) ha
  refine er.nx _ _ _ _ _ ⟨ws1.gr, ws1.wd, ws1.en.put (.dc (ks := []) (bs := []) (vs := []) ⟨[], od, upd_same, True.intro, True.intro, dk, rfl, by simp, List.nodup_nil, List.nodup_nil, sy⟩ fun b hb => ?_) fun j o s' ne e1 e2 b z => ?_⟩ (m a)
  · rcases hb with rfl | hb
    · exact ⟨hg, n0, np⟩
    · simp at hb
  · rw [reg_dc] at z
    rcases z with rfl | z
    · intro y
      obtain ⟨u, hu⟩ := (ws.en.sl j o s' e1 e2).reg_in y
      rw [ha] at hu; cases hu
    · simp at z
theorem dc_tail {i : Nat} {te : TE} {me : DE} (h : SimE K W te me) {xe : XP} {N : Ends} {E : DEnds} {a b : Addr} {ks : List (List Int)} {bs : List Addr} {vs : List (List D)} {n : Nat} {l : List D} (ws : WS K p G0 H0 c G H σ ρ) (xc : Xc K p G0 H0 xe W) (er : EndsR K p G0 H0 N E)
    (e : ρ[i]? = some (.dc a ks bs vs)) (hb : bs[n]? = some b) (hl : vs[n]? = some l) (ll : l.length < 1000000) (m : me xe ρ c fun d c1 => E.nx (ρ.set i (.dc a ks bs (vs.set n (l ++ [d])))) c1) :
    tyV K.K "list" (.ref b) H ∧ tCons te tNil σ H fun xs H2 => rAppend (.ref b) xs H2 fun _ H' => N.nx σ H' := by
  obtain ⟨e2, dr, fr⟩ := ws.en.dc e
  obtain ⟨qs, od, ha, ow, _⟩ := dr
  obtain ⟨xs, hx, rx⟩ := ow.get hb hl
  refine ⟨Or.inl ⟨rfl, xs, sq_of hx⟩, ?_⟩
  refine h p G0 H0 c G H σ ρ xe _ _ ws xc m fun d c1 v G1 H1 m1 g1 w1 r1 => ?_
  have ws1 := ws.grow g1 w1
  obtain ⟨e2', dr1, fr1⟩ := ws1.en.dc e
  obtain ⟨qs1, od1, ha1, ow1, kin1, dk1, lb1, na1, nb1, nk1, sy1⟩ := dr1
  obtain ⟨xs', hx', rx'⟩ := ow1.get hb hl
  have bm : b ∈ bs := List.mem_of_getElem? hb
  obtain ⟨hg, n0, np⟩ := fr1 b (.inr bm)
  refine ⟨b, xs', v, rfl, rfl, hx', by rw [rx'.len]; exact Nat.lt_of_lt_of_le ll Grow.sz, ?_⟩
  refine er.nx _ _ _ _ _ (ws1.regUpd (s1 := .dc a ks bs (vs.set n (l ++ [d]))) e e2' (by rw [reg_dc]; exact .inr bm) np n0 hg (.dc ⟨qs1, od1, ?_, ow1.set (rx'.append (.cons r1 .nil)) nb1 hb, kin1, dk1, lb1, na1, nb1, nk1, sy1⟩ fr1) fun b' hb' => .inl ?_) m1
  · rw [upd_ne fun z => na1 (by rw [z]; exact bm)]; exact ha1
  · rw [reg_dc] at hb' ⊢; exact hb'
/-- x.setdefault(key, []).append(e) -/
def mDcApp (i : Nat) (my me : DE) : DS := fun xe E ρ c => match ρ[i]? with
  | some (.dc a ks bs vs) => my xe ρ c fun dk c1 => ∃ k : List Int, dk = keyD k ∧ ks.length < 1000000 ∧
    (∀ (n : Nat) (b : Addr) (l : List D), ks[n]? = some k → bs[n]? = some b → vs[n]? = some l → l.length < 1000000 ∧ me xe ρ c1 fun d c2 => E.nx (ρ.set i (.dc a ks bs (vs.set n (l ++ [d])))) c2) ∧
    (k ∉ ks → ∀ b, bs.length = ks.length → vs.length = ks.length → me xe (ρ.set i (.dc a (ks ++ [k]) (bs ++ [b]) (vs ++ [[]]))) c1 fun d c2 => E.nx (ρ.set i (.dc a (ks ++ [k]) (bs ++ [b]) (vs ++ [[d]]))) c2)
  | _ => False
theorem sim_dcApp {i : Nat} {ty te : TE} {my me : DE} (hy : SimE K W ty my) (h : SimE K W te me) : SimS K W (tDrop (tBM K.K "list" rAppend (tDSetE K (tVar i) ty (tLst tNil)) (tCons te tNil))) (mDcApp i my me) := by
  intro p G0 H0 c G H σ ρ xe N E ws xc er m
  unfold mDcApp at m
  split at m
  · rename_i a ks bs vs e
    obtain ⟨e2, dr, _⟩ := ws.en.dc e
    obtain ⟨qs, od, ha, ow, kin, dk, lb, na, nb, nk, sy⟩ := dr
    refine ⟨.ref a, e2, a, od, rfl, ha, dk.1, ?_⟩
    refine hy p G0 H0 c G H σ ρ xe _ _ ws xc m fun d c1 v G1 H1 m1 g1 w1 r1 => ?_
    have ws1 := ws.grow g1 w1
    obtain ⟨k, rfl, hl, m1, m2⟩ := m1
    refine ⟨Nat.zero_le _, fun r hr => ?_⟩
    have ws2 := ws1.laidO (o := .lst []) hr
    obtain ⟨_, dr2, fr2⟩ := ws2.en.dc e
    obtain ⟨qs, od, ha, ow, kin, dk, lb, na, nb, nk, sy⟩ := dr2
    cases r1 with
    | @tup b' xs _ hb hbs =>
      have ex := RpL.ints hbs
      subst ex
      have hb2 : upd H1 r (.lst []) b' = some (.tup (k.map V.int)) := ws2.wd.sub _ _ hb
      have lv : vs.length = ks.length := by rw [← ow.len, lb]
      refine ⟨od, ks, qs, bs, k, b', r, ha, dk, kin.up ws2.wd.sub, lb, nk, sy, rfl, hb2, rfl, hl, fun n b hk hc => ?_, fun hk od' dk' => ?_⟩
      · have ln := (List.getElem?_eq_some_iff.mp hk).1
        obtain ⟨l, hv⟩ : ∃ l, vs[n]? = some l := ⟨_, List.getElem?_eq_getElem (by rw [lv]; exact ln)⟩
        obtain ⟨ll, m1⟩ := m1 n b l hk hc hv
        exact dc_tail h ws2 xc er e hc hv ll m1
      · have nra : r ≠ a := fun z => by
          obtain ⟨_, dr1, _⟩ := ws1.en.dc e
          obtain ⟨_, _, ha1, _⟩ := dr1
          rw [z, ha1] at hr; cases hr
        have hr2 : upd H1 r (.lst []) r = some (.lst []) := upd_same
        have nrb : r ∉ bs := fun z => by
          obtain ⟨_, dr1, _⟩ := ws1.en.dc e
          obtain ⟨o, ho⟩ := dr1.has (.inr z)
          rw [hr] at ho; cases ho
        obtain ⟨np, n0, hg⟩ := ws1.fresh0 hr
        have na' : a ∉ bs ++ [r] := fun z => (List.mem_append.mp z).elim na fun z => nra (List.mem_singleton.mp z).symm
        obtain ⟨fa1, fa2, fa3⟩ := fr2 a (.inl rfl)
        have fr3 : ∀ b, b = a ∨ b ∈ bs ++ [r] → G1 b = none ∧ H0 b = none ∧ b ≠ p := fun b hb => by
          rcases hb with hb | hb
          · exact fr2 b (.inl hb)
          · rcases List.mem_append.mp hb with hb | hb
            · exact fr2 b (.inr hb)
            · rw [List.mem_singleton.mp hb]; exact ⟨hg, n0, np⟩
        have ws3 : WS K p G0 H0 c1 G1 (upd (upd H1 r (.lst [])) a (dkO a od')) σ (ρ.set i (.dc a (ks ++ [k]) (bs ++ [r]) (vs ++ [[]]))) := by
          refine ws2.regUpd e e2 (by rw [reg_dc]; exact .inl rfl) fa3 fa2 fa1 (.dc ⟨qs ++ [b'], od', upd_same, ?_, kin.snoc hb, dk', by simp [lb], na', ?_, ?_, sy⟩ fr3) fun b hb => ?_
          · refine OwL.snoc (xs := []) ?_ .nil (OwL.frame (Ex.refl _) (fun c hc => upd_ne fun z => na (by rw [← z]; exact hc)) ow)
            rw [upd_ne nra]; exact hr2
          · exact List.nodup_append.mpr ⟨nb, by simp, fun x hx y hy => by rw [List.mem_singleton.mp hy]; exact fun z => nrb (by rw [← z]; exact hx)⟩
          · exact List.nodup_append.mpr ⟨nk, by simp, fun x hx y hy => by rw [List.mem_singleton.mp hy]; exact fun z => hk (by rw [← z]; exact hx)⟩
          · rw [reg_dc] at hb ⊢
            rcases hb with hb | hb
            · exact .inl (.inl hb)
            · rcases List.mem_append.mp hb with hb | hb
              · exact .inl (.inr hb)
              · refine .inr fun j o s' ne e1 e3 y => ?_
                obtain ⟨u, hu⟩ := (ws1.en.sl j o s' e1 e3).reg_in y
                rw [List.mem_singleton.mp hb, hr] at hu; cases hu
        have il : i < ρ.length := (List.getElem?_eq_some_iff.mp e).1
        refine dc_tail (n := ks.length) (l := []) h ws3 xc er (List.getElem?_set_self il) (by rw [List.getElem?_append_right (by rw [lb]; exact Nat.le_refl _), lb, Nat.sub_self]; rfl) (by rw [List.getElem?_append_right (by rw [lv]; exact Nat.le_refl _), lv, Nat.sub_self]; rfl) (by decide) ?_
        have sv : ∀ d : D, (vs ++ [[]]).set ks.length ([] ++ [d]) = vs ++ [[d]] := fun d => by
          rw [List.set_append_right _ _ (by rw [lv]; exact Nat.le_refl _), lv, Nat.sub_self]; rfl
        simp only [sv, List.set_set]
        exact m2 hk r lb lv
  · exact m.elim
/-- the dict stays from this statement on -/
def mFreezeDc (i : Nat) (m : DS) : DS := fun xe E ρ c => match ρ[i]? with | some (.dc _ ks _ vs) => m xe E (ρ.set i (.dz ks (vs.map D.lst))) c | _ => False
theorem sim_freezeDc {i : Nat} {t : TS} {m : DS} (h : SimS K W t m) : SimS K W t (mFreezeDc i m) := by
  intro p G0 H0 c G H σ ρ xe N E ws xc er q
  unfold mFreezeDc at q
  split at q
  · rename_i a ks bs vs e
    obtain ⟨e2, dr, fr⟩ := ws.en.dc e
    obtain ⟨qs, od, ha, ow, kin, dk, lb, na, nb, nk, sy⟩ := dr
    have hf : ∀ b o, (fun b => if b = a ∨ b ∈ bs then H b else none : Hp) b = some o → (b = a ∨ b ∈ bs) ∧ H b = some o := fun b o q => by
      dsimp only at q
      split at q
      · rename_i z; exact ⟨z, q⟩
      · cases q
    have at_ : ∀ b, b = a ∨ b ∈ bs → ∀ o, H b = some o → mrg G (fun b => if b = a ∨ b ∈ bs then H b else none) b = some o := fun b hb o ho => by
      refine mg_at ?_
      rw [if_pos hb]; exact ho
    have ex : Ex G (mrg G fun b => if b = a ∨ b ∈ bs then H b else none) := mg_ex fun b o q => (fr b (hf b o q).1).1
    refine h p G0 H0 c _ H σ _ xe N E (ws.meltS (s1 := .dz ks (vs.map D.lst)) e2 e (F := fun b => if b = a ∨ b ∈ bs then H b else none) (fun b o q => ?_) (fun b q => ?_) (.dz ⟨qs, bs, od, at_ a (.inl rfl) _ ha, ow.rp ex fun b hb => ?_, kin.up ex, dk, lb, nk, sy⟩) fun _ => reg_dz) xc er q
    · obtain ⟨z1, z2⟩ := hf b o q
      obtain ⟨y1, y2, y3⟩ := fr b z1
      exact ⟨y1, y2, y3, z2⟩
    · rw [reg_dc]
      cases y : (fun b => if b = a ∨ b ∈ bs then H b else none : Hp) b with
      | none => exact absurd y q
      | some o => exact (hf b o y).1
    · obtain ⟨xs, hx⟩ := ow.has hb
      rw [at_ b (.inr hb) _ hx, hx]
  · exact q.elim
theorem ents_qs {kd : PySem.HeapKind K.P K.w (List L2.Key)} : ∀ {ks : List (List Int)} {qs bs : List Addr}, qs.length = ks.length → bs.length = ks.length → ((ents ks qs bs).map (PySem.entryOfKey kd)).map (·.key) = qs.map Value.ref ∧ ((ents ks qs bs).map (PySem.entryOfKey kd)).map (·.val) = bs.map Value.ref
  | k :: ks, q :: qs, b :: bs, h1, h2 => by
    obtain ⟨e1, e2⟩ := ents_qs (kd := kd) (ks := ks) (qs := qs) (bs := bs) (by simpa using h1) (by simpa using h2)
    exact ⟨congrArg (List.cons (Value.ref q)) e1, congrArg (List.cons (Value.ref b)) e2⟩
  | [], [], [], _, _ => ⟨rfl, rfl⟩
  | [], _ :: _, _, h, _ => by simp at h
  | [], [], _ :: _, _, h => by simp at h
  | _ :: _, [], _, h, _ => by simp at h
  | _ :: _, _ :: _, [], _, h => by simp at h
theorem rp_keyD {G : Hp} {q : Addr} {k : List Int} (h : G q = some (.tup (k.map V.int))) : Rp K p G (.ref q) (keyD k) := .tup h (RpL.of_ints k)
theorem keys_rp {G : Hp} : ∀ {qs : List Addr} {ks : List (List Int)}, KeysIn G qs ks → RpL K p G (qs.map V.ref) (ks.map keyD)
  | _ :: _, _ :: _, h => .cons (rp_keyD h.1) (keys_rp h.2)
  | [], [], _ => .nil
  | [], _ :: _, h => h.elim
  | _ :: _, [], h => h.elim
/-- for k in x -/
def mItDz (i : Nat) : DL := fun xe ρ c Q => match ρ[i]? with | some (.dz ks _) => Q (ks.map keyD) c | _ => False
theorem sim_itDz {i : Nat} : SimI K W (iKeysQ (tVar i)) (mItDz i) := by
  intro p G0 H0 c G H σ ρ xe R post ws xc m k
  unfold mItDz at m
  split at m
  · rename_i ks ds e
    obtain ⟨a, e2, qs, bs, od, hg, rp, kin, ⟨xd, es, ep, hdt, hes⟩, lb, nk, sy⟩ := ws.en.dz e
    have hk : es.toList.map (·.key) = qs.map Value.ref := by rw [hes]; exact (ents_qs kin.len lb).1
    refine ⟨.ref a, e2, a, od, es, ep, qs, rfl, ws.wd.sub _ _ hg, xd, hdt, hk, sy, k _ c _ G H m .refl ws.wd fun j c' G' H' ex w => ⟨fun d hd => ?_, fun hi _ => ?_⟩⟩
    · rw [List.getElem?_map] at hd
      cases hkj : ks[j]? with
      | none => rw [hkj] at hd; cases hd
      | some kj =>
        rw [hkj] at hd
        obtain rfl : keyD kj = d := Option.some.inj hd
        have lj := (List.getElem?_eq_some_iff.mp hkj).1
        refine ⟨⟨w.sub _ _ (ex _ _ hg), by rw [kin.len]; exact lj⟩, fun x H'' q => ?_⟩
        obtain ⟨rfl, q', hq, rfl⟩ := q
        exact ⟨G', .refl, w, rp_keyD (ex _ _ (kin.get hq hkj))⟩
    · refine ⟨w.sub _ _ (ex _ _ hg), ?_⟩
      rw [kin.len]
      have : j = (ks.map keyD).length := hi
      rw [List.length_map] at this
      omega
  · exact m.elim
/-- zip(x, e), x such a dict -/
def mZipDz (i : Nat) (me : DE) : DL := fun xe ρ c Q => match ρ[i]? with | some (.dz ks _) => me xe ρ c fun d c1 => dSeq d fun l => Q (zipD (ks.map keyD) l) c1 | _ => False
theorem sim_zipDz {i : Nat} {te : TE} {me : DE} (h : SimE K W te me) : SimI K W (iZipZ K.K (tCons (tVar i) (tCons te tNil))) (mZipDz i me) := by
  intro p G0 H0 c G H σ ρ xe R post ws xc m k
  unfold mZipDz at m
  split at m
  · rename_i ks ds e
    obtain ⟨a, e2, _⟩ := ws.en.dz e
    refine ⟨.ref a, e2, ?_⟩
    refine h p G0 H0 c G H σ ρ xe _ _ ws xc m fun d c1 v G1 H1 m1 g1 w1 r1 => ?_
    have ws1 := ws.grow g1 w1
    obtain ⟨a', e2', qs, bs, od, hg, rp, kin, ⟨xd, es, ep, hdt, hes⟩, lb, nk, sy⟩ := ws1.en.dz e
    rw [e2] at e2'; cases e2'
    have hk : es.toList.map (·.key) = qs.map Value.ref := by rw [hes]; exact (ents_qs kin.len lb).1
    have dA : ∀ G' H' c, Ex G1 G' → Wd K p c G' H' → SqZ K.K (.d es.size ep) H' a (qs.map V.ref) := fun G' H' c ex w => ⟨od, es, qs, w.sub _ _ (ex _ _ hg), xd, hdt, rfl, sy, hk, rfl⟩
    have lA : ∀ {a : Addr} {xs : List V}, G1 a = some (.lst xs) → ∀ G' H' c, Ex G1 G' → Wd K p c G' H' → SqZ K.K .l H' a xs := fun h G' H' c e w => sq_of (w.sub _ _ (e _ _ h))
    have tA : ∀ {a : Addr} {xs : List V}, G1 a = some (.tup xs) → ∀ G' H' c, Ex G1 G' → Wd K p c G' H' → SqZ K.K .t H' a xs := fun h G' H' c e w => st_of (w.sub _ _ (e _ _ h))
    cases r1 with
    | lst h3 h4 => exact ⟨_, _, .d es.size ep, .l, _, _, rfl, dA _ _ _ (Ex.refl _) w1, lA h3 _ _ _ (Ex.refl _) w1, k _ c1 _ G1 H1 m1 g1 w1 (it_zipZ dA (lA h3) (keys_rp kin) h4)⟩
    | tup h3 h4 => exact ⟨_, _, .d es.size ep, .t, _, _, rfl, dA _ _ _ (Ex.refl _) w1, tA h3 _ _ _ (Ex.refl _) w1, k _ c1 _ G1 H1 m1 g1 w1 (it_zipZ dA (tA h3) (keys_rp kin) h4)⟩
    | _ => exact m1.elim
  · exact m.elim
/-- list(x.values()) -/
def rVals : List V → Hp → VK → Prop := fun xs H Q => ∃ (p a : Addr) (od : Obj) (es : Array DictEntry) (ep : Nat) (bs : List Addr), xs = [V.ref p] ∧ H p = some (viewO "dict_values" p a) ∧ H a = some (dkO a od) ∧ od.ExactDict ∧ od.data = .dict es ep ∧ es.toList.map (·.val) = bs.map Value.ref ∧ bs.length ≤ 1000000 ∧ ∀ l, H l = none → Q (.ref l) (upd H l (.lst (bs.map V.ref)))
theorem call_list_valsR {X : Cx} (hc : X.calm = true) : CallR X (.type "list") rVals := call_list_valsQ hc
def mValsDz (i : Nat) : DL := fun xe ρ c Q => match ρ[i]? with | some (.dz _ ds) => ds.length ≤ 1000000 ∧ Q ds c | _ => False
theorem sim_valsDz {i : Nat} : SimO K W (tCB rVals (tCons (tValsQ (tVar i)) tNil)) (mValsDz i) := by
  intro p G0 H0 c G H σ ρ xe Q post ws xc m k
  unfold mValsDz at m
  split at m
  · rename_i ks ds e
    obtain ⟨a, e2, qs, bs, od, hg, rp, kin, ⟨xd, es, ep, hdt, hes⟩, lb, nk, sy⟩ := ws.en.dz e
    have hk : es.toList.map (·.val) = bs.map Value.ref := by rw [hes]; exact (ents_qs kin.len lb).2
    have hh := ws.wd.sub _ _ hg
    have hl : bs.length = ds.length := by rw [← rp.len, List.length_map]
    refine ⟨.ref a, e2, a, od, es, ep, rfl, hh, xd, hdt, sy, fun q hq => ?_⟩
    refine ⟨q, a, od, es, ep, bs, rfl, upd_same, by rw [upd_ne (ne_of_none hh hq)]; exact hh, xd, hdt, hk, by rw [hl]; exact m.1, fun l hll => ?_⟩
    have nlq : l ≠ q := fun z => by rw [z, upd_same] at hll; cases hll
    have hl0 : H l = none := by rw [upd_ne nlq] at hll; exact hll
    have g1 : Grow p G H G (upd H q (viewO "dict_values" q a)) := Grow.laidO hq
    have w1 := ws.wd.laidO (o := viewO "dict_values" q a) hq
    have w2 := w1.laidO (o := .lst (bs.map V.ref)) hll
    exact k ds c l (bs.map V.ref) G _ m.2 (g1.tr (Grow.laidO hll) w2) w2 hl0 (ws.fresh0 hl0).2.2 upd_same rp
  · exact m.elim
/-- list(zip(e, e')) -/
def mListZip (ma : DL) : DL := fun xe ρ c Q => ma xe ρ c fun ds c1 => match ds with | [.lst l, .lst l'] => Q (zipD l l') c1 | _ => False
theorem grow_layT : ∀ {as : List Addr} {os : List HO} {G H : Hp} {c : Nat}, Wd K p c G H → as.Nodup → (∀ x ∈ as, H x = none) → Grow p G H (layT G as os) (layT H as os) ∧ Wd K p c (layT G as os) (layT H as os)
  | [], _, _, _, _, w, _, _ => ⟨.refl, w⟩
  | _ :: _, [], _, _, _, w, _, _ => ⟨.refl, w⟩
  | a :: as, o :: os, G, H, c, w, nd, fr => by
    have ha := fr a List.mem_cons_self
    have g1 : Grow p G H (upd G a o) (upd H a o) := Grow.laid ha w.sub
    have w1 := w.laid (o := o) ha
    obtain ⟨g2, w2⟩ := grow_layT (os := os) w1 (List.nodup_cons.mp nd).2 fun x hx => by
      rw [upd_ne fun z => (List.nodup_cons.mp nd).1 (by rw [← z]; exact hx)]; exact fr x (List.mem_cons_of_mem _ hx)
    exact ⟨g1.tr g2 w2, w2⟩
theorem sim_listZip {ta : TA} {ma : DL} (h : SimA K W ta ma) : SimO K W (tListZip K.K ta) (mListZip ma) := by
  intro p G0 H0 c G H σ ρ xe Q post ws xc m k
  refine h p G0 H0 c G H σ ρ xe _ _ ws xc m fun ds c1 vs G1 H1 m1 g1 w1 r1 => ?_
  split at m1
  · rename_i dl dl'
    obtain ⟨v, u, rfl, r, r'⟩ := r1.two
    cases r with
    | @lst a xs _ h1 h2 =>
      cases r' with
      | @lst b ys _ h3 h4 =>
        refine ⟨a, b, xs, ys, rfl, sq_of (w1.sub _ _ h1), sq_of (w1.sub _ _ h3), fun as l nd hl fr => ?_⟩
        have ws1 := ws.grow g1 w1
        have hlf := fr l List.mem_cons_self
        have g2 : Grow p G1 H1 G1 (upd H1 l (.lst (as.map V.ref))) := Grow.laidO hlf
        have w2 := w1.laidO (o := .lst (as.map V.ref)) hlf
        have fr2 : ∀ x ∈ as, upd H1 l (.lst (as.map V.ref)) x = none := fun x hx => by
          rw [upd_ne fun z => (List.nodup_cons.mp nd).1 (by rw [← z]; exact hx)]; exact fr x (List.mem_cons_of_mem _ hx)
        obtain ⟨g3, w3⟩ := grow_layT (os := pairsV xs ys) w2 (List.nodup_cons.mp nd).2 fr2
        have hl0 : H l = none := by
          cases q : H l with
          | none => rfl
          | some o =>
            have np : l ≠ p := (ws1.fresh0 hlf).1
            rw [g1.keep l o np q] at hlf; cases hlf
        refine k _ c1 l (as.map V.ref) _ _ m1 ((g1.tr g2 w2).tr g3 w3) w3 hl0 ?_ ?_ ?_
        · rw [layT_ne (List.nodup_cons.mp nd).1]; exact (ws1.fresh0 hlf).2.2
        · rw [layT_ne (List.nodup_cons.mp nd).1]; exact upd_same
        · have lz : (zipD dl dl').length = as.length := by
            rw [hl]; unfold zipD pairsV; rw [List.length_zipWith, List.length_zipWith, h2.len, h4.len]
          refine RpL.of_get (by rw [List.length_map, lz]) fun j v d e1 e2 => ?_
          rw [List.getElem?_map] at e1
          cases ha : as[j]? with
          | none => rw [ha] at e1; cases e1
          | some x =>
            rw [ha] at e1
            obtain rfl : V.ref x = v := Option.some.inj e1
            unfold zipD at e2
            rw [List.getElem?_zipWith] at e2
            split at e2
            · rename_i dx dy q1 q2
              obtain rfl : D.tup [dx, dy] = d := Option.some.inj e2
              obtain ⟨vx, y1, y2⟩ := h2.get q1
              obtain ⟨vy, y3, y4⟩ := h4.get q2
              have hp : (pairsV xs ys)[j]? = some (.tup [vx, vy]) := by unfold pairsV; rw [List.getElem?_zipWith, y1, y3]
              exact .tup (layT_at (List.nodup_cons.mp nd).2 ha hp) (.cons (y2.up g3.ex) (.cons (y4.up g3.ex) .nil))
            · cases e2
      | _ => exact m1.elim
    | _ => exact m1.elim
  · exact m1.elim
end
end Dm

namespace Dm
open PySem L2 Evl
section
variable {K : Cz} {W : WX}
/-- x.extend(e), x a list of one's own -/
def mExt (i : Nat) (me : DE) : DS := fun xe E ρ c => match ρ[i]? with
  | some (.own l) => me xe ρ c fun d c1 => ∃ es, d = .lst es ∧ l.length + es.length ≤ 1000000 ∧ E.nx (ρ.set i (.own (l ++ es))) c1
  | _ => False
theorem sim_ext {i : Nat} {te : TE} {me : DE} (h : SimE K W te me) : SimS K W (tDrop (tBM K.K "list" rExtend (tVar i) (tCons te tNil))) (mExt i me) := by
  intro p G0 H0 c G H σ ρ xe N E ws xc er m
  unfold mExt at m
  split at m
  · rename_i l e
    obtain ⟨a, xs, e2, np, n0, hg, hh, r⟩ := ws.en.own e
    refine ⟨.ref a, e2, Or.inl ⟨rfl, xs, sq_of hh⟩, ?_⟩
    refine h p G0 H0 c G H σ ρ xe _ _ ws xc m fun d c1 v G1 H1 m1 g1 w1 r1 => ?_
    have ws1 := ws.grow g1 w1
    obtain ⟨a', xs', e2', np', n0', hg', hh', r'⟩ := ws1.en.own e
    rw [e2] at e2'; cases e2'
    obtain ⟨es, rfl, hl, m1⟩ := m1
    cases r1 with
    | @lst b zs _ hb hbs =>
      refine ⟨a, b, xs', zs, rfl, rfl, hh', w1.sub _ _ hb, by rw [r'.len, hbs.len]; exact Nat.le_trans hl Grow.sz, ?_⟩
      exact er.nx _ _ _ _ _ (ws1.ownUpd e e2 hh' np n0 hg' (r'.append hbs)) m1
  · exact m.elim
end
end Dm

namespace Lw
open PySem L2 Evl Dm
local macro_rules
  | `(tactic| simp only [zDL] $[$l:location]?) => `(tactic| simp only [mSeq, mAsg, mVar, mC, mOp, mUn, mNil, mCons, mTup, mLst, mFrz, mTest, mAnd, mOr, mNot, mIf, mAndV, mOrV, mNotV, mCB, mCall0, gN, gsN, gsC, gT, gT2, mSlV, mListRg, mListRg1, mNext, mRet, mRetN, mIfS, mDrop, mPar, mApp, mFreeze, mSetI, mItL, mItS, mRng1, mRng2, mIsi, mIsN, mNotN, dI, dI0, dB0, dU, dEq, dNe, dAdd, mIxO, mCBO, dMax2, dAbs, dInt1, dGcd, dLcm, mTmpT, mAsgO, mAsgF, mRetF, mSc, mVarO, mSpoil, mSpoilK, ro0, List.map_cons, List.map_nil, List.replicate, List.length_cons, List.length_nil, List.getElem?_cons_zero, List.getElem?_cons_succ, List.set_cons_zero, List.set_cons_succ, List.cons_append, List.nil_append, Nat.reduceAdd, Nat.reduceSub, dSeq_lst, dSeq_tup, mFldT, mIsiC, mOrE, mMethX, mGetX, mMakeX, mPropX, mNoX, mNoXT, mZip, mSl, mSlO, mP, mNoP, dMax, dMin, mIns, mPopS, mSetF, gF, mChain, mEnum, mRaise, mMkE, mMk0, mCall, dEqX, dOr2, mTmpE, mAsgFO, mAsgFr, mAsgT, mRetT, mTO, mLf, mLsT, mNilT, mConsT, mCallT, mCallTX, mMethT, mTmE, mTmS, mTmT, mTmA, mTmAT, mFrzT, aRoot, aVar, aIx, mAsgA, mAppA, mSetA, mInsA, mAppF, mAsgFI, mRetV, mRetNV, mLastT, mCallMS, mCallDs, wOf, wNot, wOr, wCall, wIf, mTmO, mOwnT, endM, mForCat, mForCatF, gSO, mPopA, mRev, dIn, dInS, dSorted, mClrR, mAppR, mAppPop, mRetVT, dAddA, mSlT, mObF, mTmBE, mTmBT, mTmBO, mFrzB, mFrzF, mSetBD, mSetBT, mAppB, mSetIB, mBCall, mBCallA, mMakeB, mRepO, dMulA, mAsgF2, mVarFr, mTmpO, mSpoilF, dNotInS, mRng3, dNotInD, mZipN, mZipSt, mNoXL, mAugI, dInNX] $[$l]?)
  | `(tactic| simp only [zDL, $xs,*] $[$l:location]?) => `(tactic| simp only [mSeq, mAsg, mVar, mC, mOp, mUn, mNil, mCons, mTup, mLst, mFrz, mTest, mAnd, mOr, mNot, mIf, mAndV, mOrV, mNotV, mCB, mCall0, gN, gsN, gsC, gT, gT2, mSlV, mListRg, mListRg1, mNext, mRet, mRetN, mIfS, mDrop, mPar, mApp, mFreeze, mSetI, mItL, mItS, mRng1, mRng2, mIsi, mIsN, mNotN, dI, dI0, dB0, dU, dEq, dNe, dAdd, mIxO, mCBO, dMax2, dAbs, dInt1, dGcd, dLcm, mTmpT, mAsgO, mAsgF, mRetF, mSc, mVarO, mSpoil, mSpoilK, ro0, List.map_cons, List.map_nil, List.replicate, List.length_cons, List.length_nil, List.getElem?_cons_zero, List.getElem?_cons_succ, List.set_cons_zero, List.set_cons_succ, List.cons_append, List.nil_append, Nat.reduceAdd, Nat.reduceSub, dSeq_lst, dSeq_tup, mFldT, mIsiC, mOrE, mMethX, mGetX, mMakeX, mPropX, mNoX, mNoXT, mZip, mSl, mSlO, mP, mNoP, dMax, dMin, mIns, mPopS, mSetF, gF, mChain, mEnum, mRaise, mMkE, mMk0, mCall, dEqX, dOr2, mTmpE, mAsgFO, mAsgFr, mAsgT, mRetT, mTO, mLf, mLsT, mNilT, mConsT, mCallT, mCallTX, mMethT, mTmE, mTmS, mTmT, mTmA, mTmAT, mFrzT, aRoot, aVar, aIx, mAsgA, mAppA, mSetA, mInsA, mAppF, mAsgFI, mRetV, mRetNV, mLastT, mCallMS, mCallDs, wOf, wNot, wOr, wCall, wIf, mTmO, mOwnT, endM, mForCat, mForCatF, gSO, mPopA, mRev, dIn, dInS, dSorted, mClrR, mAppR, mAppPop, mRetVT, dAddA, mSlT, mObF, mTmBE, mTmBT, mTmBO, mFrzB, mFrzF, mSetBD, mSetBT, mAppB, mSetIB, mBCall, mBCallA, mMakeB, mRepO, dMulA, mAsgF2, mVarFr, mTmpO, mSpoilF, dNotInS, mRng3, dNotInD, mZipN, mZipSt, mNoXL, mAugI, dInNX, $xs,*] $[$l]?)
  | `(tactic| simp only [zDM] $[$l:location]?) => `(tactic| simp only [mSeq, mAsg, mVar, mC, mOp, mUn, mNil, mCons, mTup, mLst, mFrz, mTest, mAnd, mOr, mNot, mIf, mAndV, mOrV, mNotV, mCB, mCall0, gN, gsN, gsC, gT, gT2, mSlV, mListRg, mListRg1, mNext, mRet, mRetN, mIfS, mDrop, mPar, mApp, mFreeze, mSetI, mItL, mItS, mRng1, mRng2, mIsi, mIsN, mNotN, dI, dI0, dB0, dU, dEq, dNe, dAdd, dIx, mIxO, dLen, dList, dTuple, mCBO, dListO, dMax2, dAbs, dInt1, dGcd, dLcm, mTmpT, mAsgO, mAsgF, mRetF, mSc, mVarO, mSpoil, mSpoilK, ro0, List.map_cons, List.map_nil, List.replicate, List.length_cons, List.length_nil, List.getElem?_cons_zero, List.getElem?_cons_succ, List.set_cons_zero, List.set_cons_succ, List.cons_append, List.nil_append, Nat.reduceAdd, Nat.reduceSub, dSeq_lst, dSeq_tup, mFldT, mIsiC, mOrE, mMethX, mGetX, mMakeX, mPropX, mNoX, mNoXT, mZip, mSl, mSlO, mP, mNoP, dMax, dMin, mIns, mPopS, mSetF, gF, mChain, dAll, dSum, mEnum, mRaise, mMkE, mMk0, mCall, dEqX, dOr2, mTmpE, mAsgFO, mAsgFr, mAsgT, mRetT, mTO, mLf, mLsT, mNilT, mConsT, mCallT, mCallTX, mMethT, mTmE, mTmT, mTmA, mTmAT, mFrzT, aRoot, aVar, aIx, mAsgA, mAppA, mSetA, mInsA, mAppF, mAsgFI, mRetV, mRetNV, mLastT, mCallMS, mCallDs, wOf, wNot, wOr, wCall, wIf, mTmO, mOwnT, endM, dIn, dInS, dSorted, mClrR, mAppR, mAppPop, mRetVT, dAddA, mSlT, dAny, mObF, mTmBE, mTmBT, mTmBO, mFrzB, mFrzF, mSetBD, mSetBT, mAppB, mSetIB, mBCall, mBCallA, mMakeB, mRepO, dMulA, mAsgF2, mVarFr, mTmpO, mSpoilF, dNotInS, mRng3, dNotInD, dInNX] $[$l]?)
  | `(tactic| simp only [zDM, $xs,*] $[$l:location]?) => `(tactic| simp only [mSeq, mAsg, mVar, mC, mOp, mUn, mNil, mCons, mTup, mLst, mFrz, mTest, mAnd, mOr, mNot, mIf, mAndV, mOrV, mNotV, mCB, mCall0, gN, gsN, gsC, gT, gT2, mSlV, mListRg, mListRg1, mNext, mRet, mRetN, mIfS, mDrop, mPar, mApp, mFreeze, mSetI, mItL, mItS, mRng1, mRng2, mIsi, mIsN, mNotN, dI, dI0, dB0, dU, dEq, dNe, dAdd, dIx, mIxO, dLen, dList, dTuple, mCBO, dListO, dMax2, dAbs, dInt1, dGcd, dLcm, mTmpT, mAsgO, mAsgF, mRetF, mSc, mVarO, mSpoil, mSpoilK, ro0, List.map_cons, List.map_nil, List.replicate, List.length_cons, List.length_nil, List.getElem?_cons_zero, List.getElem?_cons_succ, List.set_cons_zero, List.set_cons_succ, List.cons_append, List.nil_append, Nat.reduceAdd, Nat.reduceSub, dSeq_lst, dSeq_tup, mFldT, mIsiC, mOrE, mMethX, mGetX, mMakeX, mPropX, mNoX, mNoXT, mZip, mSl, mSlO, mP, mNoP, dMax, dMin, mIns, mPopS, mSetF, gF, mChain, dAll, dSum, mEnum, mRaise, mMkE, mMk0, mCall, dEqX, dOr2, mTmpE, mAsgFO, mAsgFr, mAsgT, mRetT, mTO, mLf, mLsT, mNilT, mConsT, mCallT, mCallTX, mMethT, mTmE, mTmT, mTmA, mTmAT, mFrzT, aRoot, aVar, aIx, mAsgA, mAppA, mSetA, mInsA, mAppF, mAsgFI, mRetV, mRetNV, mLastT, mCallMS, mCallDs, wOf, wNot, wOr, wCall, wIf, mTmO, mOwnT, endM, dIn, dInS, dSorted, mClrR, mAppR, mAppPop, mRetVT, dAddA, mSlT, dAny, mObF, mTmBE, mTmBT, mTmBO, mFrzB, mFrzF, mSetBD, mSetBT, mAppB, mSetIB, mBCall, mBCallA, mMakeB, mRepO, dMulA, mAsgF2, mVarFr, mTmpO, mSpoilF, dNotInS, mRng3, dNotInD, dInNX, $xs,*] $[$l]?)
def top (i : Nat) : Stmt := PySem.Challenge.pw_everydecider_k74_signals_split.main.body.getD i (.Pass ⟨0, 0, 0, 0⟩)
def clsB : Stmt → List Stmt
  | .ClassDef (body := b) .. => b
  | _ => []
abbrev s_is_integer : Stmt := top 13
abbrev s_is_number_below : Stmt := top 14
abbrev s_are_integers : Stmt := top 15
abbrev s_are_amounts : Stmt := top 16
abbrev s_are_weights : Stmt := top 17
abbrev s_check_same_states : Stmt := top 18
abbrev s_check_states : Stmt := top 19
abbrev s_common : Stmt := top 22
abbrev s_lowest : Stmt := top 23
abbrev s_check_unit : Stmt := top 25
abbrev s_check_rows : Stmt := top 26
abbrev s_lowest_rows : Stmt := top 27
abbrev s_turned : Stmt := top 28
abbrev s_Experiment___init : Stmt := (clsB (top 30)).getD 0 (.Pass ⟨0, 0, 0, 0⟩)
abbrev s_Experiment_rows : Stmt := (clsB (top 30)).getD 1 (.Pass ⟨0, 0, 0, 0⟩)
abbrev s_Experiment___eq : Stmt := (clsB (top 30)).getD 5 (.Pass ⟨0, 0, 0, 0⟩)
abbrev s_standard : Stmt := top 32
abbrev s_alike : Stmt := top 33
abbrev s_split : Stmt := top 34
abbrev s_without_empty : Stmt := top 35
abbrev s_groups : Stmt := top 36
abbrev s_law_pool : Stmt := top 38
abbrev s_law_take : Stmt := top 39
abbrev s_law_is : Stmt := top 40
abbrev s_law_is_number : Stmt := top 41
abbrev s_law_divisor : Stmt := top 42
abbrev s_law_lowest : Stmt := top 43
abbrev s_law_row : Stmt := top 44
abbrev s_law_rows : Stmt := top 45
abbrev s_law_table : Stmt := top 46
abbrev s_law_prior : Stmt := top 47
abbrev s_law_shows : Stmt := top 48
abbrev s_law_told : Stmt := top 49
abbrev s_law_due : Stmt := top 50
abbrev s_law_with_empty : Stmt := top 51
abbrev s_law_splits_again : Stmt := top 52
abbrev s_law : Stmt := top 53
abbrev s_init_BadSize : Stmt := (clsB (top 5)).getD 0 (.Pass ⟨0, 0, 0, 0⟩)
theorem sc_init_BadSize : FnScope ["self", "size"] ["self", "size"] (defScope s_init_BadSize) := ⟨rfl, rfl, rfl, by decide +kernel, rfl, by decide +kernel, by decide +kernel⟩
abbrev s_init_BadRatio : Stmt := (clsB (top 3)).getD 0 (.Pass ⟨0, 0, 0, 0⟩)
theorem sc_init_BadRatio : FnScope ["self", "bottom"] ["self", "bottom"] (defScope s_init_BadRatio) := ⟨rfl, rfl, rfl, by decide +kernel, rfl, by decide +kernel, by decide +kernel⟩
abbrev s_init_BadUnit : Stmt := (clsB (top 4)).getD 0 (.Pass ⟨0, 0, 0, 0⟩)
theorem sc_init_BadUnit : FnScope ["self", "unit"] ["self", "unit"] (defScope s_init_BadUnit) := ⟨rfl, rfl, rfl, by decide +kernel, rfl, by decide +kernel, by decide +kernel⟩
abbrev s_init_NoSignal : Stmt := (clsB (top 9)).getD 0 (.Pass ⟨0, 0, 0, 0⟩)
theorem sc_init_NoSignal : FnScope ["self", "signal"] ["self", "signal"] (defScope s_init_NoSignal) := ⟨rfl, rfl, rfl, by decide +kernel, rfl, by decide +kernel, by decide +kernel⟩
abbrev s_init_BadRow : Stmt := (clsB (top 6)).getD 0 (.Pass ⟨0, 0, 0, 0⟩)
theorem sc_init_BadRow : FnScope ["self", "index"] ["self", "index"] (defScope s_init_BadRow) := ⟨rfl, rfl, rfl, by decide +kernel, rfl, by decide +kernel, by decide +kernel⟩
abbrev s_init_NoState : Stmt := (clsB (top 10)).getD 0 (.Pass ⟨0, 0, 0, 0⟩)
theorem sc_init_NoState : FnScope ["self", "state"] ["self", "state"] (defScope s_init_NoState) := ⟨rfl, rfl, rfl, by decide +kernel, rfl, by decide +kernel, by decide +kernel⟩
theorem sc_is_integer : FnScope ["value"] ["value"] (defScope s_is_integer) := ⟨rfl, rfl, rfl, by decide +kernel, rfl, by decide +kernel, by decide +kernel⟩
theorem sc_is_number_below : FnScope ["value", "count"] ["value", "count"] (defScope s_is_number_below) := ⟨rfl, rfl, rfl, by decide +kernel, rfl, by decide +kernel, by decide +kernel⟩
theorem sc_are_integers : FnScope ["values", "value"] ["values"] (defScope s_are_integers) := ⟨rfl, rfl, rfl, by decide +kernel, rfl, by decide +kernel, by decide +kernel⟩
theorem sc_are_amounts : FnScope ["values", "value"] ["values"] (defScope s_are_amounts) := ⟨rfl, rfl, rfl, by decide +kernel, rfl, by decide +kernel, by decide +kernel⟩
theorem sc_are_weights : FnScope ["values"] ["values"] (defScope s_are_weights) := ⟨rfl, rfl, rfl, by decide +kernel, rfl, by decide +kernel, by decide +kernel⟩
theorem sc_check_same_states : FnScope ["one", "other"] ["one", "other"] (defScope s_check_same_states) := ⟨rfl, rfl, rfl, by decide +kernel, rfl, by decide +kernel, by decide +kernel⟩
theorem sc_check_states : FnScope ["states"] ["states"] (defScope s_check_states) := ⟨rfl, rfl, rfl, by decide +kernel, rfl, by decide +kernel, by decide +kernel⟩
theorem sc_common : FnScope ["ratios", "unit", "_", "bottom", "top"] ["ratios"] (defScope s_common) := ⟨rfl, rfl, rfl, by decide +kernel, rfl, by decide +kernel, by decide +kernel⟩
theorem sc_lowest : FnScope ["numbers", "divisor", "number"] ["numbers"] (defScope s_lowest) := ⟨rfl, rfl, rfl, by decide +kernel, rfl, by decide +kernel, by decide +kernel⟩
theorem sc_check_unit : FnScope ["unit"] ["unit"] (defScope s_check_unit) := ⟨rfl, rfl, rfl, by decide +kernel, rfl, by decide +kernel, by decide +kernel⟩
theorem sc_check_rows : FnScope ["unit", "rows", "index", "row"] ["unit", "rows"] (defScope s_check_rows) := ⟨rfl, rfl, rfl, by decide +kernel, rfl, by decide +kernel, by decide +kernel⟩
theorem sc_lowest_rows : FnScope ["unit", "rows", "divisor", "row", "kept", "number"] ["unit", "rows"] (defScope s_lowest_rows) := ⟨rfl, rfl, rfl, by decide +kernel, rfl, by decide +kernel, by decide +kernel⟩
theorem sc_turned : FnScope ["rows", "column"] ["rows"] (defScope s_turned) := ⟨rfl, rfl, rfl, by decide +kernel, rfl, by decide +kernel, by decide +kernel⟩
theorem sc_Experiment___init : FnScope ["self", "unit", "rows"] ["self", "unit", "rows"] (defScope s_Experiment___init) := ⟨rfl, rfl, rfl, by decide +kernel, rfl, by decide +kernel, by decide +kernel⟩
theorem sc_Experiment_rows : FnScope ["self", "row"] ["self"] (defScope s_Experiment_rows) := ⟨rfl, rfl, rfl, by decide +kernel, rfl, by decide +kernel, by decide +kernel⟩
theorem sc_Experiment___eq : FnScope ["self", "other"] ["self", "other"] (defScope s_Experiment___eq) := ⟨rfl, rfl, rfl, by decide +kernel, rfl, by decide +kernel, by decide +kernel⟩
theorem sc_standard : FnScope ["e", "columns", "sums", "group", "rows", "signal", "row"] ["e"] (defScope s_standard) := ⟨rfl, rfl, rfl, by decide +kernel, rfl, by decide +kernel, by decide +kernel⟩
theorem sc_alike : FnScope ["one", "other"] ["one", "other"] (defScope s_alike) := ⟨rfl, rfl, rfl, by decide +kernel, rfl, by decide +kernel, by decide +kernel⟩
theorem sc_split : FnScope ["e", "signal", "weights", "whole", "columns", "at", "column", "factors", "factor", "number"] ["e", "signal", "weights"] (defScope s_split) := ⟨rfl, rfl, rfl, by decide +kernel, rfl, by decide +kernel, by decide +kernel⟩
theorem sc_without_empty : FnScope ["e", "column"] ["e"] (defScope s_without_empty) := ⟨rfl, rfl, rfl, by decide +kernel, rfl, by decide +kernel, by decide +kernel⟩
theorem sc_groups : FnScope ["columns", "groups", "posteriors", "pairs", "signal", "column", "_", "factors", "number", "factor", "group"] ["columns"] (defScope s_groups) := ⟨rfl, rfl, rfl, by decide +kernel, rfl, by decide +kernel, by decide +kernel⟩
theorem sc_law_pool : FnScope ["_law_script"] ["_law_script"] (defScope s_law_pool) := ⟨rfl, rfl, rfl, by decide +kernel, rfl, by decide +kernel, by decide +kernel⟩
theorem sc_law_take : FnScope ["_law_pool_here", "_law_many", "_law_digit", "_law_at", "_law_cell", "_law_mixed"] ["_law_pool_here", "_law_many"] (defScope s_law_take) := ⟨rfl, rfl, rfl, by decide +kernel, rfl, by decide +kernel, by decide +kernel⟩
theorem sc_law_is : FnScope ["_law_told_here", "_law_due_here"] ["_law_told_here", "_law_due_here"] (defScope s_law_is) := ⟨rfl, rfl, rfl, by decide +kernel, rfl, by decide +kernel, by decide +kernel⟩
theorem sc_law_is_number : FnScope ["_law_thing"] ["_law_thing"] (defScope s_law_is_number) := ⟨rfl, rfl, rfl, by decide +kernel, rfl, by decide +kernel, by decide +kernel⟩
theorem sc_law_divisor : FnScope ["_law_numbers", "_law_found", "_law_number", "_law_one", "_law_other"] ["_law_numbers"] (defScope s_law_divisor) := ⟨rfl, rfl, rfl, by decide +kernel, rfl, by decide +kernel, by decide +kernel⟩
theorem sc_law_lowest : FnScope ["_law_unit", "_law_rows_here", "_law_numbers", "_law_row_here", "_law_part", "_law_item"] ["_law_unit", "_law_rows_here"] (defScope s_law_lowest) := ⟨rfl, rfl, rfl, by decide +kernel, rfl, by decide +kernel, by decide +kernel⟩
theorem sc_law_row : FnScope ["_law_pool_here", "_law_unit", "_law_many", "_law_row_here", "_law_rest", "_law_k", "_law_start", "_law_part"] ["_law_pool_here", "_law_unit", "_law_many"] (defScope s_law_row) := ⟨rfl, rfl, rfl, by decide +kernel, rfl, by decide +kernel, by decide +kernel⟩
theorem sc_law_rows : FnScope ["_law_pool_here", "_law_lines", "_law_many", "_law_unit", "_law_k"] ["_law_pool_here", "_law_lines", "_law_many", "_law_unit"] (defScope s_law_rows) := ⟨rfl, rfl, rfl, by decide +kernel, rfl, by decide +kernel, by decide +kernel⟩
theorem sc_law_table : FnScope ["_law_pool_here", "_law_lines", "_law_most", "_law_unit_most", "_law_unit"] ["_law_pool_here", "_law_lines", "_law_most", "_law_unit_most"] (defScope s_law_table) := ⟨rfl, rfl, rfl, by decide +kernel, rfl, by decide +kernel, by decide +kernel⟩
theorem sc_law_prior : FnScope ["_law_pool_here", "_law_states", "_law_most", "_law_prior_here", "_law_state"] ["_law_pool_here", "_law_states", "_law_most"] (defScope s_law_prior) := ⟨rfl, rfl, rfl, by decide +kernel, rfl, by decide +kernel, by decide +kernel⟩
theorem sc_law_shows : FnScope ["_law_thing", "_law_table_here", "_law_unit", "_law_rows_here"] ["_law_thing", "_law_table_here"] (defScope s_law_shows) := ⟨rfl, rfl, rfl, by decide +kernel, rfl, by decide +kernel, by decide +kernel⟩
theorem sc_law_told : FnScope ["_law_e", "_law_signal", "_law_weights", "error"] ["_law_e", "_law_signal", "_law_weights"] (defScope s_law_told) := ⟨rfl, rfl, rfl, by decide +kernel, rfl, by decide +kernel, by decide +kernel⟩
theorem sc_law_due : FnScope ["_law_table_here", "_law_signal", "_law_weights", "_law_weight", "_law_whole", "_law_rows_here", "_law_row_here", "_law_made", "_law_at"] ["_law_table_here", "_law_signal", "_law_weights"] (defScope s_law_due) := ⟨rfl, rfl, rfl, by decide +kernel, rfl, by decide +kernel, by decide +kernel⟩
theorem sc_law_with_empty : FnScope ["_law_pool_here", "_law_table_here", "_law_at", "_law_row_here"] ["_law_pool_here", "_law_table_here"] (defScope s_law_with_empty) := ⟨rfl, rfl, rfl, by decide +kernel, rfl, by decide +kernel, by decide +kernel⟩
theorem sc_law_splits_again : FnScope ["_law_e", "_law_table_here", "_law_at", "_law_given"] ["_law_e", "_law_table_here"] (defScope s_law_splits_again) := ⟨rfl, rfl, rfl, by decide +kernel, rfl, by decide +kernel, by decide +kernel⟩
theorem sc_law : FnScope ["_law_script", "_law_pool_here", "_law_spoil", "_law_table_here", "_law_signal", "_law_weights", "_law_at", "_law_kept", "_law_e", "_law_due_here", "_law_told_here", "_law_second", "_law_here", "_law_less", "_law_k", "_law_weight", "_law_row_here"] ["_law_script"] (defScope s_law) := ⟨rfl, rfl, rfl, by decide +kernel, rfl, by decide +kernel, by decide +kernel⟩
def tab : Tab := [(("BadSize" : Str), ("BadSize" : Str), true), (("BadSize" : Str), ("BadRatio" : Str), false), (("BadSize" : Str), ("BadUnit" : Str), false), (("BadSize" : Str), ("NoSignal" : Str), false), (("BadSize" : Str), ("BadRow" : Str), false), (("BadSize" : Str), ("NoState" : Str), false), (("BadSize" : Str), ("Mismatch" : Str), false), (("BadSize" : Str), ("BadWeights" : Str), false), (("BadRatio" : Str), ("BadSize" : Str), false), (("BadRatio" : Str), ("BadRatio" : Str), true), (("BadRatio" : Str), ("BadUnit" : Str), false), (("BadRatio" : Str), ("NoSignal" : Str), false), (("BadRatio" : Str), ("BadRow" : Str), false), (("BadRatio" : Str), ("NoState" : Str), false), (("BadRatio" : Str), ("Mismatch" : Str), false), (("BadRatio" : Str), ("BadWeights" : Str), false), (("BadUnit" : Str), ("BadSize" : Str), false), (("BadUnit" : Str), ("BadRatio" : Str), false), (("BadUnit" : Str), ("BadUnit" : Str), true), (("BadUnit" : Str), ("NoSignal" : Str), false), (("BadUnit" : Str), ("BadRow" : Str), false), (("BadUnit" : Str), ("NoState" : Str), false), (("BadUnit" : Str), ("Mismatch" : Str), false), (("BadUnit" : Str), ("BadWeights" : Str), false), (("NoSignal" : Str), ("BadSize" : Str), false), (("NoSignal" : Str), ("BadRatio" : Str), false), (("NoSignal" : Str), ("BadUnit" : Str), false), (("NoSignal" : Str), ("NoSignal" : Str), true), (("NoSignal" : Str), ("BadRow" : Str), false), (("NoSignal" : Str), ("NoState" : Str), false), (("NoSignal" : Str), ("Mismatch" : Str), false), (("NoSignal" : Str), ("BadWeights" : Str), false), (("BadRow" : Str), ("BadSize" : Str), false), (("BadRow" : Str), ("BadRatio" : Str), false), (("BadRow" : Str), ("BadUnit" : Str), false), (("BadRow" : Str), ("NoSignal" : Str), false), (("BadRow" : Str), ("BadRow" : Str), true), (("BadRow" : Str), ("NoState" : Str), false), (("BadRow" : Str), ("Mismatch" : Str), false), (("BadRow" : Str), ("BadWeights" : Str), false), (("NoState" : Str), ("BadSize" : Str), false), (("NoState" : Str), ("BadRatio" : Str), false), (("NoState" : Str), ("BadUnit" : Str), false), (("NoState" : Str), ("NoSignal" : Str), false), (("NoState" : Str), ("BadRow" : Str), false), (("NoState" : Str), ("NoState" : Str), true), (("NoState" : Str), ("Mismatch" : Str), false), (("NoState" : Str), ("BadWeights" : Str), false), (("Mismatch" : Str), ("BadSize" : Str), false), (("Mismatch" : Str), ("BadRatio" : Str), false), (("Mismatch" : Str), ("BadUnit" : Str), false), (("Mismatch" : Str), ("NoSignal" : Str), false), (("Mismatch" : Str), ("BadRow" : Str), false), (("Mismatch" : Str), ("NoState" : Str), false), (("Mismatch" : Str), ("Mismatch" : Str), true), (("Mismatch" : Str), ("BadWeights" : Str), false), (("BadWeights" : Str), ("BadSize" : Str), false), (("BadWeights" : Str), ("BadRatio" : Str), false), (("BadWeights" : Str), ("BadUnit" : Str), false), (("BadWeights" : Str), ("NoSignal" : Str), false), (("BadWeights" : Str), ("BadRow" : Str), false), (("BadWeights" : Str), ("NoState" : Str), false), (("BadWeights" : Str), ("Mismatch" : Str), false), (("BadWeights" : Str), ("BadWeights" : Str), true)]
def ctab : CTab := [(("Experiment" : Str), [("states" : Str), ("signals" : Str), ("unit" : Str), ("_rows" : Str)])]
def plain : D → Prop | .ins _ _ => False | .pool => False | _ => True
instance : DecidablePred plain := fun d => by cases d <;> unfold plain <;> infer_instance
def isNum : D → Bool | .int _ => true | _ => false
def intOf : D → Int | .int i => i | _ => 0
def items : D → Option (List D) | .lst l => some l | .tup l => some l | _ => none
def Sm (k : Nat) (n : Int) : Prop := n.natAbs < 2 ^ k
def errV (nm f : Str) (d : D) : Err := ⟨nm, some (f, d)⟩
def belowB (d : D) (n : Int) : Bool := isNum d && (decide (0 ≤ intOf d) && decide (intOf d < n))
/-- plain, and so are its items -/
def plain2 (d : D) : Prop := plain d ∧ ∀ l, items d = some l → l.length ≤ 1000000 ∧ ∀ x ∈ l, plain x
def areInts (d : D) : Bool := match items d with | some l => l.all isNum | none => false
def areAms (d : D) : Bool := areInts d && (match items d with | some l => l.all fun x => decide (0 ≤ intOf x) | none => false)
def sumD (l : List D) : Int := (l.map intOf).sum
def areWts (d : D) : Bool := areAms d && (match items d with | some l => decide (0 < sumD l) | none => false)
def okUnit (d : D) : Bool := isNum d && decide (1 ≤ intOf d)
def okStates (d : D) : Bool := isNum d && (decide (1 ≤ intOf d) && decide (intOf d ≤ 4))
def rowOk (u : Int) (n : Nat) (d : D) : Bool := areAms d && (match items d with | some l => l.length == n && sumD l == u | none => false)
def lenD (d : D) : Nat := match items d with | some l => l.length | none => 0
def firstBad (p : D → Bool) (l : List D) : Option Nat := l.findIdx? fun d => !p d
def badRow (u : Int) (rs : List D) : Option Nat := firstBad (rowOk u (lenD (rs.headD .non))) rs
def fIsInt : DF := fun _ ds c rt => ∃ d, ds = [d] ∧ plain d ∧ rt (.bl (isNum d)) c
def fBelow : DF := fun _ ds c rt => ∃ d n, ds = [d, .int n] ∧ plain d ∧ rt (.bl (belowB d n)) c
def fAreInts : DF := fun _ ds c rt => ∃ d, ds = [d] ∧ plain2 d ∧ rt (.bl (areInts d)) c
def fAreAms : DF := fun _ ds c rt => ∃ d, ds = [d] ∧ plain2 d ∧ rt (.bl (areAms d)) c
def fAreWts : DF := fun _ ds c rt => ∃ d, ds = [d] ∧ plain2 d ∧ rt (.bl (areWts d)) c
def fCheckStates : DF := fun xe ds c rt => ∃ d, ds = [d] ∧ plain d ∧ (okStates d = false → xe (errV "BadSize" "size" d) c) ∧ (okStates d = true → rt .non c)
def fCheckUnit : DF := fun xe ds c rt => ∃ d, ds = [d] ∧ plain d ∧ (okUnit d = false → xe (errV "BadUnit" "unit" d) c) ∧ (okUnit d = true → rt .non c)
def fCheckRows : DF := fun xe ds c rt => ∃ (u : Int) (d : D) (rs : List D), ds = [.int u, d] ∧ (d = .lst rs ∨ d = .tup rs) ∧ (∀ r ∈ rs, plain2 r) ∧ (∀ i, badRow u rs = some i → xe (errV "BadRow" "index" (.int i)) c) ∧ (badRow u rs = none → rt .non c)
/-- rows of ints -/
def rowsD (rows : List (List Int)) : List D := rows.map fun r => .lst (r.map .int)
def rowsT (rows : List (List Int)) : List D := rows.map fun r => .tup (r.map .int)
def gcdF (g : Nat) (ns : List Int) : Nat := ns.foldl (fun g n => Nat.gcd g n.natAbs) g
def gcdR (u : Int) (rows : List (List Int)) : Nat := rows.foldl gcdF u.natAbs
def divR (g : Int) (rows : List (List Int)) : List (List Int) := rows.map fun r => r.map fun n => n.fdiv g
/-- d is a row of ints, a list or a tuple -/
def isRow (d : D) (r : List Int) : Prop := d = .lst (r.map .int) ∨ d = .tup (r.map .int)
def areRows (rs : List D) (rows : List (List Int)) : Prop := rs.length = rows.length ∧ ∀ (i : Nat) (d : D) (r : List Int), rs[i]? = some d → rows[i]? = some r → isRow d r
def fLowestRows : DF := fun _ ds c rt => ∃ (u : Int) (d : D) (rs : List D) (rows : List (List Int)), ds = [.int u, d] ∧ (d = .lst rs ∨ d = .tup rs) ∧ areRows rs rows ∧ (1 ≤ u ∧ Sm 8000 u) ∧ rows.length ≤ 1000 ∧ (∀ r ∈ rows, r.length ≤ 1000000) ∧
  rt (.tup [.int (u.fdiv (gcdR u rows)), .tup (rowsT (divR (gcdR u rows) rows))]) c
/-- an experiment in lowest terms -/
def expF (u : Int) (rows : List (List Int)) : List (Str × D) := [("unit", .int u), ("_rows", .tup (rowsT rows)), ("states", .int rows.length), ("signals", .int (rows.headD []).length)]
def expD (u : Int) (rows : List (List Int)) : D := .ins "Experiment" (expF u rows)
def low1 (u : Int) (rows : List (List Int)) : Int := u.fdiv (gcdR u rows)
def low2 (u : Int) (rows : List (List Int)) : List (List Int) := divR (gcdR u rows) rows
def rowOf (d : D) : List Int := match items d with | some l => l.map intOf | none => []
def fExpInit : DI := fun xe ds c rt => ∃ (ud d : D) (rs : List D), ds = [ud, d] ∧ (d = .lst rs ∨ d = .tup rs) ∧ plain ud ∧ Sm 8000 (intOf ud) ∧ (∀ r ∈ rs, plain2 r) ∧
  (okUnit ud = false → xe (errV "BadUnit" "unit" ud) c) ∧ (okUnit ud = true → ¬ (1 ≤ rs.length ∧ rs.length ≤ 4) → xe (errV "BadSize" "size" (.int rs.length)) c) ∧
  (okUnit ud = true → (1 ≤ rs.length ∧ rs.length ≤ 4) → ∀ i, badRow (intOf ud) rs = some i → xe (errV "BadRow" "index" (.int i)) c) ∧
  (okUnit ud = true → (1 ≤ rs.length ∧ rs.length ≤ 4) → badRow (intOf ud) rs = none → rt (expF (low1 (intOf ud) (rs.map rowOf)) (low2 (intOf ud) (rs.map rowOf))) c)
def fExpRows : DF := fun _ ds c rt => ∃ u rows, ds = [expD u rows] ∧ rows.length ≤ 1000 ∧ rt (.lst (rowsD rows)) c
def sg (a b : Int) : Int := if b < 0 then -((gcdL [a, b] : Nat) : Int) else ((gcdL [a, b] : Nat) : Int)
def rat (a b : Int) : D := .tup [.int a, .int b]
def lowP (a b : Int) : Int × Int := (a.fdiv (sg a b), b.fdiv (sg a b))
def low (a b : Int) : D := rat (lowP a b).1 (lowP a b).2
def errM : Err := ⟨"Mismatch", none⟩
/-- rows of an experiment, each m wide -/
structure RowsOk (u : Int) (rows : List (List Int)) (s m : Nat) : Prop where
  hu : 1 ≤ u
  hs : Sm 200 u
  s1 : 1 ≤ s
  s4 : s ≤ 4
  m1 : 1 ≤ m
  m64 : m ≤ 64
  len : rows.length = s
  row : ∀ r ∈ rows, r.length = m ∧ r.sum = u ∧ ∀ x ∈ r, 0 ≤ x
def fGcd : DF := fun _ ds c rt => ∃ ns : List Int, ds = [.lst (ns.map .int)] ∧ rt (.int (gcdL ns : Nat)) c
def fLLow : DF := fun _ ds c rt => ∃ (u : Int) (rows : List (List Int)), ds = [.int u, .lst (rowsD rows)] ∧ (0 ≤ u ∧ Sm 8000 u ∧ gcdR u rows ≠ 0 ∧ Sm 8000 (gcdR u rows)) ∧ (rows.length ≤ 100 ∧ ∀ r ∈ rows, r.length ≤ 1000) ∧ rt (.lst [.int (low1 u rows), .lst (rowsD (low2 u rows))]) c
def fLRow : DF := fun _ ds c rt => ∃ (u : Int) (m : Nat), ds = [.pool, .int u, .int m] ∧ (0 ≤ u ∧ u ≤ 100000) ∧ (1 ≤ m ∧ m ≤ 64) ∧ c < 100000000 ∧ ∀ (r : List Int) (c' : Nat), r.length = m → r.sum = u → (∀ x ∈ r, 0 ≤ x) → c' ≤ c + m → rt (.lst (r.map .int)) c'
def fLRows : DF := fun _ ds c rt => ∃ (u : Int) (s m : Nat), ds = [.pool, .int s, .int m, .int u] ∧ (0 ≤ u ∧ u ≤ 100000) ∧ (1 ≤ m ∧ m ≤ 64) ∧ s ≤ 100 ∧ c < 10000000 ∧ ∀ (rows : List (List Int)) (c' : Nat), rows.length = s → (∀ r ∈ rows, r.length = m ∧ r.sum = u ∧ ∀ x ∈ r, 0 ≤ x) → c' ≤ c + m * s → rt (.lst (rowsD rows)) c'
def tblD (u : Int) (rows : List (List Int)) : D := .lst [.int u, .lst (rowsD rows)]
def fLTable : DF := fun _ ds c rt => ∃ (s mm um : Nat), ds = [.pool, .int s, .int mm, .int um] ∧ (1 ≤ um ∧ um ≤ 100000) ∧ (1 ≤ mm ∧ mm ≤ 64) ∧ s ≤ 100 ∧ c < 1000000 ∧ ∀ (u : Int) (rows : List (List Int)) (m c' : Nat), 1 ≤ u → u ≤ um → 1 ≤ m → m ≤ mm → rows.length = s → (∀ r ∈ rows, r.length = m ∧ r.sum = u ∧ ∀ x ∈ r, 0 ≤ x) → c' ≤ c + 2 + mm * s → rt (tblD u rows) c'
def fLPrior : DF := fun _ ds c rt => ∃ (s mx : Nat), ds = [.pool, .int s, .int mx] ∧ (1 ≤ s ∧ s ≤ 100) ∧ (1 ≤ mx ∧ mx ≤ 100000) ∧ c < 10000000 ∧ ∀ (ns : List Int) (c' : Nat), ns.length = s → (∀ x ∈ ns, 0 ≤ x ∧ x ≤ mx) → 0 < ns.sum → c' ≤ c + s + 1 → rt (.lst (ns.map .int)) c'
def lowL (ns : List Int) : List Int := if gcdL ns = 0 then ns else ns.map fun n => n.fdiv (gcdL ns : Nat)
def fLowest : DF := fun _ ds c rt => ∃ ns : List Int, (ds = [.lst (ns.map .int)] ∨ ds = [.tup (ns.map .int)]) ∧ ns.length ≤ 1000 ∧ (∀ n ∈ ns, n.natAbs < 2 ^ 8000) ∧ rt (.lst ((lowL ns).map .int)) c
def garF (u : Int) (rows : List (List Int)) : List (Str × D) := [("unit", .int u), ("_rows", .tup (rowsT rows)), ("before", .int rows.length), ("after", .int (rows.headD []).length)]
/-- rows of a garbling, s of them, each m wide -/
structure GarOk (u : Int) (rows : List (List Int)) (s m : Nat) : Prop where
  hu : 1 ≤ u
  hs : Sm 200 u
  len : rows.length = s
  s1 : 1 ≤ s
  s64 : s ≤ 64
  m1 : 1 ≤ m
  m64 : m ≤ 64
  row : ∀ r ∈ rows, r.length = m ∧ r.sum = u ∧ ∀ x ∈ r, 0 ≤ x
def fGarInit : DI := fun xe ds c rt => ∃ (ud d : D) (rs : List D), ds = [ud, d] ∧ (d = .lst rs ∨ d = .tup rs) ∧ rs.length ≤ 1000 ∧ plain ud ∧ Sm 8000 (intOf ud) ∧ (∀ r ∈ rs, plain2 r) ∧
  (okUnit ud = false → xe (errV "BadUnit" "unit" ud) c) ∧ (okUnit ud = true → rs = [] → xe (errV "BadSize" "size" (.int 0)) c) ∧
  (okUnit ud = true → rs ≠ [] → ∀ i, badRow (intOf ud) rs = some i → xe (errV "BadRow" "index" (.int i)) c) ∧
  (okUnit ud = true → rs ≠ [] → badRow (intOf ud) rs = none → rt (garF (low1 (intOf ud) (rs.map rowOf)) (low2 (intOf ud) (rs.map rowOf))) c)
def fExpEqX : DF := fun _ ds c rt => ∃ u rows d b, ds = [expD u rows, d] ∧ ((∃ u2 rows2, d = expD u2 rows2 ∧ b = decide (u = u2 ∧ rows = rows2)) ∨ (okD ctab d = true ∧ isCls "Experiment" d = false ∧ b = false)) ∧ rt (.bl b) c
def fShows : DF := fun _ ds c rt => ∃ (u : Int) (rows : List (List Int)) (s m : Nat), ds = [expD (low1 u rows) (low2 u rows), tblD u rows] ∧ GarOk u rows s m ∧ rt (.bl true) c
def RowsM (u : Int) (rows : List (List Int)) (s m : Nat) : Prop := rows.length = s ∧ ∀ r ∈ rows, r.length = m ∧ r.sum = u ∧ ∀ x ∈ r, 0 ≤ x
def fSame : DF := fun xe ds c rt => ∃ (n1 : Str) (fs1 : List (Str × D)) (n2 : Str) (fs2 : List (Str × D)) (a b : Int), ds = [.ins n1 fs1, .ins n2 fs2] ∧ hasF ctab n1 "states" = true ∧ hasF ctab n2 "states" = true ∧ fs1.lookup ("states" : Str) = some (.int a) ∧ fs2.lookup ("states" : Str) = some (.int b) ∧ (a ≠ b → xe errM c) ∧ (a = b → rt .non c)
def lcmF (u : Int) (r : Int × Int) : Int := ((Nat.lcm u.natAbs r.2.natAbs : Nat) : Int)
def lcmL (rs : List (Int × Int)) : Int := rs.foldl lcmF 1
def ratsD (rs : List (Int × Int)) : List D := rs.map fun r => rat r.1 r.2
def topsL (rs : List (Int × Int)) : List D := rs.map fun r => .int (r.1 * (lcmL rs).fdiv r.2)
/-- ratios of moderate size -/
def Small (rs : List (Int × Int)) : Prop := rs.length ≤ 6 ∧ ∀ r ∈ rs, r.1.natAbs < 2 ^ 40 ∧ 0 < r.2 ∧ r.2 < 2 ^ 40
def fCommon : DF := fun _ ds c rt => ∃ rs, (ds = [.lst (ratsD rs)] ∨ ds = [.tup (ratsD rs)]) ∧ Small rs ∧ rt (.tup [.int (lcmL rs), .lst (topsL rs)]) c
/-- the columns of rows, m wide -/
def turnR (m : Nat) (rows : List (List Int)) : List (List Int) := (List.range m).map fun k => rows.map fun r => r.getD k 0
def fTurned : DF := fun _ ds c rt => ∃ (rows : List (List Int)) (m : Nat), ds = [.lst (rowsD rows)] ∧ (1 ≤ rows.length ∧ rows.length ≤ 24) ∧ m ≤ 1000 ∧ (∀ r ∈ rows, r.length = m) ∧ rt (.lst (rowsD (turnR m rows))) c
/-- numbered columns -/
abbrev En := List (Nat × List Int)
def enV (cols : List (List Int)) : En := (List.range cols.length).map fun j => (j, cols.getD j [])
def posB (p : Nat × List Int) : Bool := decide (0 < p.2.sum)
def keyStep (ks : List (List Int)) (p : Nat × List Int) : List (List Int) := if posB p && !ks.contains (lowL p.2) then ks ++ [lowL p.2] else ks
def keysV (P : En) : List (List Int) := P.foldl keyStep []
def sgN (P : En) (k : List Int) : List Nat := (P.filter fun p => posB p && (lowL p.2 == k)).map (·.1)
def sgV (P : En) (k : List Int) : List Int := (sgN P k).map fun (j : Nat) => (j : Int)
/-- a key over the common sum of all -/
def comV (ks : List (List Int)) : Int := lcmL (ks.map fun k => ((1 : Int), k.sum))
def postV (ks : List (List Int)) (k : List Int) : List Int := k.map fun n => n * (1 * (comV ks).fdiv k.sum)
def prD (ks : List (List Int)) (P : En) (k : List Int) : D := .tup [.lst ((postV ks k).map .int), .lst ((sgV P k).map .int)]
def sndV (d : D) : List Int := match d with | .tup [_, x] => rowOf x | _ => []
def grpV (cols : List (List Int)) : List (List Int) := (((keysV (enV cols)).map (prD (keysV (enV cols)) (enV cols))).mergeSort leD).map sndV
structure ColsOk (cols : List (List Int)) : Prop where
  l24 : cols.length ≤ 24
  k6 : (keysV (enV cols)).length ≤ 6
  col : ∀ c ∈ cols, c.length ≤ 8 ∧ ∀ x ∈ c, 0 ≤ x ∧ x ≤ 1073741824
def fGroups : DF := fun _ ds c rt => ∃ cols, ds = [.lst (rowsD cols)] ∧ ColsOk cols ∧ rt (.lst (rowsD (grpV cols))) c
def colI (rows : List (List Int)) (k : Nat) : List Int := rows.map fun r => r.getD k 0
/-- the groups of an experiment's signals -/
def grpE (m : Nat) (rows : List (List Int)) : List (List Int) := grpV (turnR m rows)
def gsum (r g : List Int) : Int := (g.map fun j => r.getD j.toNat 0).sum
def stdR (m : Nat) (rows : List (List Int)) : List (List Int) := rows.map fun r => (grpE m rows).map (gsum r)
structure StdG (u : Int) (rows : List (List Int)) (s m : Nat) : Prop where
  R : RowsOk u rows s m
  m24 : m ≤ 24
  k6 : (keysV (enV (turnR m rows))).length ≤ 6
  u30 : u ≤ 1000000
structure StdOk (u : Int) (rows : List (List Int)) (s m : Nat) : Prop where
  R : RowsOk u rows s m
  m6 : m ≤ 6
  u30 : u ≤ 1000000
def fStandard : DF := fun _ ds c rt => ∃ (u : Int) (rows : List (List Int)) (s m : Nat), ds = [expD u rows] ∧ StdG u rows s m ∧ rt (expD (low1 u (stdR m rows)) (low2 u (stdR m rows))) c
def errW : Err := ⟨"BadWeights", none⟩
def spRow (i : Nat) (ws r : List Int) : List Int := (List.range r.length).flatMap fun j => (if j = i then ws else [ws.sum]).map fun f => r.getD j 0 * f
def WtsD (d : D) : Prop := plain2 d ∧ ∀ l, items d = some l → l.length ≤ 8 ∧ ∀ x ∈ l, -1000 ≤ intOf x ∧ intOf x ≤ 1000
def fSplitE : DF := fun xe ds c rt => ∃ (u : Int) (rows : List (List Int)) (s m : Nat) (sd wd : D), ds = [expD u rows, sd, wd] ∧ RowsOk u rows s m ∧ (m ≤ 6 ∧ u ≤ 1000) ∧ plain sd ∧ WtsD wd ∧
  (belowB sd m = false → xe (errV "NoSignal" "signal" sd) c) ∧ (belowB sd m = true → areWts wd = false → xe errW c) ∧
  (belowB sd m = true → areWts wd = true → rt (expD (low1 (u * (rowOf wd).sum) (rows.map (spRow (intOf sd).toNat (rowOf wd)))) (low2 (u * (rowOf wd).sum) (rows.map (spRow (intOf sd).toNat (rowOf wd))))) c)
/-- the signals that come -/
def comeS (m : Nat) (rows : List (List Int)) : List Nat := (List.range m).filter fun j => decide (0 < (colI rows j).sum)
def woE (m : Nat) (rows : List (List Int)) : List (List Int) := rows.map fun r => (comeS m rows).map fun j => r.getD j 0
def fWithout : DF := fun _ ds c rt => ∃ (u : Int) (rows : List (List Int)) (s m : Nat), ds = [expD u rows] ∧ RowsOk u rows s m ∧ m ≤ 24 ∧ rt (expD (low1 u (woE m rows)) (low2 u (woE m rows))) c
def fAlike : DF := fun xe ds c rt => ∃ (u v : Int) (r1 r2 : List (List Int)) (s s2 m m2 : Nat), ds = [expD u r1, expD v r2] ∧ StdG u r1 s m ∧ StdG v r2 s2 m2 ∧ (s ≠ s2 → xe errM c) ∧
  (s = s2 → rt (.bl (decide (low1 u (stdR m r1) = low1 v (stdR m2 r2) ∧ low2 u (stdR m r1) = low2 v (stdR m2 r2)))) c)
def fIsB : DF := fun _ ds c rt => ∃ a b : Bool, ds = [.bl a, .bl b] ∧ rt (.bl (a == b)) c
/-- what is told of a split -/
def tellD (u : Int) (rows : List (List Int)) (m : Nat) (sd wd : D) (made : Int → List (List Int) → D) : D :=
  if belowB sd m = false then .lst [.str "signal", sd] else if areWts wd = false then .lst [.str "weights", .int 0] else made (u * (rowOf wd).sum) (rows.map (spRow (intOf sd).toNat (rowOf wd)))
def fTold74 : DF := fun _ ds c rt => ∃ (u : Int) (rows : List (List Int)) (s m : Nat) (sd wd : D), ds = [expD u rows, sd, wd] ∧ RowsOk u rows s m ∧ (m ≤ 6 ∧ u ≤ 1000) ∧ plain sd ∧ WtsD wd ∧ rt (tellD u rows m sd wd fun U M => expD (low1 U M) (low2 U M)) c
def fDue74 : DF := fun _ ds c rt => ∃ (u : Int) (rows : List (List Int)) (s m : Nat) (sd : D) (wl : List D), ds = [tblD u rows, sd, .lst wl] ∧ RowsOk u rows s m ∧ (m ≤ 6 ∧ u ≤ 1000) ∧ plain sd ∧ WtsD (.lst wl) ∧ rt (tellD u rows m sd (.lst wl) tblD) c
def fWithE : DF := fun _ ds c rt => ∃ (u : Int) (rows : List (List Int)) (s m : Nat), ds = [.pool, tblD u rows] ∧ RowsM u rows s m ∧ (1 ≤ s ∧ s ≤ 4) ∧ (1 ≤ m ∧ m ≤ 5) ∧ c < 100000 ∧ ∀ (rows' : List (List Int)) (c' : Nat), RowsM u rows' s (m + 1) → c' ≤ c + 1 → rt (tblD u rows') c'
def fAgain74 : DF := fun _ ds c rt => ∃ (u : Int) (rows : List (List Int)) (s m : Nat), ds = [expD (low1 u rows) (low2 u rows), tblD u rows] ∧ RowsOk u rows s m ∧ (m ≤ 6 ∧ u ≤ 1000) ∧ rt (.bl true) c
def b_is_integer : DS := (mRet (mAndV (mIsi "int" (mVar 0)) (mNotV (mIsi "bool" (mVar 0)))))
def b_is_number_below : DS := (mRet (mAndV (mCall0 fIsInt (mCons (mVar 0) mNil)) (mChain (dB0 fun i j => decide (i ≤ j)) (dB0 fun i j => decide (i < j)) (mC (.int 0)) (mVar 0) (mVar 1))))
def b_are_integers : DS := (mRet (mAndV (mIsi2 "list" "tuple" (mVar 0)) (mCB dAll (mCons (mFrz (mLc (mItS (mVar 0)) (gN 1) mYes (mCall0 fIsInt (mCons (mVar 1) mNil)) [1])) mNil))))
def b_are_amounts : DS := (mRet (mAndV (mCall0 fAreInts (mCons (mVar 0) mNil)) (mCB dAll (mCons (mFrz (mLc (mItS (mVar 0)) (gN 1) mYes (mOp (dB0 fun i j => decide (j ≤ i)) (mVar 1) (mC (.int 0))) [1])) mNil))))
def b_are_weights : DS := (mRet (mAndV (mCall0 fAreAms (mCons (mVar 0) mNil)) (mOp (dB0 fun i j => decide (j < i)) (mCB dSum (mCons (mVar 0) mNil)) (mC (.int 0)))))
def b_check_same_states : DS := (mIfS (mTest (mOp dNe (mFldT ctab "states" (mVar 0)) (mFldT ctab "states" (mVar 1)))) (mRaise (mMk0 "Mismatch")) mNext)
def b_check_states : DS := (mIfS (mOr (mNot (mTest (mCall0 fIsInt (mCons (mVar 0) mNil)))) (mNot (mTest (mChain (dB0 fun i j => decide (i ≤ j)) (dB0 fun i j => decide (i ≤ j)) (mC (.int 1)) (mVar 0) (mC (.int 4)))))) (mRaise (mMkE "BadSize" "size" (mVar 0))) mNext)
def b_common : DS := (mSeq (mAsg (mC (.int 1)) (gN 1))
      (mSeq (mFor (mItS (mVar 0)) (gT 2 (gsC (gN 2) (gsC (gN 3) gsN))) (mAsg (mCB dLcm (mCons (mVar 1) (mCons (mVar 3) mNil))) (gN 1)))
      (mRet (mTup (mCons (mVar 1) (mCons (mFrz (mLc (mItS (mVar 0)) (gT 2 (gsC (gN 4) (gsC (gN 3) gsN))) mYes (mOp (dI CMulW fun i j => i * j) (mVar 4) (mOp (dI CDivG fun i j => i.fdiv j) (mVar 1) (mVar 3))) [4, 3])) mNil))))))
def b_lowest : DS := (mSeq (mAsg (mC (.int 0)) (gN 1))
      (mSeq (mFor (mItS (mVar 0)) (gN 2) (mAsg (mCB dGcd (mCons (mVar 1) (mCons (mVar 2) mNil))) (gN 1)))
      (mSeq (mIfS (mTest (mOp dEq (mVar 1) (mC (.int 0)))) (mRet (mCB dList (mCons (mVar 0) mNil))) mNext)
      (mRet (mFrz (mLc (mItS (mVar 0)) (gN 2) mYes (mOp (dI CDivG fun i j => i.fdiv j) (mVar 2) (mVar 1)) [2]))))))
def b_check_unit : DS := (mIfS (mOr (mNot (mTest (mCall0 fIsInt (mCons (mVar 0) mNil)))) (mTest (mOp (dB0 fun i j => decide (i < j)) (mVar 0) (mC (.int 1))))) (mRaise (mMkE "BadUnit" "unit" (mVar 0))) mNext)
def b_check_rows : DS := (mFor (mEnum (mCons (mVar 1) mNil)) (gT 2 (gsC (gN 2) (gsC (gN 3) gsN))) (mIfS (mOr (mNot (mTest (mCall0 fAreAms (mCons (mVar 3) mNil)))) (mOr (mTest (mOp dNe (mCB dLen (mCons (mVar 3) mNil)) (mCB dLen (mCons (mOp dIx (mVar 1) (mC (.int 0))) mNil)))) (mTest (mOp dNe (mCB dSum (mCons (mVar 3) mNil)) (mVar 0))))) (mRaise (mMkE "BadRow" "index" (mVar 2))) mNext))
def b_lowest_rows : DS := (mSeq (mAsg (mVar 0) (gN 2))
      (mSeq (mFor (mItS (mVar 1)) (gN 3) (mFor (mItS (mVar 3)) (gN 5) (mAsg (mCB dGcd (mCons (mVar 2) (mCons (mVar 5) mNil))) (gN 2))))
      (mSeq (mAsg (mFrz (mLc (mItS (mVar 1)) (gN 3) mYes (mCB dTuple (mCons (mFrz (mLc (mItS (mVar 3)) (gN 5) mYes (mOp (dI CDivG fun i j => i.fdiv j) (mVar 5) (mVar 2)) [5])) mNil)) [3])) (gN 4))
      (mRet (mTup (mCons (mOp (dI CDivG fun i j => i.fdiv j) (mVar 0) (mVar 2)) (mCons (mCB dTuple (mCons (mVar 4) mNil)) mNil)))))))
def b_turned : DS := (mRet (mFrz (mLc (mZipSt (mVar 0)) (gN 1) mYes (mCB dList (mCons (mVar 1) mNil)) [1])))
def b_Experiment___init : DS := (mSeq (mDrop (mCall fCheckUnit (mCons (mVar 1) mNil)))
      (mSeq (mDrop (mCall fCheckStates (mCons (mCB dLen (mCons (mVar 2) mNil)) mNil)))
      (mSeq (mDrop (mCall fCheckRows (mCons (mVar 1) (mCons (mVar 2) mNil))))
      (mSeq (mAsg (mCall0 fLowestRows (mCons (mVar 1) (mCons (mVar 2) mNil))) (gT 2 (gsC (gF 0 "Experiment" "unit") (gsC (gF 0 "Experiment" "_rows") gsN))))
      (mSeq (mSetF 0 "Experiment" "states" (mCB dLen (mCons (mVar 2) mNil)))
      (mSetF 0 "Experiment" "signals" (mCB dLen (mCons (mOp dIx (mVar 2) (mC (.int 0))) mNil))))))))
def b_Experiment_rows : DS := (mRet (mFrz (mLc (mItS (mFldT ctab "_rows" (mVar 0))) (gN 1) mYes (mCB dList (mCons (mVar 1) mNil)) [1])))
def b_Experiment___eq : DS := (mRet (mAndV (mIsiC ctab "Experiment" (mVar 1)) (mAndV (mOp dEq (mFldT ctab "unit" (mVar 0)) (mFldT ctab "unit" (mVar 1))) (mOp dEq (mFldT ctab "_rows" (mVar 0)) (mFldT ctab "_rows" (mVar 1))))))
def b_standard : DS := (mSeq (mAsg (mCall0 fTurned (mCons (mMethX "Experiment" "rows" fExpRows (mVar 0) mNil) mNil)) (gN 1))
      (mSeq (mAsgO (mLst mNil) 2)
      (mSeq (mFor (mItS (mCall0 fGroups (mCons (mVar 1) mNil))) (gN 3) (mSeq (mAsg (mCall0 fTurned (mCons (mFrz (mLc (mItS (mVar 3)) (gN 5) mYes (mOp dIx (mVar 1) (mVar 5)) [5])) mNil)) (gN 4))
      (mApp 2 (mFrz (mLc (mItS (mVar 4)) (gN 6) mYes (mCB dSum (mCons (mVar 6) mNil)) [6])))))
      (mFreeze 2 (mRet (mMakeX "Experiment" fExpInit (mCons (mFldT ctab "unit" (mVar 0)) (mCons (mCall0 fTurned (mCons (mVar 2) mNil)) mNil))))))))
def b_alike : DS := (mSeq (mDrop (mCall fSame (mCons (mVar 0) (mCons (mVar 1) mNil))))
      (mRet (mOp (dEqX ctab "Experiment" fExpEqX) (mCall0 fStandard (mCons (mVar 0) mNil)) (mCall0 fStandard (mCons (mVar 1) mNil)))))
def b_split : DS := (mSeq (mIfS (mNot (mTest (mCall0 fBelow (mCons (mVar 1) (mCons (mFldT ctab "signals" (mVar 0)) mNil))))) (mRaise (mMkE "NoSignal" "signal" (mVar 1))) mNext)
      (mSeq (mIfS (mNot (mTest (mCall0 fAreWts (mCons (mVar 2) mNil)))) (mRaise (mMk0 "BadWeights")) mNext)
      (mSeq (mAsg (mCB dSum (mCons (mVar 2) mNil)) (gN 3))
      (mSeq (mAsgO (mLst mNil) 4)
      (mSeq (mFor (mEnum (mCons (mCall0 fTurned (mCons (mMethX "Experiment" "rows" fExpRows (mVar 0) mNil) mNil)) mNil)) (gT 2 (gsC (gN 5) (gsC (gN 6) gsN))) (mSeq (mAsg (mIf (mTest (mOp dEq (mVar 5) (mVar 1))) (mVar 2) (mFrz (mLst (mCons (mVar 3) mNil)))) (gN 7))
      (mExt 4 (mFrz (mLc (mItS (mVar 7)) (gN 8) mYes (mFrz (mLc (mItS (mVar 6)) (gN 9) mYes (mOp (dI CMulW fun i j => i * j) (mVar 9) (mVar 8)) [9])) [8])))))
      (mFreeze 4 (mRet (mMakeX "Experiment" fExpInit (mCons (mOp (dI CMulW fun i j => i * j) (mFldT ctab "unit" (mVar 0)) (mVar 3)) (mCons (mCall0 fTurned (mCons (mVar 4) mNil)) mNil))))))))))
def b_without_empty : DS := (mRet (mMakeX "Experiment" fExpInit (mCons (mFldT ctab "unit" (mVar 0)) (mCons (mCall0 fTurned (mCons (mFrz (mLc (mItS (mCall0 fTurned (mCons (mMethX "Experiment" "rows" fExpRows (mVar 0) mNil) mNil))) (gN 1) (mTest (mOp (dB0 fun i j => decide (j < i)) (mCB dSum (mCons (mVar 1) mNil)) (mC (.int 0)))) (mVar 1) [1])) mNil)) mNil))))
def b_groups : DS := (mSeq (mDcNew 1)
      (mSeq (mFor (mEnum (mCons (mVar 0) mNil)) (gT 2 (gsC (gN 4) (gsC (gN 5) gsN))) (mIfS (mTest (mOp (dB0 fun i j => decide (j < i)) (mCB dSum (mCons (mVar 5) mNil)) (mC (.int 0)))) (mDcApp 1 (mCB dTuple (mCons (mCall0 fLowest (mCons (mVar 5) mNil)) mNil)) (mVar 4)) mNext))
      (mSeq (mFreezeDc 1 (mAsg (mCall0 fCommon (mCons (mFrz (mLc (mItDz 1) (gN 5) mYes (mTup (mCons (mC (.int 1)) (mCons (mCB dSum (mCons (mVar 5) mNil)) mNil))) [5])) mNil)) (gT2 2 (gsC (gN 6) (gsC (gN 7) gsN)))))
      (mSeq (mAsg (mFrz (mLc (mZipDz 1 (mVar 7)) (gT 2 (gsC (gN 5) (gsC (gN 9) gsN))) mYes (mFrz (mLc (mItS (mVar 5)) (gN 8) mYes (mOp (dI CMulW fun i j => i * j) (mVar 8) (mVar 9)) [8])) [5, 9])) (gN 2))
      (mSeq (mAsg (mCB dSortD (mCons (mFrz (mListZip (mCons (mVar 2) (mCons (mFrz (mValsDz 1)) mNil)))) mNil)) (gN 3))
      (mRet (mFrz (mLc (mItS (mVar 3)) (gT 2 (gsC (gN 6) (gsC (gN 10) gsN))) mYes (mVar 10) [6, 10]))))))))
def b_law_is : DS := (mRet (mAndV (mIsi "bool" (mVar 0)) (mOp dEq (mVar 0) (mVar 1))))
def b_law_is_number : DS := (mRet (mAndV (mIsi "int" (mVar 0)) (mNotV (mIsi "bool" (mVar 0)))))
def b_law_divisor : DS := (mSeq (mAsg (mC (.int 0)) (gN 1))
      (mSeq (mFor (mItS (mVar 0)) (gN 2) (mSeq (mAsg (mCB dAbs (mCons (mVar 2) mNil)) (gN 3))
      (mSeq (mAsg (mVar 1) (gN 4))
      (mSeq (mWhile (mTest (mOp dNe (mVar 4) (mC (.int 0)))) (mPar 3 4 (mCons (mVar 4) (mCons (mOp (dI (fun _ j => j ≠ 0) fun i j => i.fmod j) (mCB dInt1 (mCons (mVar 3) mNil)) (mVar 4)) mNil))))
      (mAsg (mVar 3) (gN 1))))))
      (mRet (mVar 1))))
def b_law_lowest : DS := (mSeq (mAsg (mFrz (mLst (mCons (mVar 0) mNil))) (gN 2))
      (mSeq (mFor (mItS (mVar 1)) (gN 3) (mAsg (mOp dAdd (mVar 2) (mVar 3)) (gN 2)))
      (mSeq (mAsg (mCall0 fGcd (mCons (mVar 2) mNil)) (gN 4))
      (mRet (mFrz (mLst (mCons (mOp (dI CDivG fun i j => i.fdiv j) (mVar 0) (mVar 4)) (mCons (mFrz (mLc (mItS (mVar 1)) (gN 3) mYes (mFrz (mLc (mItS (mVar 3)) (gN 5) mYes (mOp (dI CDivG fun i j => i.fdiv j) (mVar 5) (mVar 4)) [5])) [3])) mNil))))))))
def b_law_row : DS := (mSeq (mAsgO (mLst mNil) 3)
      (mSeq (mAsg (mVar 1) (gN 4))
      (mSeq (mFor (mRng1 (mCons (mOp (dI0 fun i j => i - j) (mVar 2) (mC (.int 1))) mNil)) (gN 5) (mSeq (mAsg (mCall0 fTake (mCons (mVar 0) (mCons (mOp dAdd (mVar 4) (mC (.int 1))) mNil))) (gN 7))
      (mSeq (mApp 3 (mVar 7))
      (mAsg (mOp (dI0 fun i j => i - j) (mVar 4) (mVar 7)) (gN 4)))))
      (mSeq (mApp 3 (mVar 4))
      (mSeq (mAsg (mCall0 fTake (mCons (mVar 0) (mCons (mVar 2) mNil))) (gN 6))
      (mFreeze 3 (mRet (mOp dAdd (mSl (mVar 3) (mP (mVar 6)) mNoP) (mSl (mVar 3) mNoP (mP (mVar 6)))))))))))
def b_law_rows : DS := (mRet (mFrz (mLc (mRng1 (mCons (mVar 1) mNil)) (gN 4) mYes (mCall0 fLRow (mCons (mVar 0) (mCons (mVar 3) (mCons (mVar 2) mNil)))) [4])))
def b_law_table : DS := (mSeq (mAsg (mOp dAdd (mC (.int 1)) (mCall0 fTake (mCons (mVar 0) (mCons (mVar 3) mNil)))) (gN 4))
      (mRet (mFrz (mLst (mCons (mVar 4) (mCons (mCall0 fLRows (mCons (mVar 0) (mCons (mVar 1) (mCons (mOp dAdd (mC (.int 1)) (mCall0 fTake (mCons (mVar 0) (mCons (mVar 2) mNil)))) (mCons (mVar 4) mNil))))) mNil))))))
def b_law_prior : DS := (mSeq (mAsgO (mLc (mRng1 (mCons (mVar 1) mNil)) (gN 4) mYes (mCall0 fTake (mCons (mVar 0) (mCons (mOp dAdd (mVar 2) (mC (.int 1))) mNil))) [4]) 3)
      (mSeq (mIfS (mTmpT 3 (mTest (mOp dEq (mCB dSum (mCons (mVar 3) mNil)) (mC (.int 0))))) (mSetI 3 (mCall0 fTake (mCons (mVar 0) (mCons (mVar 1) mNil))) (mC (.int 1))) mNext)
      (mRetF (mVarO 3))))
def b_law_shows : DS := (mSeq (mAsg (mCall0 fLLow (mCons (mOp dIx (mVar 1) (mC (.int 0))) (mCons (mOp dIx (mVar 1) (mC (.int 1))) mNil))) (gT2 2 (gsC (gN 2) (gsC (gN 3) gsN))))
      (mRet (mAndV (mOp dEq (mFldT ctab "unit" (mVar 0)) (mVar 2)) (mOp dEq (mMethX "Experiment" "rows" fExpRows (mVar 0) mNil) (mVar 3)))))
def b_law_told : DS := (mTry tab (mRet (mCall fSplitE (mCons (mVar 0) (mCons (mVar 1) (mCons (mVar 2) mNil))))) [⟨"NoSignal", some 3, fun a cls d => (mRet (mFrz (mLst (mCons (mC (.str "signal")) (mCons (mXf "NoSignal" "signal" a cls d 3) mNil)))))⟩, ⟨"BadWeights", none, fun a cls d => (mRet (mFrz (mLst (mCons (mC (.str "weights")) (mCons (mC (.int 0)) mNil)))))⟩])
def b_law_due : DS := (mSeq (mIfS (mOr (mNot (mTest (mCall0 fIsInt (mCons (mVar 1) mNil)))) (mOr (mTest (mOp (dB0 fun i j => decide (i < j)) (mVar 1) (mC (.int 0)))) (mTest (mOp (dB0 fun i j => decide (j ≤ i)) (mVar 1) (mCB dLen (mCons (mOp dIx (mOp dIx (mVar 0) (mC (.int 1))) (mC (.int 0))) mNil)))))) (mRet (mFrz (mLst (mCons (mC (.str "signal")) (mCons (mVar 1) mNil))))) mNext)
      (mSeq (mFor (mItS (mVar 2)) (gN 3) (mIfS (mOr (mNot (mTest (mCall0 fIsInt (mCons (mVar 3) mNil)))) (mTest (mOp (dB0 fun i j => decide (i < j)) (mVar 3) (mC (.int 0))))) (mRet (mFrz (mLst (mCons (mC (.str "weights")) (mCons (mC (.int 0)) mNil))))) mNext))
      (mSeq (mAsg (mCB dSum (mCons (mVar 2) mNil)) (gN 4))
      (mSeq (mIfS (mTest (mOp dEq (mVar 4) (mC (.int 0)))) (mRet (mFrz (mLst (mCons (mC (.str "weights")) (mCons (mC (.int 0)) mNil))))) mNext)
      (mSeq (mAsgO (mLst mNil) 5)
      (mSeq (mFor (mItS (mOp dIx (mVar 0) (mC (.int 1)))) (gN 6) (mSeq (mAsg (mFrz (mLst mNil)) (gN 7))
      (mSeq (mFor (mRng1 (mCons (mCB dLen (mCons (mVar 6) mNil)) mNil)) (gN 8) (mAsg (mOp dAdd (mVar 7) (mFrz (mLc (mItS (mOp dIx (mFrz (mLst (mCons (mFrz (mLst (mCons (mVar 4) mNil))) (mCons (mVar 2) mNil)))) (mCB dInt1 (mCons (mOp dEq (mVar 8) (mVar 1)) mNil)))) (gN 3) mYes (mOp (dI CMulW fun i j => i * j) (mOp dIx (mVar 6) (mVar 8)) (mVar 3)) [3]))) (gN 7)))
      (mApp 5 (mVar 7)))))
      (mFreeze 5 (mRet (mFrz (mLst (mCons (mOp (dI CMulW fun i j => i * j) (mOp dIx (mVar 0) (mC (.int 0))) (mVar 4)) (mCons (mVar 5) mNil))))))))))))
def b_law_with_empty : DS := (mSeq (mAsg (mCall0 fTake (mCons (mVar 0) (mCons (mOp dAdd (mCB dLen (mCons (mOp dIx (mOp dIx (mVar 1) (mC (.int 1))) (mC (.int 0))) mNil)) (mC (.int 1))) mNil))) (gN 2))
      (mRet (mFrz (mLst (mCons (mOp dIx (mVar 1) (mC (.int 0))) (mCons (mFrz (mLc (mItS (mOp dIx (mVar 1) (mC (.int 1)))) (gN 3) mYes (mOp dAdd (mOp dAdd (mSl (mVar 3) mNoP (mP (mVar 2))) (mFrz (mLst (mCons (mC (.int 0)) mNil)))) (mSl (mVar 3) (mP (mVar 2)) mNoP)) [3])) mNil))))))
def b_law_splits_again : DS := (mSeq (mFor (mItS (mFrz (mLst (mCons (mTup (mCons (mC (.int 0)) (mCons (mFrz (mLst (mCons (mC (.int 1)) (mCons (mC (.int 1)) mNil)))) mNil))) (mCons (mTup (mCons (mOp (dI0 fun i j => i - j) (mCB dLen (mCons (mOp dIx (mOp dIx (mVar 1) (mC (.int 1))) (mC (.int 0))) mNil)) (mC (.int 1))) (mCons (mFrz (mLst (mCons (mC (.int 2)) (mCons (mC (.int 0)) (mCons (mC (.int 1)) mNil))))) mNil))) (mCons (mTup (mCons (mC (.int 0)) (mCons (mFrz (mLst (mCons (mC (.int 1)) (mCons (mC (.int 1)) mNil)))) mNil))) mNil)))))) (gT 2 (gsC (gN 2) (gsC (gN 3) gsN))) (mIfS (mNot (mTest (mCall0 fShows (mCons (mCall fSplitE (mCons (mVar 0) (mCons (mVar 2) (mCons (mVar 3) mNil)))) (mCons (mCall0 fDue74 (mCons (mVar 1) (mCons (mVar 2) (mCons (mVar 3) mNil)))) mNil))))) (mRet (mC (.bl false))) mNext))
      (mRet (mC (.bl true))))
def b_law_22 : DS := (mRet (mAndV (mCall0 fIsB (mCons (mCall fAlike (mCons (mVar 13) (mCons (mVar 8) mNil))) (mCons (mC (.bl true)) mNil))) (mOp (dEqX ctab "Experiment" fExpEqX) (mCall0 fWithout (mCons (mVar 13) mNil)) (mVar 13))))
def b_law_21 : DS := mSeq (mIfS (mNot (mTest (mCall0 fShows (mCons (mVar 13) (mCons (mFrz (mLst (mCons (mOp dIx (mVar 3) (mC (.int 0))) (mCons (mFrz (mLc (mItS (mOp dIx (mVar 3) (mC (.int 1)))) (gN 16) mYes (mFrz (mLc (mItS (mVar 12)) (gN 14) mYes (mOp dIx (mVar 16) (mVar 14)) [14])) [16])) mNil)))) mNil))))) (mRet (mC (.bl false))) mNext) b_law_22
def b_law_20 : DS := mSeq (mAsg (mCall0 fWithout (mCons (mVar 8) mNil)) (gN 13)) b_law_21
def b_law_19 : DS := mSeq (mAsg (mFrz (mLc (mRng1 (mCons (mCB dLen (mCons (mOp dIx (mOp dIx (mVar 3) (mC (.int 1))) (mC (.int 0))) mNil)) mNil)) (gN 14) (mTest (mOp (dB0 fun i j => decide (j < i)) (mCB dSum (mCons (mFrz (mLc (mItS (mOp dIx (mVar 3) (mC (.int 1)))) (gN 16) mYes (mOp dIx (mVar 16) (mVar 14)) [16])) mNil)) (mC (.int 0)))) (mVar 14) [14])) (gN 12)) b_law_20
def b_law_18 : DS := mSeq (mIfS (mTest (mIsi "str" (mOp dIx (mVar 9) (mC (.int 0))))) (mIfS (mTest (mOp dNe (mVar 10) (mVar 9))) (mRet (mC (.bl false))) mNext) (mIfS (mOr (mNot (mTest (mCall0 fShows (mCons (mVar 10) (mCons (mVar 9) mNil))))) (mNot (mTest (mCall0 fIsB (mCons (mCall fAlike (mCons (mVar 8) (mCons (mVar 10) mNil))) (mCons (mC (.bl true)) mNil)))))) (mRet (mC (.bl false))) mNext)) b_law_19
def b_law_17 : DS := mSeq (mIfS (mNot (mTest (mCall0 fAgain74 (mCons (mVar 8) (mCons (mVar 3) mNil))))) (mRet (mC (.bl false))) mNext) b_law_18
def b_law_16 : DS := mSeq (mIfS (mOr (mTest (mOp dNe (mVar 5) (mVar 7))) (mOr (mNot (mTest (mCall0 fShows (mCons (mVar 8) (mCons (mVar 3) mNil))))) (mNot (mTest (mOp (dOr2 dEq (dEqX ctab "Experiment" fExpEqX)) (mVar 10) (mVar 11)))))) (mRet (mC (.bl false))) mNext) b_law_17
def b_law_15 : DS := mSeq (mAsg (mCall0 fTold74 (mCons (mVar 8) (mCons (mVar 4) (mCons (mCB dTuple (mCons (mVar 5) mNil)) mNil)))) (gN 11)) b_law_16
def b_law_14 : DS := mSeq (mAsg (mCall0 fTold74 (mCons (mVar 8) (mCons (mVar 4) (mCons (mVar 5) mNil)))) (gN 10)) b_law_15
def b_law_13 : DS := mSeq (mAsg (mCall0 fDue74 (mCons (mVar 3) (mCons (mVar 4) (mCons (mVar 5) mNil)))) (gN 9)) b_law_14
def b_law_12 : DS := mSeq (mAsg (mMakeX "Experiment" fExpInit (mCons (mOp dIx (mVar 3) (mC (.int 0))) (mCons (mOp dIx (mVar 3) (mC (.int 1))) mNil))) (gN 8)) b_law_13
def b_law_11 : DS := mSeq (mFreeze 5 (mAsg (mCB dList (mCons (mVar 5) mNil)) (gN 7))) b_law_12
def b_law_10 : DS := mSeq (mIfS (mTest (mOp (dB0 fun i j => decide (j < i)) (mVar 2) (mC (.int 9)))) (mAsgO (mTmpO 5 (mLc (mItS (mVar 5)) (gN 15) mYes (mC (.int 0)) [15])) 5) mNext) b_law_11
def b_law_9 : DS := mSeq (mIfS (mTest (mOp (dB0 fun i j => decide (j < i)) (mVar 2) (mC (.int 7)))) (mAsg (mOp dIx (mFrz (mLst (mCons (mUn (dU fun i => -i) (mC (.int 1))) (mCons (mCB dLen (mCons (mOp dIx (mOp dIx (mVar 3) (mC (.int 1))) (mC (.int 0))) mNil)) (mCons (mC (.bl true)) (mCons (mC .non) mNil)))))) (mOp (dI0 fun i j => i - j) (mVar 2) (mC (.int 8)))) (gN 4)) mNext) b_law_10
def b_law_8 : DS := mSeq (mIfS (mTest (mOp dEq (mVar 2) (mC (.int 3)))) (mAsgO (mLst mNil) 5) mNext) b_law_9
def b_law_7 : DS := mSeq (mIfS (mOr (mTest (mOp dEq (mVar 2) (mC (.int 1)))) (mTest (mOp dEq (mVar 2) (mC (.int 2))))) (mSetI 5 (mVar 6) (mOp dIx (mFrz (mLst (mCons (mUn (dU fun i => -i) (mC (.int 1))) (mCons (mOp dIx (mFrz (mLst (mCons (mC (.bl true)) (mCons (mC .non) (mCons (mC (.str "1")) mNil))))) (mCall0 fTake (mCons (mVar 1) (mCons (mC (.int 3)) mNil)))) mNil)))) (mOp (dI0 fun i j => i - j) (mVar 2) (mC (.int 1))))) mNext) b_law_8
def b_law_6 : DS := mSeq (mIfS (mTest (mOp dEq (mVar 2) (mC (.int 0)))) (mAsgO (mTmpO 5 (mLc (mItS (mVar 5)) (gN 15) mYes (mC (.int 0)) [15])) 5) mNext) b_law_7
def b_law_5 : DS := mSeq (mAsg (mCall0 fTake (mCons (mVar 1) (mCons (mTmpE 5 (mCB dLen (mCons (mVar 5) mNil))) mNil))) (gN 6)) b_law_6
def b_law_4 : DS := mSeq (mAsgFO fLPrior (mCons (mVar 1) (mCons (mOp dAdd (mC (.int 1)) (mCall0 fTake (mCons (mVar 1) (mCons (mC (.int 4)) mNil)))) (mCons (mOp dIx (mFrz (mLst (mCons (mC (.int 3)) (mCons (mC (.int 1000)) mNil)))) (mCall0 fTake (mCons (mVar 1) (mCons (mC (.int 2)) mNil)))) mNil))) 5) b_law_5
def b_law_3 : DS := mSeq (mAsg (mCall0 fTake (mCons (mVar 1) (mCons (mCB dLen (mCons (mOp dIx (mOp dIx (mVar 3) (mC (.int 1))) (mC (.int 0))) mNil)) mNil))) (gN 4)) b_law_4
def b_law_2 : DS := mSeq (mIfS (mTest (mOp dEq (mCall0 fTake (mCons (mVar 1) (mCons (mC (.int 3)) mNil))) (mC (.int 0)))) (mAsg (mCall0 fWithE (mCons (mVar 1) (mCons (mVar 3) mNil))) (gN 3)) mNext) b_law_3
def b_law_1 : DS := mSeq (mAsg (mCall0 fLTable (mCons (mVar 1) (mCons (mOp dAdd (mC (.int 1)) (mCall0 fTake (mCons (mVar 1) (mCons (mC (.int 4)) mNil)))) (mCons (mC (.int 5)) (mCons (mC (.int 60)) mNil))))) (gN 3)) b_law_2
def b_law : DS := mSeq (mAsg (mCall0 fTake (mCons (mVar 1) (mCons (mC (.int 12)) mNil))) (gN 2)) b_law_1
theorem rp {α : Type} {a b : α} (h : a = b) : b = a := h.symm
theorem get_int {ns : List Int} {i : Nat} {d : D} (h : (ns.map D.int)[i]? = some d) : ∃ n, ns[i]? = some n ∧ d = .int n := by
  rw [List.getElem?_map] at h
  cases e : ns[i]? with
  | none => rw [e] at h; cases h
  | some n => rw [e] at h; exact ⟨n, rfl, (Option.some.inj h).symm⟩
theorem num_of {d : D} (h : isNum d = true) : d = .int (intOf d) := by cases d <;> simp_all [isNum, intOf]
theorem nums_of : ∀ {l : List D}, l.all isNum = true → l = (l.map intOf).map D.int
  | [], _ => rfl
  | d :: l, h => by
    rw [List.all_cons, Bool.and_eq_true] at h
    rw [List.map_cons, List.map_cons, ← nums_of h.2, ← num_of h.1]
theorem first_some {p : D → Bool} {l : List D} {i : Nat} {d : D} (h : ∀ (j : Nat) (x : D), j < i → l[j]? = some x → p x = true) (hd : l[i]? = some d) (hp : p d = false) : firstBad p l = some i := by
  unfold firstBad
  obtain ⟨hi, e⟩ := List.getElem?_eq_some_iff.mp hd
  rw [List.findIdx?_eq_some_iff_getElem]
  refine ⟨hi, by rw [e, hp]; rfl, fun j hj => ?_⟩
  rw [h j _ hj (List.getElem?_eq_getElem (by omega))]; simp
theorem first_none {p : D → Bool} {l : List D} (h : ∀ (j : Nat) (x : D), l[j]? = some x → p x = true) : firstBad p l = none := by
  unfold firstBad
  rw [List.findIdx?_eq_none_iff]
  intro x hx
  obtain ⟨j, hj⟩ := List.getElem?_of_mem hx
  rw [h j x hj]; rfl
/-- a comprehension without a test, item by item -/
theorem lcS {mi : DL} {tg : DG} {me : DE} {xe : XP} {ρ : Ro} {vs : List Nat} {c : Nat} {Q : List D → Nat → Prop} (l : List D) (f : D → D) (hi : ∀ P : List D → Nat → Prop, P l c → mi xe ρ c P) (hl : l.length ≤ 1000000)
    (h : ∀ d ∈ l, ∀ post : D → Nat → Prop, post (f d) c → tg d (wipeR ρ vs) fun ρ' => me xe ρ' c post) (hq : Q (l.map f) c) : mLc mi tg mYes me vs xe ρ c Q := hi _ (lc_map f hl h hq)
theorem isSeq {d : D} : (dIsi "list" d || dIsi "tuple" d) = (items d).isSome := by
  cases d <;> simp [dIsi, dIsN, tyName, items]
theorem dSeq_it {d : D} {l : List D} {A : List D → Prop} (h : items d = some l) (q : A l) : dSeq d A := by
  cases d <;> simp_all [items, dSeq]
theorem it_of {d : D} {l : List D} (h : d = .lst l ∨ d = .tup l) : items d = some l := by rcases h with rfl | rfl <;> rfl
theorem all_iff' {α : Type} {l : List α} {p : α → Bool} : l.all p = true ↔ ∀ x ∈ l, p x = true := List.all_eq_true
theorem all_iff {l : List D} {p : D → Bool} : l.all p = true ↔ ∀ x ∈ l, p x = true := List.all_eq_true
/-- isinstance with list and tuple, of what is plain -/
theorem isi2_plain {d : D} {ma : DE} {xe : XP} {ρ : Ro} {c : Nat} {Q : D → Nat → Prop} (hp : plain d) (hm : ∀ P : D → Nat → Prop, P d c → ma xe ρ c P) (q : Q (.bl (items d).isSome) c) : mIsi2 "list" "tuple" ma xe ρ c Q := by
  refine hm _ ?_
  rw [← isSeq] at q
  cases d <;> first | exact hp.elim | exact q
/-- a loop, by its invariant -/
theorem forS {mi : DL} {tg : DG} {body : DS} {xe : XP} {E : DEnds} {ρ : Ro} {c : Nat} (l : List D) (I : Nat → Ro → Nat → Prop) (hi : ∀ P : List D → Nat → Prop, P l c → mi xe ρ c P) (h0 : I 0 ρ c)
    (hs : ∀ i d ρ c, l[i]? = some d → I i ρ c → tg d ρ fun ρ' => body xe { E with nx := I (i + 1), ct := I (i + 1), bk := E.nx } ρ' c) (he : ∀ ρ c, I l.length ρ c → E.nx ρ c) : mFor mi tg body xe E ρ c := hi _ ⟨I, h0, hs, he⟩
theorem get_enum {l : List D} {i : Nat} {x : D} (h : (enumD l)[i]? = some x) : ∃ d, l[i]? = some d ∧ x = .tup [.int i, d] := by
  unfold enumD at h
  rw [List.getElem?_map, List.getElem?_zipIdx] at h
  cases q : l[i]? with
  | none => rw [q] at h; cases h
  | some d => rw [q] at h; exact ⟨d, rfl, by have := (Option.some.inj h).symm; simpa using this⟩
theorem enum_len (l : List D) : (enumD l).length = l.length := by simp [enumD]
theorem dLen_it {d : D} {l : List D} {Q : D → Prop} (h : items d = some l) (q : Q (.int l.length)) : dLen [d] Q := by
  cases d <;> simp_all [items, dLen]
theorem dSum_it {d : D} {l : List D} {Q : D → Prop} (h : items d = some l) (hn : l.all isNum = true) (q : Q (.int (sumD l))) : dSum [d] Q := by
  show dSeq d _
  exact dSeq_it h ⟨l.map intOf, nums_of hn, q⟩
theorem atI_nat {l : List D} {k : Nat} {x : D} (hk : l[k]? = some x) : atI l k = some x := by
  have hl : k < l.length := (List.getElem?_eq_some_iff.mp hk).1
  unfold atI ixN
  rw [if_pos (by omega), if_pos (by omega)]
  simpa using hk
theorem dIx_it {d : D} {l : List D} {k : Nat} {x : D} {Q : D → Prop} (h : items d = some l) (hk : l[k]? = some x) (q : Q x) : dIx d (.int k) Q := by
  cases d <;> simp_all [items, dIx, atI_nat hk]
theorem mem_of {l : List D} {i : Nat} {x : D} (h : l[i]? = some x) : x ∈ l := List.mem_of_getElem? h
theorem below_num {d : D} {n : Int} (h : belowB d n = true) : d = .int (intOf d) ∧ 0 ≤ intOf d ∧ intOf d < n := by
  unfold belowB at h
  simp only [Bool.and_eq_true, decide_eq_true_eq] at h
  exact ⟨num_of h.1, h.2.1, h.2.2⟩
theorem d_is_integer : ∀ ds c xe rt, fIsInt xe ds c rt → ds.length = 1 ∧ b_is_integer (fun _ _ _ => False) { nx := fun _ c' => rt .non c', rt := rt, rtN := rt } (ro0 ["value"] ds) c := by
  rintro _ c xe rt ⟨d, rfl, hp, h⟩
  refine ⟨rfl, ?_⟩
  cases d <;> simp [b_is_integer, mSeq, mAsg, mVar, mC, mOp, mUn, mNil, mCons, mTup, mLst, mFrz, mTest, mAnd, mOr, mNot, mIf, mAndV, mOrV, mNotV, mCB, mCall0, gN, gsN, gsC, gT, gT2, mSlV, mListRg, mListRg1, mNext, mRet, mRetN, mIfS, mDrop, mPar, mApp, mFreeze, mSetI, mItL, mItS, mRng1, mRng2, mIsi, mIsN, mNotN, dI, dI0, dB0, dU, dEq, dNe, dAdd, dIx, mIxO, dLen, dList, dTuple, mCBO, dListO, dMax2, dAbs, dInt1, dGcd, dLcm, mTmpT, mAsgO, mAsgF, mRetF, mSc, mVarO, mSpoil, mSpoilK, ro0, List.map_cons, List.map_nil, List.replicate, List.length_cons, List.length_nil, List.getElem?_cons_zero, List.getElem?_cons_succ, List.set_cons_zero, List.set_cons_succ, List.cons_append, List.nil_append, Nat.reduceAdd, Nat.reduceSub, dSeq_lst, dSeq_tup, mFldT, mIsiC, mOrE, mMethX, mGetX, mMakeX, mPropX, mNoX, mNoXT, mZip, mSl, mSlO, mP, mNoP, dMax, dMin, mIns, mPopS, mSetF, gF, mChain, dAll, dSum, mEnum, mRaise, mMkE, mMk0, mCall, dEqX, dOr2, mTmpE, mAsgFO, mAsgFr, mAsgT, mRetT, mTO, mLf, mLsT, mNilT, mConsT, mCallT, mCallTX, mMethT, mTmE, mTmT, mTmA, mTmAT, mFrzT, aRoot, aVar, aIx, mAsgA, mAppA, mSetA, mInsA, mAppF, mAsgFI, mRetV, mRetNV, mLastT, mCallMS, mCallDs, wOf, wNot, wOr, wCall, wIf, mTmO, mOwnT, endM, dIn, dInS, dSorted, mClrR, mAppR, mAppPop, mRetVT, dAddA, mSlT, dAny, mObF, mTmBE, mTmBT, mTmBO, mFrzB, mFrzF, mSetBD, mSetBT, mAppB, mSetIB, mBCall, mBCallA, mMakeB, mRepO, dMulA, mAsgF2, mVarFr, mTmpO, mSpoilF, dNotInS, mRng3, dNotInD, dInNX, mDcNew, mDcApp, mFreezeDc, mItDz, mZipDz, mValsDz, mListZip, mExt, dIsi, dIsN, tyName, plain, isNum] at hp h ⊢ <;> exact h
theorem d_is_number_below : ∀ ds c xe rt, fBelow xe ds c rt → ds.length = 2 ∧ b_is_number_below (fun _ _ _ => False) { nx := fun _ c' => rt .non c', rt := rt, rtN := rt } (ro0 ["value", "count"] ds) c := by
  rintro _ c xe rt ⟨d, n, rfl, hp, h⟩
  refine ⟨rfl, ?_⟩
  simp only [zDM, b_is_number_below, mDcNew, mDcApp, mFreezeDc, mItDz, mZipDz, mValsDz, mListZip, mExt]
  refine ⟨d, rfl, hp, ?_⟩
  cases q : isNum d with
  | false =>
    have e : belowB d n = false := by unfold belowB; rw [q]; rfl
    rw [e] at h; simpa using h
  | true =>
    have e := num_of q
    generalize intOf d = i at e
    subst e
    have e2 : belowB (.int i) n = (decide (0 ≤ i) && decide (i < n)) := rfl
    rw [e2] at h
    by_cases z : 0 ≤ i
    · simpa [mSeq, mAsg, mVar, mC, mOp, mUn, mNil, mCons, mTup, mLst, mFrz, mTest, mAnd, mOr, mNot, mIf, mAndV, mOrV, mNotV, mCB, mCall0, gN, gsN, gsC, gT, gT2, mSlV, mListRg, mListRg1, mNext, mRet, mRetN, mIfS, mDrop, mPar, mApp, mFreeze, mSetI, mItL, mItS, mRng1, mRng2, mIsi, mIsN, mNotN, dI, dI0, dB0, dU, dEq, dNe, dAdd, dIx, mIxO, dLen, dList, dTuple, mCBO, dListO, dMax2, dAbs, dInt1, dGcd, dLcm, mTmpT, mAsgO, mAsgF, mRetF, mSc, mVarO, mSpoil, mSpoilK, ro0, List.map_cons, List.map_nil, List.replicate, List.length_cons, List.length_nil, List.getElem?_cons_zero, List.getElem?_cons_succ, List.set_cons_zero, List.set_cons_succ, List.cons_append, List.nil_append, Nat.reduceAdd, Nat.reduceSub, dSeq_lst, dSeq_tup, mFldT, mIsiC, mOrE, mMethX, mGetX, mMakeX, mPropX, mNoX, mNoXT, mZip, mSl, mSlO, mP, mNoP, dMax, dMin, mIns, mPopS, mSetF, gF, mChain, dAll, dSum, mEnum, mRaise, mMkE, mMk0, mCall, dEqX, dOr2, mTmpE, mAsgFO, mAsgFr, mAsgT, mRetT, mTO, mLf, mLsT, mNilT, mConsT, mCallT, mCallTX, mMethT, mTmE, mTmT, mTmA, mTmAT, mFrzT, aRoot, aVar, aIx, mAsgA, mAppA, mSetA, mInsA, mAppF, mAsgFI, mRetV, mRetNV, mLastT, mCallMS, mCallDs, wOf, wNot, wOr, wCall, wIf, mTmO, mOwnT, endM, dIn, dInS, dSorted, mClrR, mAppR, mAppPop, mRetVT, dAddA, mSlT, dAny, mObF, mTmBE, mTmBT, mTmBO, mFrzB, mFrzF, mSetBD, mSetBT, mAppB, mSetIB, mBCall, mBCallA, mMakeB, mRepO, dMulA, mAsgF2, mVarFr, mTmpO, mSpoilF, dNotInS, mRng3, dNotInD, dInNX, mDcNew, mDcApp, mFreezeDc, mItDz, mZipDz, mValsDz, mListZip, mExt, z] using h
    · simpa [mSeq, mAsg, mVar, mC, mOp, mUn, mNil, mCons, mTup, mLst, mFrz, mTest, mAnd, mOr, mNot, mIf, mAndV, mOrV, mNotV, mCB, mCall0, gN, gsN, gsC, gT, gT2, mSlV, mListRg, mListRg1, mNext, mRet, mRetN, mIfS, mDrop, mPar, mApp, mFreeze, mSetI, mItL, mItS, mRng1, mRng2, mIsi, mIsN, mNotN, dI, dI0, dB0, dU, dEq, dNe, dAdd, dIx, mIxO, dLen, dList, dTuple, mCBO, dListO, dMax2, dAbs, dInt1, dGcd, dLcm, mTmpT, mAsgO, mAsgF, mRetF, mSc, mVarO, mSpoil, mSpoilK, ro0, List.map_cons, List.map_nil, List.replicate, List.length_cons, List.length_nil, List.getElem?_cons_zero, List.getElem?_cons_succ, List.set_cons_zero, List.set_cons_succ, List.cons_append, List.nil_append, Nat.reduceAdd, Nat.reduceSub, dSeq_lst, dSeq_tup, mFldT, mIsiC, mOrE, mMethX, mGetX, mMakeX, mPropX, mNoX, mNoXT, mZip, mSl, mSlO, mP, mNoP, dMax, dMin, mIns, mPopS, mSetF, gF, mChain, dAll, dSum, mEnum, mRaise, mMkE, mMk0, mCall, dEqX, dOr2, mTmpE, mAsgFO, mAsgFr, mAsgT, mRetT, mTO, mLf, mLsT, mNilT, mConsT, mCallT, mCallTX, mMethT, mTmE, mTmT, mTmA, mTmAT, mFrzT, aRoot, aVar, aIx, mAsgA, mAppA, mSetA, mInsA, mAppF, mAsgFI, mRetV, mRetNV, mLastT, mCallMS, mCallDs, wOf, wNot, wOr, wCall, wIf, mTmO, mOwnT, endM, dIn, dInS, dSorted, mClrR, mAppR, mAppPop, mRetVT, dAddA, mSlT, dAny, mObF, mTmBE, mTmBT, mTmBO, mFrzB, mFrzF, mSetBD, mSetBT, mAppB, mSetIB, mBCall, mBCallA, mMakeB, mRepO, dMulA, mAsgF2, mVarFr, mTmpO, mSpoilF, dNotInS, mRng3, dNotInD, dInNX, mDcNew, mDcApp, mFreezeDc, mItDz, mZipDz, mValsDz, mListZip, mExt, z] using h
theorem d_are_integers : ∀ ds c xe rt, fAreInts xe ds c rt → ds.length = 1 ∧ b_are_integers (fun _ _ _ => False) { nx := fun _ c' => rt .non c', rt := rt, rtN := rt } (ro0 ["values", "value"] ds) c := by
  rintro _ c xe rt ⟨d, rfl, hp, h⟩
  refine ⟨rfl, ?_⟩
  simp only [zDM, b_are_integers, mDcNew, mDcApp, mFreezeDc, mItDz, mZipDz, mValsDz, mListZip, mExt]
  refine isi2_plain hp.1 (fun P q => q) ?_
  cases hi : items d with
  | none =>
    have e : areInts d = false := by unfold areInts; rw [hi]
    rw [e] at h; exact h
  | some l =>
    obtain ⟨h1, h2⟩ := hp.2 l hi
    have e : areInts d = l.all isNum := by unfold areInts; rw [hi]
    rw [e] at h
    simp only [zDM, Option.isSome_some, if_true, mDcNew, mDcApp, mFreezeDc, mItDz, mZipDz, mValsDz, mListZip, mExt]
    refine lcS l (fun x => .bl (isNum x)) (fun P q => dSeq_it hi q) h1 (fun x hx post hq => ?_) ?_
    · simp only [zDM, mDcNew, mDcApp, mFreezeDc, mItDz, mZipDz, mValsDz, mListZip, mExt, wipeR]
      exact ⟨x, rfl, h2 x hx, hq⟩
    · refine ⟨l.map isNum, by rw [List.map_map]; rfl, ?_⟩
      rw [List.all_map]; exact h
theorem d_are_amounts : ∀ ds c xe rt, fAreAms xe ds c rt → ds.length = 1 ∧ b_are_amounts (fun _ _ _ => False) { nx := fun _ c' => rt .non c', rt := rt, rtN := rt } (ro0 ["values", "value"] ds) c := by
  rintro _ c xe rt ⟨d, rfl, hp, h⟩
  refine ⟨rfl, ?_⟩
  simp only [zDM, b_are_amounts, mDcNew, mDcApp, mFreezeDc, mItDz, mZipDz, mValsDz, mListZip, mExt]
  refine ⟨d, rfl, hp, ?_⟩
  cases hn : areInts d with
  | false =>
    have e : areAms d = false := by unfold areAms; rw [hn]; rfl
    rw [e] at h
    simpa using h
  | true =>
    cases hi : items d with
    | none => unfold areInts at hn; rw [hi] at hn; cases hn
    | some l =>
      obtain ⟨h1, h2⟩ := hp.2 l hi
      have e : areAms d = l.all fun x => decide (0 ≤ intOf x) := by unfold areAms; rw [hn, hi]; rfl
      rw [e] at h
      have hn2 : l.all isNum = true := by unfold areInts at hn; rw [hi] at hn; exact hn
      simp only [zDM, if_true, mDcNew, mDcApp, mFreezeDc, mItDz, mZipDz, mValsDz, mListZip, mExt]
      refine lcS l (fun x => .bl (decide (0 ≤ intOf x))) (fun P q => dSeq_it hi q) h1 (fun x hx post hq => ?_) ?_
      · simp only [zDM, mDcNew, mDcApp, mFreezeDc, mItDz, mZipDz, mValsDz, mListZip, mExt, wipeR]
        have := num_of (all_iff.mp hn2 x hx)
        generalize intOf x = i at *
        subst this
        exact hq
      · refine ⟨l.map fun x => decide (0 ≤ intOf x), by rw [List.map_map]; rfl, ?_⟩
        rw [List.all_map]; exact h
theorem d_check_states : ∀ ds c xe rt, fCheckStates xe ds c rt → ds.length = 1 ∧ b_check_states (fun e _ c' => xe e c') { nx := fun _ c' => rt .non c', rt := rt, rtN := rt } (ro0 ["states"] ds) c := by
  rintro _ c xe rt ⟨d, rfl, hp, h0, h1⟩
  refine ⟨rfl, ?_⟩
  simp only [zDM, b_check_states, mDcNew, mDcApp, mFreezeDc, mItDz, mZipDz, mValsDz, mListZip, mExt]
  refine ⟨d, rfl, hp, ?_⟩
  cases q : isNum d with
  | false =>
    have e : okStates d = false := by unfold okStates; rw [q]; rfl
    simpa [errV] using h0 e
  | true =>
    have e := num_of q
    generalize intOf d = i at e
    subst e
    have e2 : okStates (.int i) = (decide (1 ≤ i) && decide (i ≤ 4)) := rfl
    rw [e2] at h0 h1
    by_cases z : 1 ≤ i
    · by_cases z2 : i ≤ 4
      · simpa [mSeq, mAsg, mVar, mC, mOp, mUn, mNil, mCons, mTup, mLst, mFrz, mTest, mAnd, mOr, mNot, mIf, mAndV, mOrV, mNotV, mCB, mCall0, gN, gsN, gsC, gT, gT2, mSlV, mListRg, mListRg1, mNext, mRet, mRetN, mIfS, mDrop, mPar, mApp, mFreeze, mSetI, mItL, mItS, mRng1, mRng2, mIsi, mIsN, mNotN, dI, dI0, dB0, dU, dEq, dNe, dAdd, dIx, mIxO, dLen, dList, dTuple, mCBO, dListO, dMax2, dAbs, dInt1, dGcd, dLcm, mTmpT, mAsgO, mAsgF, mRetF, mSc, mVarO, mSpoil, mSpoilK, ro0, List.map_cons, List.map_nil, List.replicate, List.length_cons, List.length_nil, List.getElem?_cons_zero, List.getElem?_cons_succ, List.set_cons_zero, List.set_cons_succ, List.cons_append, List.nil_append, Nat.reduceAdd, Nat.reduceSub, dSeq_lst, dSeq_tup, mFldT, mIsiC, mOrE, mMethX, mGetX, mMakeX, mPropX, mNoX, mNoXT, mZip, mSl, mSlO, mP, mNoP, dMax, dMin, mIns, mPopS, mSetF, gF, mChain, dAll, dSum, mEnum, mRaise, mMkE, mMk0, mCall, dEqX, dOr2, mTmpE, mAsgFO, mAsgFr, mAsgT, mRetT, mTO, mLf, mLsT, mNilT, mConsT, mCallT, mCallTX, mMethT, mTmE, mTmT, mTmA, mTmAT, mFrzT, aRoot, aVar, aIx, mAsgA, mAppA, mSetA, mInsA, mAppF, mAsgFI, mRetV, mRetNV, mLastT, mCallMS, mCallDs, wOf, wNot, wOr, wCall, wIf, mTmO, mOwnT, endM, dIn, dInS, dSorted, mClrR, mAppR, mAppPop, mRetVT, dAddA, mSlT, dAny, mObF, mTmBE, mTmBT, mTmBO, mFrzB, mFrzF, mSetBD, mSetBT, mAppB, mSetIB, mBCall, mBCallA, mMakeB, mRepO, dMulA, mAsgF2, mVarFr, mTmpO, mSpoilF, dNotInS, mRng3, dNotInD, dInNX, mDcNew, mDcApp, mFreezeDc, mItDz, mZipDz, mValsDz, mListZip, mExt, z, z2] using h1 (by simp [z, z2])
      · simpa [mSeq, mAsg, mVar, mC, mOp, mUn, mNil, mCons, mTup, mLst, mFrz, mTest, mAnd, mOr, mNot, mIf, mAndV, mOrV, mNotV, mCB, mCall0, gN, gsN, gsC, gT, gT2, mSlV, mListRg, mListRg1, mNext, mRet, mRetN, mIfS, mDrop, mPar, mApp, mFreeze, mSetI, mItL, mItS, mRng1, mRng2, mIsi, mIsN, mNotN, dI, dI0, dB0, dU, dEq, dNe, dAdd, dIx, mIxO, dLen, dList, dTuple, mCBO, dListO, dMax2, dAbs, dInt1, dGcd, dLcm, mTmpT, mAsgO, mAsgF, mRetF, mSc, mVarO, mSpoil, mSpoilK, ro0, List.map_cons, List.map_nil, List.replicate, List.length_cons, List.length_nil, List.getElem?_cons_zero, List.getElem?_cons_succ, List.set_cons_zero, List.set_cons_succ, List.cons_append, List.nil_append, Nat.reduceAdd, Nat.reduceSub, dSeq_lst, dSeq_tup, mFldT, mIsiC, mOrE, mMethX, mGetX, mMakeX, mPropX, mNoX, mNoXT, mZip, mSl, mSlO, mP, mNoP, dMax, dMin, mIns, mPopS, mSetF, gF, mChain, dAll, dSum, mEnum, mRaise, mMkE, mMk0, mCall, dEqX, dOr2, mTmpE, mAsgFO, mAsgFr, mAsgT, mRetT, mTO, mLf, mLsT, mNilT, mConsT, mCallT, mCallTX, mMethT, mTmE, mTmT, mTmA, mTmAT, mFrzT, aRoot, aVar, aIx, mAsgA, mAppA, mSetA, mInsA, mAppF, mAsgFI, mRetV, mRetNV, mLastT, mCallMS, mCallDs, wOf, wNot, wOr, wCall, wIf, mTmO, mOwnT, endM, dIn, dInS, dSorted, mClrR, mAppR, mAppPop, mRetVT, dAddA, mSlT, dAny, mObF, mTmBE, mTmBT, mTmBO, mFrzB, mFrzF, mSetBD, mSetBT, mAppB, mSetIB, mBCall, mBCallA, mMakeB, mRepO, dMulA, mAsgF2, mVarFr, mTmpO, mSpoilF, dNotInS, mRng3, dNotInD, dInNX, mDcNew, mDcApp, mFreezeDc, mItDz, mZipDz, mValsDz, mListZip, mExt, z, z2, errV] using h0 (by simp [z2])
    · simpa [mSeq, mAsg, mVar, mC, mOp, mUn, mNil, mCons, mTup, mLst, mFrz, mTest, mAnd, mOr, mNot, mIf, mAndV, mOrV, mNotV, mCB, mCall0, gN, gsN, gsC, gT, gT2, mSlV, mListRg, mListRg1, mNext, mRet, mRetN, mIfS, mDrop, mPar, mApp, mFreeze, mSetI, mItL, mItS, mRng1, mRng2, mIsi, mIsN, mNotN, dI, dI0, dB0, dU, dEq, dNe, dAdd, dIx, mIxO, dLen, dList, dTuple, mCBO, dListO, dMax2, dAbs, dInt1, dGcd, dLcm, mTmpT, mAsgO, mAsgF, mRetF, mSc, mVarO, mSpoil, mSpoilK, ro0, List.map_cons, List.map_nil, List.replicate, List.length_cons, List.length_nil, List.getElem?_cons_zero, List.getElem?_cons_succ, List.set_cons_zero, List.set_cons_succ, List.cons_append, List.nil_append, Nat.reduceAdd, Nat.reduceSub, dSeq_lst, dSeq_tup, mFldT, mIsiC, mOrE, mMethX, mGetX, mMakeX, mPropX, mNoX, mNoXT, mZip, mSl, mSlO, mP, mNoP, dMax, dMin, mIns, mPopS, mSetF, gF, mChain, dAll, dSum, mEnum, mRaise, mMkE, mMk0, mCall, dEqX, dOr2, mTmpE, mAsgFO, mAsgFr, mAsgT, mRetT, mTO, mLf, mLsT, mNilT, mConsT, mCallT, mCallTX, mMethT, mTmE, mTmT, mTmA, mTmAT, mFrzT, aRoot, aVar, aIx, mAsgA, mAppA, mSetA, mInsA, mAppF, mAsgFI, mRetV, mRetNV, mLastT, mCallMS, mCallDs, wOf, wNot, wOr, wCall, wIf, mTmO, mOwnT, endM, dIn, dInS, dSorted, mClrR, mAppR, mAppPop, mRetVT, dAddA, mSlT, dAny, mObF, mTmBE, mTmBT, mTmBO, mFrzB, mFrzF, mSetBD, mSetBT, mAppB, mSetIB, mBCall, mBCallA, mMakeB, mRepO, dMulA, mAsgF2, mVarFr, mTmpO, mSpoilF, dNotInS, mRng3, dNotInD, dInNX, mDcNew, mDcApp, mFreezeDc, mItDz, mZipDz, mValsDz, mListZip, mExt, z, errV] using h0 (by simp [z])
theorem d_check_unit : ∀ ds c xe rt, fCheckUnit xe ds c rt → ds.length = 1 ∧ b_check_unit (fun e _ c' => xe e c') { nx := fun _ c' => rt .non c', rt := rt, rtN := rt } (ro0 ["unit"] ds) c := by
  rintro _ c xe rt ⟨d, rfl, hp, h0, h1⟩
  refine ⟨rfl, ?_⟩
  simp only [zDM, b_check_unit, mDcNew, mDcApp, mFreezeDc, mItDz, mZipDz, mValsDz, mListZip, mExt]
  refine ⟨d, rfl, hp, ?_⟩
  cases q : isNum d with
  | false =>
    have e : okUnit d = false := by unfold okUnit; rw [q]; rfl
    simpa [errV] using h0 e
  | true =>
    have e := num_of q
    generalize intOf d = i at e
    subst e
    have e2 : okUnit (.int i) = decide (1 ≤ i) := rfl
    rw [e2] at h0 h1
    by_cases z : 1 ≤ i
    · have z2 : ¬ i < 1 := by omega
      simpa [mSeq, mAsg, mVar, mC, mOp, mUn, mNil, mCons, mTup, mLst, mFrz, mTest, mAnd, mOr, mNot, mIf, mAndV, mOrV, mNotV, mCB, mCall0, gN, gsN, gsC, gT, gT2, mSlV, mListRg, mListRg1, mNext, mRet, mRetN, mIfS, mDrop, mPar, mApp, mFreeze, mSetI, mItL, mItS, mRng1, mRng2, mIsi, mIsN, mNotN, dI, dI0, dB0, dU, dEq, dNe, dAdd, dIx, mIxO, dLen, dList, dTuple, mCBO, dListO, dMax2, dAbs, dInt1, dGcd, dLcm, mTmpT, mAsgO, mAsgF, mRetF, mSc, mVarO, mSpoil, mSpoilK, ro0, List.map_cons, List.map_nil, List.replicate, List.length_cons, List.length_nil, List.getElem?_cons_zero, List.getElem?_cons_succ, List.set_cons_zero, List.set_cons_succ, List.cons_append, List.nil_append, Nat.reduceAdd, Nat.reduceSub, dSeq_lst, dSeq_tup, mFldT, mIsiC, mOrE, mMethX, mGetX, mMakeX, mPropX, mNoX, mNoXT, mZip, mSl, mSlO, mP, mNoP, dMax, dMin, mIns, mPopS, mSetF, gF, mChain, dAll, dSum, mEnum, mRaise, mMkE, mMk0, mCall, dEqX, dOr2, mTmpE, mAsgFO, mAsgFr, mAsgT, mRetT, mTO, mLf, mLsT, mNilT, mConsT, mCallT, mCallTX, mMethT, mTmE, mTmT, mTmA, mTmAT, mFrzT, aRoot, aVar, aIx, mAsgA, mAppA, mSetA, mInsA, mAppF, mAsgFI, mRetV, mRetNV, mLastT, mCallMS, mCallDs, wOf, wNot, wOr, wCall, wIf, mTmO, mOwnT, endM, dIn, dInS, dSorted, mClrR, mAppR, mAppPop, mRetVT, dAddA, mSlT, dAny, mObF, mTmBE, mTmBT, mTmBO, mFrzB, mFrzF, mSetBD, mSetBT, mAppB, mSetIB, mBCall, mBCallA, mMakeB, mRepO, dMulA, mAsgF2, mVarFr, mTmpO, mSpoilF, dNotInS, mRng3, dNotInD, dInNX, mDcNew, mDcApp, mFreezeDc, mItDz, mZipDz, mValsDz, mListZip, mExt, z2] using h1 (by simp [z])
    · have z2 : i < 1 := by omega
      simpa [mSeq, mAsg, mVar, mC, mOp, mUn, mNil, mCons, mTup, mLst, mFrz, mTest, mAnd, mOr, mNot, mIf, mAndV, mOrV, mNotV, mCB, mCall0, gN, gsN, gsC, gT, gT2, mSlV, mListRg, mListRg1, mNext, mRet, mRetN, mIfS, mDrop, mPar, mApp, mFreeze, mSetI, mItL, mItS, mRng1, mRng2, mIsi, mIsN, mNotN, dI, dI0, dB0, dU, dEq, dNe, dAdd, dIx, mIxO, dLen, dList, dTuple, mCBO, dListO, dMax2, dAbs, dInt1, dGcd, dLcm, mTmpT, mAsgO, mAsgF, mRetF, mSc, mVarO, mSpoil, mSpoilK, ro0, List.map_cons, List.map_nil, List.replicate, List.length_cons, List.length_nil, List.getElem?_cons_zero, List.getElem?_cons_succ, List.set_cons_zero, List.set_cons_succ, List.cons_append, List.nil_append, Nat.reduceAdd, Nat.reduceSub, dSeq_lst, dSeq_tup, mFldT, mIsiC, mOrE, mMethX, mGetX, mMakeX, mPropX, mNoX, mNoXT, mZip, mSl, mSlO, mP, mNoP, dMax, dMin, mIns, mPopS, mSetF, gF, mChain, dAll, dSum, mEnum, mRaise, mMkE, mMk0, mCall, dEqX, dOr2, mTmpE, mAsgFO, mAsgFr, mAsgT, mRetT, mTO, mLf, mLsT, mNilT, mConsT, mCallT, mCallTX, mMethT, mTmE, mTmT, mTmA, mTmAT, mFrzT, aRoot, aVar, aIx, mAsgA, mAppA, mSetA, mInsA, mAppF, mAsgFI, mRetV, mRetNV, mLastT, mCallMS, mCallDs, wOf, wNot, wOr, wCall, wIf, mTmO, mOwnT, endM, dIn, dInS, dSorted, mClrR, mAppR, mAppPop, mRetVT, dAddA, mSlT, dAny, mObF, mTmBE, mTmBT, mTmBO, mFrzB, mFrzF, mSetBD, mSetBT, mAppB, mSetIB, mBCall, mBCallA, mMakeB, mRepO, dMulA, mAsgF2, mVarFr, mTmpO, mSpoilF, dNotInS, mRng3, dNotInD, dInNX, mDcNew, mDcApp, mFreezeDc, mItDz, mZipDz, mValsDz, mListZip, mExt, z2, errV] using h0 (by simp [z])
theorem ams_it {d : D} (h : areAms d = true) : ∃ l, items d = some l ∧ l.all isNum = true ∧ l.all (fun x => decide (0 ≤ intOf x)) = true := by
  unfold areAms at h
  rw [Bool.and_eq_true] at h
  obtain ⟨h1, h2⟩ := h
  unfold areInts at h1
  cases q : items d with
  | none => rw [q] at h1; cases h1
  | some l => rw [q] at h1 h2; exact ⟨l, rfl, h1, h2⟩
theorem d_check_rows : ∀ ds c xe rt, fCheckRows xe ds c rt → ds.length = 2 ∧ b_check_rows (fun e _ c' => xe e c') { nx := fun _ c' => rt .non c', rt := rt, rtN := rt } (ro0 ["unit", "rows", "index", "row"] ds) c := by
  rintro _ c xe rt ⟨u, d, rs, rfl, hd, hp, h0, h1⟩
  refine ⟨rfl, ?_⟩
  have hit := it_of hd
  simp only [zDL, b_check_rows, mDcNew, mDcApp, mFreezeDc, mItDz, mZipDz, mValsDz, mListZip, mExt]
  refine forS (enumD rs) (fun i ρ c' => c' = c ∧ (∀ (j : Nat) (x : D), j < i → rs[j]? = some x → rowOk u (lenD (rs.headD .non)) x = true) ∧ ∃ s2 s3, ρ = [.sh (.int u), .sh d, s2, s3]) (fun P q => dSeq_of hd q) ⟨rfl, fun j x hj => absurd hj (Nat.not_lt_zero _), _, _, rfl⟩ ?_ ?_
  · rintro i x ρ c' hx ⟨rfl, hj, s2, s3, rfl⟩
    obtain ⟨r, hr, rfl⟩ := get_enum hx
    have hpr := hp r (mem_of hr)
    simp only [zDL, mDcNew, mDcApp, mFreezeDc, mItDz, mZipDz, mValsDz, mListZip, mExt]
    have bad : rowOk u (lenD (rs.headD .non)) r = false → xe (errV "BadRow" "index" (.int i)) c' := fun z => h0 i (first_some hj hr z)
    refine ⟨trivial, r, rfl, hpr, ?_⟩
    cases ha : areAms r with
    | false => simpa [errV] using bad (by unfold rowOk; rw [ha]; rfl)
    | true =>
      obtain ⟨l, hl, hn, _⟩ := ams_it ha
      have hrow : rowOk u (lenD (rs.headD .non)) r = (l.length == lenD (rs.headD .non) && sumD l == u) := by unfold rowOk; rw [ha, hl]; rfl
      -- row 0
      obtain ⟨r0, hr0⟩ : ∃ r0, rs[0]? = some r0 := by
        have : i < rs.length := (List.getElem?_eq_some_iff.mp hr).1
        exact ⟨rs[0], List.getElem?_eq_getElem (by omega)⟩
      have hh : rs.headD .non = r0 := by cases rs with | nil => cases hr0 | cons a b => simpa using hr0
      have ⟨l0, hl0⟩ : ∃ l0, items r0 = some l0 := by
        by_cases z : i = 0
        · subst z; rw [hr] at hr0; cases hr0; exact ⟨l, hl⟩
        · have q := hj 0 r0 (by omega) hr0
          have a0 : areAms r0 = true := by
            unfold rowOk at q; rw [Bool.and_eq_true] at q; exact q.1
          obtain ⟨l0, e, _⟩ := ams_it a0
          exact ⟨l0, e⟩
      have hn0 : lenD (rs.headD .non) = l0.length := by rw [hh]; unfold lenD; rw [hl0]
      rw [hn0] at hrow bad hj
      simp only [zDL, Bool.not_true, Bool.false_eq_true, if_false, mDcNew, mDcApp, mFreezeDc, mItDz, mZipDz, mValsDz, mListZip, mExt]
      refine dLen_it hl ?_
      refine dIx_it (k := 0) hit hr0 ?_
      refine dLen_it hl0 ?_
      simp only [ok_int, eqv_int, and_self, true_and]
      by_cases z1 : l.length = l0.length
      · have e1 : (((l.length : Nat) : Int) == ((l0.length : Nat) : Int)) = true := by rw [z1]; simp
        rw [e1]
        simp only [Bool.not_true, Bool.false_eq_true, if_false]
        refine dSum_it hl hn ?_
        simp only [ok_int, eqv_int, and_self, true_and]
        by_cases z2 : sumD l = u
        · have e2 : (sumD l == u) = true := by rw [z2]; simp
          rw [e2]
          simp only [Bool.not_true, Bool.false_eq_true, if_false]
          refine ⟨fun j y hjy hy => ?_, _, _, rfl⟩
          rw [hn0]
          by_cases z : j = i
          · subst z; rw [hr] at hy; cases hy; rw [hrow, z1, e2]; simp
          · exact hj j y (by omega) hy
        · have e2 : (sumD l == u) = false := by simpa using z2
          rw [e2]
          simpa [errV] using bad (by rw [hrow, e2]; simp)
      · have e1 : (((l.length : Nat) : Int) == ((l0.length : Nat) : Int)) = false := by simp; omega
        rw [e1]
        simpa [errV] using bad (by rw [hrow]; simp [z1])
  · rintro ρ c' ⟨rfl, hj, s2, s3, rfl⟩
    rw [enum_len] at hj
    exact h1 (first_none fun j x hx => hj j x (List.getElem?_eq_some_iff.mp hx).1 hx)
theorem gcdF_le : ∀ (ns : List Int) (g : Nat), 0 < g → 0 < gcdF g ns ∧ gcdF g ns ≤ g
  | [], g, h => ⟨h, Nat.le_refl _⟩
  | n :: ns, g, h => by
    have h1 : 0 < Nat.gcd g n.natAbs := Nat.gcd_pos_of_pos_left _ h
    have h2 := Nat.gcd_le_left n.natAbs h
    obtain ⟨a, b⟩ := gcdF_le ns (Nat.gcd g n.natAbs) h1
    exact ⟨a, Nat.le_trans b h2⟩
theorem gcdR_le' : ∀ (rows : List (List Int)) (g : Nat), 0 < g → 0 < rows.foldl gcdF g ∧ rows.foldl gcdF g ≤ g
  | [], g, h => ⟨h, Nat.le_refl _⟩
  | r :: rows, g, h => by
    obtain ⟨a, b⟩ := gcdF_le r g h
    obtain ⟨a', b'⟩ := gcdR_le' rows (gcdF g r) a
    exact ⟨a', Nat.le_trans b' b⟩
theorem gcdR_le {u : Int} (hu : 1 ≤ u) (rows : List (List Int)) : 0 < gcdR u rows ∧ gcdR u rows ≤ u.natAbs := gcdR_le' rows _ (by omega)
theorem divOk {u : Int} (hu : 1 ≤ u) (hs : Sm 8000 u) (rows : List (List Int)) (y : Int) : CDivG y (gcdR u rows) := by
  obtain ⟨a, b⟩ := gcdR_le hu rows
  refine ⟨by omega, log2_of_lt (k := 9000) ?_ (by decide)⟩
  rw [Int.natAbs_natCast]
  exact Nat.lt_of_le_of_lt b (Nat.lt_of_lt_of_le hs (Nat.pow_le_pow_right (by decide) (by decide)))
theorem isRow_it {d : D} {r : List Int} (h : isRow d r) : items d = some (r.map .int) := it_of h
theorem rowOf_is {d : D} {r : List Int} (h : isRow d r) : rowOf d = r := by
  unfold rowOf
  rw [isRow_it h]
  simp only [List.map_map]
  have : (intOf ∘ D.int) = id := rfl
  rw [this, List.map_id]
theorem areRows_map {rs : List D} {rows : List (List Int)} (h : areRows rs rows) : rs.map rowOf = rows := by
  apply List.ext_getElem?
  intro i
  rw [List.getElem?_map]
  obtain ⟨hl, h⟩ := h
  by_cases q : i < rs.length
  · rw [List.getElem?_eq_getElem q, List.getElem?_eq_getElem (by omega)]
    show some (rowOf rs[i]) = _
    rw [rowOf_is (h i _ _ (List.getElem?_eq_getElem q) (List.getElem?_eq_getElem (by omega)))]
  · rw [List.getElem?_eq_none (by omega), List.getElem?_eq_none (by omega)]; rfl
theorem areRows_mem {rs : List D} {rows : List (List Int)} (h : areRows rs rows) {d : D} (hd : d ∈ rs) : isRow d (rowOf d) ∧ rowOf d ∈ rows := by
  obtain ⟨i, hi⟩ := List.getElem?_of_mem hd
  have q : i < rs.length := (List.getElem?_eq_some_iff.mp hi).1
  have e := h.2 i d _ hi (List.getElem?_eq_getElem (by rw [← h.1]; exact q))
  have e2 := rowOf_is e
  rw [e2]
  exact ⟨e, List.getElem_mem _⟩
theorem areRows_lst (rows : List (List Int)) : areRows (rowsD rows) rows := by
  refine ⟨by simp [rowsD], fun i d r h1 h2 => ?_⟩
  unfold rowsD at h1
  rw [List.getElem?_map, h2] at h1
  exact .inl (Option.some.inj h1).symm
theorem gcdF_succ {g : Nat} {ns : List Int} {i : Nat} {n : Int} (h : ns[i]? = some n) : gcdF g (ns.take (i + 1)) = Nat.gcd (gcdF g (ns.take i)) n.natAbs := by
  unfold gcdF
  rw [List.take_add_one, h, List.foldl_append]; rfl
theorem rowsF_succ {g : Nat} {rows : List (List Int)} {i : Nat} {r : List Int} (h : rows[i]? = some r) : (rows.take (i + 1)).foldl gcdF g = gcdF ((rows.take i).foldl gcdF g) r := by
  rw [List.take_add_one, h, List.foldl_append]; rfl
theorem firstBad_all {p : D → Bool} {l : List D} (h : firstBad p l = none) : ∀ x ∈ l, p x = true := fun x hx => by
  unfold firstBad at h
  rw [List.findIdx?_eq_none_iff] at h
  simpa using h x hx
theorem d_lowest_rows : ∀ ds c xe rt, fLowestRows xe ds c rt → ds.length = 2 ∧ b_lowest_rows (fun _ _ _ => False) { nx := fun _ c' => rt .non c', rt := rt, rtN := rt } (ro0 ["unit", "rows", "divisor", "row", "kept", "number"] ds) c := by
  rintro _ c xe rt ⟨u, d, rs, rows, rfl, hd, hr, ⟨hu, hs⟩, hl1, hl2, h⟩
  refine ⟨rfl, ?_⟩
  have hit := it_of hd
  have hm := areRows_map hr
  simp only [zDL, b_lowest_rows, mDcNew, mDcApp, mFreezeDc, mItDz, mZipDz, mValsDz, mListZip, mExt]
  refine forS rs (fun i ρ c' => c' = c ∧ ∃ s3 s5, ρ = [.sh (.int u), .sh d, .sh (.int ((rows.take i).foldl gcdF u.natAbs : Nat)), s3, .no, s5]) (fun P q => dSeq_of hd q) ⟨rfl, .no, .no, by rw [List.take_zero]; show _ = [S.sh (.int u), S.sh d, S.sh (.int ((u.natAbs : Nat) : Int)), S.no, S.no, S.no]; rw [show ((u.natAbs : Nat) : Int) = u by omega]⟩ ?_ ?_
  · rintro i x ρ c' hx ⟨rfl, s3, s5, rfl⟩
    obtain ⟨hx1, hx2⟩ := areRows_mem hr (mem_of hx)
    have hxr : rows[i]? = some (rowOf x) := by rw [← hm, List.getElem?_map, hx]; rfl
    simp only [zDL, mDcNew, mDcApp, mFreezeDc, mItDz, mZipDz, mValsDz, mListZip, mExt]
    refine forS ((rowOf x).map .int) (fun k ρ c'' => c'' = c' ∧ ∃ s5, ρ = [.sh (.int u), .sh d, .sh (.int (gcdF ((rows.take i).foldl gcdF u.natAbs) ((rowOf x).take k) : Nat)), .sh x, .no, s5]) (fun P q => dSeq_it (isRow_it hx1) q) ⟨rfl, _, rfl⟩ ?_ ?_
    · rintro k y ρ c'' hy ⟨rfl, s5, rfl⟩
      obtain ⟨n, hn, rfl⟩ := get_int hy
      simp only [zDL, mDcNew, mDcApp, mFreezeDc, mItDz, mZipDz, mValsDz, mListZip, mExt]
      refine ⟨trivial, .sh (.int n), ?_⟩
      rw [gcdF_succ hn, Int.natAbs_natCast]
    · rintro ρ c'' ⟨rfl, s5, rfl⟩
      refine ⟨rfl, .sh x, s5, ?_⟩
      rw [rowsF_succ hxr, List.length_map, List.take_length]
  · rintro ρ c' ⟨rfl, s3, s5, rfl⟩
    have e : (rows.take rs.length).foldl gcdF u.natAbs = gcdR u rows := by rw [hr.1, List.take_length]; rfl
    rw [e]
    simp only [zDL, mDcNew, mDcApp, mFreezeDc, mItDz, mZipDz, mValsDz, mListZip, mExt]
    refine lcS rs (fun x => .tup ((rowOf x).map fun n => .int (n.fdiv (gcdR u rows)))) (fun P q => dSeq_of hd q) (by rw [hr.1]; omega) (fun x hx post hq => ?_) ?_
    · obtain ⟨hx1, hx2⟩ := areRows_mem hr hx
      simp only [zDL, mDcNew, mDcApp, mFreezeDc, mItDz, mZipDz, mValsDz, mListZip, mExt, wipeR]
      refine lcS ((rowOf x).map .int) (fun y => .int ((intOf y).fdiv (gcdR u rows))) (fun P q => dSeq_it (isRow_it hx1) q) (by rw [List.length_map]; exact hl2 _ hx2) (fun y hy post hq => ?_) ?_
      · obtain ⟨n, _, rfl⟩ := List.mem_map.mp hy
        simp only [zDL, mDcNew, mDcApp, mFreezeDc, mItDz, mZipDz, mValsDz, mListZip, mExt, wipeR]
        exact ⟨divOk hu hs rows n, hq⟩
      · simp only [dTuple, List.map_map]
        exact hq
    · simp only [zDL, mDcNew, mDcApp, mFreezeDc, mItDz, mZipDz, mValsDz, mListZip, mExt, dTuple]
      refine ⟨divOk hu hs rows u, by decide, ?_⟩
      have e2 : rs.map (fun x => D.tup ((rowOf x).map fun n => .int (n.fdiv (gcdR u rows)))) = rowsT (divR (gcdR u rows) rows) := by
        unfold rowsT divR
        rw [← hm, List.map_map, List.map_map]
        apply List.map_congr_left
        intro x _
        simp
      rw [e2]; exact h
theorem rng_mem {n : Nat} {x : D} (h : x ∈ rng 0 n) : ∃ i : Nat, i < n ∧ x = .int i := by
  unfold rng at h
  obtain ⟨i, hi, rfl⟩ := List.mem_map.mp h
  exact ⟨i, by simpa using hi, by simp⟩
theorem rng_len (lo : Int) (n : Nat) : (rng lo n).length = n := by simp [rng]
theorem rng_get {n i : Nat} {d : D} (h : (rng 0 n)[i]? = some d) : i < n ∧ d = .int i := by
  unfold rng at h
  have hi : i < n := by
    have := (List.getElem?_eq_some_iff.mp h).1
    simpa using this
  rw [List.getElem?_map] at h
  refine ⟨hi, ?_⟩
  rw [List.getElem?_eq_getElem (by simpa using hi)] at h
  simpa using h.symm
theorem below_lt {i n : Nat} (h : i < n) : belowB (.int i) n = true := by
  show (true && (decide ((0 : Int) ≤ i) && decide ((i : Int) < n))) = true
  rw [decide_eq_true (by omega), decide_eq_true (by omega)]; rfl
theorem rowOk_is {u : Int} {n : Nat} {d : D} (h : rowOk u n d = true) : isRow d (rowOf d) ∧ (rowOf d).length = n ∧ (rowOf d).sum = u ∧ (∀ x ∈ rowOf d, 0 ≤ x) ∧ lenD d = n := by
  unfold rowOk at h
  rw [Bool.and_eq_true] at h
  obtain ⟨h1, h2⟩ := h
  obtain ⟨l, hl, hn, h0⟩ := ams_it h1
  rw [hl] at h2
  simp only [Bool.and_eq_true, beq_iff_eq] at h2
  have e : rowOf d = l.map intOf := by unfold rowOf; rw [hl]
  have e2 := nums_of hn
  refine ⟨?_, by rw [e, List.length_map]; exact h2.1, by rw [e]; exact h2.2, fun x hx => ?_, by unfold lenD; rw [hl]; exact h2.1⟩
  · unfold isRow
    rw [e, ← e2]
    clear e e2 h0 hn h2 h1
    cases d <;> simp_all [items]
  · rw [e] at hx
    obtain ⟨y, hy, rfl⟩ := List.mem_map.mp hx
    simpa using all_iff.mp h0 y hy
theorem rows_is {u : Int} {rs : List D} (h : badRow u rs = none) : areRows rs (rs.map rowOf) := by
  refine ⟨by simp, fun i d r h1 h2 => ?_⟩
  rw [List.getElem?_map, h1] at h2
  have e : rowOf d = r := Option.some.inj h2
  rw [← e]
  exact (rowOk_is (firstBad_all h d (mem_of h1))).1
theorem plain2_len {d : D} (hp : plain2 d) : (rowOf d).length ≤ 1000000 := by
  unfold rowOf
  cases h : items d with
  | none => exact Nat.zero_le _
  | some l => show (l.map intOf).length ≤ 1000000; rw [List.length_map]; exact (hp.2 l h).1
theorem low2_len (u : Int) (rows : List (List Int)) : (low2 u rows).length = rows.length := by simp [low2, divR]
theorem low2_head (u : Int) (rows : List (List Int)) : ((low2 u rows).headD []).length = (rows.headD []).length := by cases rows <;> simp [low2, divR]
theorem putD_le (f : Str) (d : D) : ∀ l : List (Str × D), (putD f d l).length ≤ l.length + 1
  | [] => Nat.le_refl _
  | (g, x) :: r => by
    unfold putD
    split
    · exact Nat.le_succ _
    · exact Nat.succ_le_succ (putD_le f d r)
theorem put1 {f : Str} {d : D} : (putD f d []).length < 1000 := by have := putD_le f d []; simp at this; omega
theorem put2 {f g : Str} {d e : D} : (putD g e (putD f d [])).length < 1000 := by have := putD_le f d []; have := putD_le g e (putD f d []); simp at *; omega
theorem put3 {f g h : Str} {d e k : D} : (putD h k (putD g e (putD f d []))).length < 1000 := by have := putD_le f d []; have := putD_le g e (putD f d []); have := putD_le h k (putD g e (putD f d [])); simp at *; omega
theorem put4 {f1 f2 f3 f4 : Str} (d1 d2 d3 d4 : D) (h12 : f1 ≠ f2) (h13 : f1 ≠ f3) (h14 : f1 ≠ f4) (h23 : f2 ≠ f3) (h24 : f2 ≠ f4) (h34 : f3 ≠ f4) : putD f4 d4 (putD f3 d3 (putD f2 d2 (putD f1 d1 []))) = [(f1, d1), (f2, d2), (f3, d3), (f4, d4)] := by
  simp only [putD, if_neg h12, if_neg h13, if_neg h14, if_neg h23, if_neg h24, if_neg h34]
theorem d_Experiment___init : ∀ (x : Addr) ds c xe rt, fExpInit xe ds c rt → ds.length = 2 ∧ b_Experiment___init (fun e _ c' => xe e c') { nx := fun ρ c' => ∃ gs, ρ[0]? = some (.obj x "Experiment" gs) ∧ rt gs c', rt := fun _ _ => False } ((ro0 ["self", "unit", "rows"] (.non :: ds)).set 0 (.obj x "Experiment" [])) c := by
  rintro x _ c xe rt ⟨ud, d, rs, rfl, hd, hpu, hsu, hp, e0, e1, e2, h⟩
  refine ⟨rfl, ?_⟩
  have hit := it_of hd
  simp only [zDL, b_Experiment___init, mDcNew, mDcApp, mFreezeDc, mItDz, mZipDz, mValsDz, mListZip, mExt]
  refine ⟨ud, rfl, hpu, fun q => e0 q, fun q => ?_⟩
  have hud : ud = .int (intOf ud) := num_of (by unfold okUnit at q; rw [Bool.and_eq_true] at q; exact q.1)
  have hu1 : 1 ≤ intOf ud := by unfold okUnit at q; rw [Bool.and_eq_true] at q; simpa using q.2
  refine dLen_it hit ⟨_, rfl, trivial, fun q1 => ?_, fun q1 => ?_⟩
  · refine e1 q fun z => ?_
    have : okStates (.int rs.length) = true := by show (decide (1 ≤ (rs.length : Int)) && decide ((rs.length : Int) ≤ 4)) = true; simp; omega
    rw [q1] at this; cases this
  have q1' : 1 ≤ rs.length ∧ rs.length ≤ 4 := by
    have q2 : (decide (1 ≤ (rs.length : Int)) && decide ((rs.length : Int) ≤ 4)) = true := q1
    simp only [Bool.and_eq_true, decide_eq_true_eq] at q2
    omega
  refine ⟨intOf ud, d, rs, by rw [← hud], hd, hp, fun i q2 => e2 q q1' i q2, fun q2 => ?_⟩
  have hh := h q q1' q2
  have hr := rows_is q2
  refine ⟨intOf ud, d, rs, rs.map rowOf, by rw [← hud], hd, hr, ⟨hu1, hsu⟩, by simp; omega, fun r hr => ?_, ?_⟩
  · obtain ⟨y, hy, rfl⟩ := List.mem_map.mp hr
    exact plain2_len (hp y hy)
  obtain ⟨r0, rs', rfl⟩ : ∃ r0 rs', rs = r0 :: rs' := by cases rs with | nil => simp at q1' | cons a b => exact ⟨a, b, rfl⟩
  have hl0 : ∃ l0, items r0 = some l0 := by
    obtain ⟨z, _⟩ := rowOk_is (firstBad_all q2 r0 List.mem_cons_self)
    exact ⟨_, isRow_it z⟩
  obtain ⟨l0, hl0⟩ := hl0
  simp only [zDL, mDcNew, mDcApp, mFreezeDc, mItDz, mZipDz, mValsDz, mListZip, mExt, and_self, true_and]
  refine ⟨by decide, put1, dLen_it hit ⟨put2, dIx_it (k := 0) hit rfl (dLen_it hl0 ⟨put3, _, rfl, ?_⟩)⟩⟩
  rw [put4 _ _ _ _ (by decide) (by decide) (by decide) (by decide) (by decide) (by decide)]
  have s1 : ((low2 (intOf ud) ((r0 :: rs').map rowOf)).length) = (r0 :: rs').length := by rw [low2_len, List.length_map]
  have s2 : (((low2 (intOf ud) ((r0 :: rs').map rowOf)).headD []).length) = l0.length := by
    rw [low2_head]
    show (rowOf r0).length = _
    unfold rowOf; rw [hl0]; simp
  unfold expF at hh
  rw [s1, s2] at hh
  exact hh
theorem lookE (u : Int) (rows : List (List Int)) : (expF u rows).lookup ("rows" : Str) = none ∧ (expF u rows).lookup ("unit" : Str) = some (.int u) ∧ (expF u rows).lookup ("_rows" : Str) = some (.tup (rowsT rows)) ∧ (expF u rows).lookup ("states" : Str) = some (.int rows.length) ∧ (expF u rows).lookup ("signals" : Str) = some (.int (rows.headD []).length) := by
  have e1 : (("rows" : Str) == "unit") = false := by decide
  have e2 : (("rows" : Str) == "_rows") = false := by decide
  have e3 : (("rows" : Str) == "states") = false := by decide
  have e4 : (("rows" : Str) == "signals") = false := by decide
  have e5 : (("_rows" : Str) == "unit") = false := by decide
  have e6 : (("states" : Str) == "unit") = false := by decide
  have e7 : (("states" : Str) == "_rows") = false := by decide
  have e8 : (("signals" : Str) == "unit") = false := by decide
  have e9 : (("signals" : Str) == "_rows") = false := by decide
  have e10 : (("signals" : Str) == "states") = false := by decide
  unfold expF
  refine ⟨?_, ?_, ?_, ?_, ?_⟩ <;> simp only [List.lookup, beq_self_eq_true, e1, e2, e3, e4, e5, e6, e7, e8, e9, e10]
theorem d_Experiment_rows : ∀ ds c xe rt, fExpRows xe ds c rt → ds.length = 1 ∧ b_Experiment_rows (fun e _ c' => xe e c') { nx := fun _ c' => rt .non c', rt := rt, rtN := rt } (ro0 ["self", "row"] ds) c := by
  rintro _ c xe rt ⟨u, rows, rfl, hl, h⟩
  refine ⟨rfl, ?_⟩
  simp only [zDL, b_Experiment_rows, expD, mDcNew, mDcApp, mFreezeDc, mItDz, mZipDz, mValsDz, mListZip, mExt]
  refine lcS (rowsT rows) (fun x => .lst ((rowOf x).map .int)) (fun P q => ⟨by decide, q⟩) (by simp [rowsT]; omega) (fun x hx post hq => ?_) ?_
  · obtain ⟨r, _, rfl⟩ := List.mem_map.mp hx
    have e : rowOf (.tup (r.map .int)) = r := rowOf_is (.inr rfl)
    rw [e] at hq
    simp only [zDL, mDcNew, mDcApp, mFreezeDc, mItDz, mZipDz, mValsDz, mListZip, mExt, wipeR, dList]
    exact hq
  · have e : (rowsT rows).map (fun x => D.lst ((rowOf x).map .int)) = rowsD rows := by
      unfold rowsT rowsD
      rw [List.map_map]
      apply List.map_congr_left
      intro r _
      show D.lst ((rowOf (.tup (r.map .int))).map .int) = _
      rw [rowOf_is (.inr rfl)]
    rw [e]; exact h
theorem okL_rowsT (n : Nat) (rows : List (List Int)) : D.okL (n + 1) (rowsT rows) = true := okL_all fun d hd => by
  obtain ⟨r, _, rfl⟩ := List.mem_map.mp hd
  rw [ok_tup]; exact okL_ints _ _
theorem eqvL_rowsT : ∀ a b : List (List Int), D.eqvL (rowsT a) (rowsT b) = decide (a = b)
  | [], [] => by simp [rowsT, D.eqvL]
  | [], _ :: _ => by simp [rowsT, D.eqvL]
  | _ :: _, [] => by simp [rowsT, D.eqvL]
  | x :: a, y :: b => by
    have ih := eqvL_rowsT a b
    unfold rowsT at ih ⊢
    rw [List.map_cons, List.map_cons, D.eqvL, ih]
    have e : D.eqv (.tup (x.map .int)) (.tup (y.map .int)) = decide (x = y) := by rw [D.eqv]; exact eqvL_ints x y
    rw [e]
    by_cases h1 : x = y <;> by_cases h2 : a = b <;> simp [h1, h2]
theorem okUnit_1 (u : Int) (h : 1 ≤ u) : okUnit (.int u) = true := by show (true && decide (1 ≤ u)) = true; simpa using h
theorem rowOk_int {u : Int} {n : Nat} {r : List Int} {d : D} (hd : isRow d r) (h0 : ∀ x ∈ r, 0 ≤ x) (hl : r.length = n) (hs : r.sum = u) : rowOk u n d = true := by
  have hi := isRow_it hd
  have e1 : areAms d = true := by
    unfold areAms areInts
    rw [hi]
    simp only [List.all_map, Bool.and_eq_true]
    refine ⟨all_iff'.mpr fun x _ => rfl, all_iff'.mpr fun x hx => decide_eq_true (h0 x hx)⟩
  have e2 : sumD (r.map .int) = r.sum := by
    unfold sumD
    rw [List.map_map]
    have : (intOf ∘ D.int) = id := rfl
    rw [this, List.map_id]
  unfold rowOk
  rw [e1, hi]
  simp [e2, hl, hs]
theorem plain2_row {d : D} {r : List Int} (h : isRow d r) (hl : r.length ≤ 1000000) : plain2 d := by
  refine ⟨by rcases h with rfl | rfl <;> trivial, fun l q => ?_⟩
  rw [isRow_it h] at q
  cases q
  refine ⟨by rw [List.length_map]; exact hl, fun x hx => ?_⟩
  obtain ⟨y, _, rfl⟩ := List.mem_map.mp hx
  trivial
/-- an experiment is made of sound rows -/
theorem mk_exp {u : Int} {d : D} {rows : List (List Int)} {rs : List D} {n : Nat} {xe : Err → Nat → Prop} {c : Nat} {rt : List (Str × D) → Nat → Prop} (hd : d = .lst rs ∨ d = .tup rs) (hr : areRows rs rows) (hu : 1 ≤ u) (hs : Sm 8000 u) (h1 : 1 ≤ rows.length) (h4 : rows.length ≤ 4) (hn : n ≤ 1000000)
    (hrow : ∀ r ∈ rows, r.length = n ∧ r.sum = u ∧ ∀ x ∈ r, 0 ≤ x) (q : rt (expF (low1 u rows) (low2 u rows)) c) : fExpInit xe [.int u, d] c rt := by
  have hm := areRows_map hr
  refine ⟨.int u, d, rs, rfl, hd, trivial, hs, fun r hx => ?_, fun z => ?_, fun _ z => ?_, fun _ _ i z => ?_, fun _ _ _ => ?_⟩
  · obtain ⟨a, b⟩ := areRows_mem hr hx
    exact plain2_row a (by rw [(hrow _ b).1]; exact hn)
  · rw [okUnit_1 u hu] at z; cases z
  · exact absurd ⟨by rw [hr.1]; exact h1, by rw [hr.1]; exact h4⟩ z
  · exfalso
    have hl0 : lenD (rs.headD .non) = n := by
      cases rs with
      | nil => have := hr.1; simp at this; omega
      | cons a b =>
        obtain ⟨q1, q2⟩ := areRows_mem hr (List.mem_cons_self (a := a) (l := b))
        show lenD a = n
        unfold lenD; rw [isRow_it q1]; simp [(hrow _ q2).1]
    have : badRow u rs = none := first_none fun j x hx => by
      obtain ⟨q1, q2⟩ := areRows_mem hr (mem_of hx)
      obtain ⟨y1, y2, y3⟩ := hrow _ q2
      rw [hl0]
      exact rowOk_int q1 y3 y1 y2
    have z' : badRow u rs = some i := z
    rw [this] at z'; cases z'
  · show rt (expF (low1 u (rs.map rowOf)) (low2 u (rs.map rowOf))) c
    rw [hm]; exact q
theorem sgE (a b : Int) : sg a b = if b < 0 then -((Nat.gcd a.natAbs b.natAbs : Nat) : Int) else ((Nat.gcd a.natAbs b.natAbs : Nat) : Int) := by
  have e : gcdL [a, b] = Nat.gcd a.natAbs b.natAbs := by show Nat.gcd (Nat.gcd 0 a.natAbs) b.natAbs = _; rw [Nat.gcd_zero_left]
  unfold sg; rw [e]
theorem sg_ne {a b : Int} (h : b ≠ 0) : sg a b ≠ 0 ∧ (sg a b).natAbs ≤ b.natAbs := by
  have hp : 0 < Nat.gcd a.natAbs b.natAbs := Nat.gcd_pos_of_pos_right _ (by omega)
  have hl := Nat.gcd_le_right a.natAbs (by omega : 0 < b.natAbs)
  rw [sgE]
  split <;> omega
theorem lowP_spec {a b : Int} (h : b ≠ 0) : a = sg a b * (lowP a b).1 ∧ b = sg a b * (lowP a b).2 ∧ 0 < (lowP a b).2 := by
  have h0 := (sg_ne (a := a) h).1
  have da : sg a b ∣ a := by
    rw [sgE]
    have : ((Nat.gcd a.natAbs b.natAbs : Nat) : Int) ∣ a := Int.natAbs_dvd_natAbs.mp (show Nat.gcd a.natAbs b.natAbs ∣ a.natAbs from Nat.gcd_dvd_left _ _)
    split
    · exact Int.neg_dvd.mpr this
    · exact this
  have db : sg a b ∣ b := by
    rw [sgE]
    have : ((Nat.gcd a.natAbs b.natAbs : Nat) : Int) ∣ b := Int.natAbs_dvd_natAbs.mp (show Nat.gcd a.natAbs b.natAbs ∣ b.natAbs from Nat.gcd_dvd_right _ _)
    split
    · exact Int.neg_dvd.mpr this
    · exact this
  obtain ⟨x, hx⟩ := da
  obtain ⟨y, hy⟩ := db
  have e1 : (lowP a b).1 = x := by show a.fdiv (sg a b) = x; generalize sg a b = s at *; rw [hx, Int.mul_fdiv_cancel_left _ h0]
  have e2 : (lowP a b).2 = y := by show b.fdiv (sg a b) = y; generalize sg a b = s at *; rw [hy, Int.mul_fdiv_cancel_left _ h0]
  rw [e1, e2]
  refine ⟨hx, hy, ?_⟩
  have hp : 0 < Nat.gcd a.natAbs b.natAbs := Nat.gcd_pos_of_pos_right _ (by omega)
  have sgn : (b < 0 → sg a b < 0) ∧ (0 < b → 0 < sg a b) := ⟨fun q => by rw [sgE, if_pos q]; omega, fun q => by rw [sgE, if_neg (by omega)]; omega⟩
  generalize sg a b = s at *
  rcases Int.lt_or_gt_of_ne h with q | q
  · have hs := sgn.1 q
    by_cases z : 0 < y
    · exact z
    · have := Int.mul_nonneg_of_nonpos_of_nonpos (by omega : s ≤ 0) (by omega : y ≤ 0)
      omega
  · have hs := sgn.2 q
    by_cases z : 0 < y
    · exact z
    · have := Int.mul_nonpos_of_nonneg_of_nonpos (by omega : 0 ≤ s) (by omega : y ≤ 0)
      omega
theorem Sm.up {k l : Nat} {n : Int} (h : Sm k n) (e : k ≤ l) : Sm l n := Nat.lt_of_lt_of_le h (Nat.pow_le_pow_right (by decide) e)
theorem Sm.add {k : Nat} {a b : Int} (ha : Sm k a) (hb : Sm k b) : Sm (k + 1) (a + b) := by
  unfold Sm at *
  have := Int.natAbs_add_le a b
  rw [Nat.pow_succ]; omega
theorem Sm.neg {k : Nat} {a : Int} (ha : Sm k a) : Sm k (-a) := by unfold Sm at *; rwa [Int.natAbs_neg]
theorem Sm.sub {k : Nat} {a b : Int} (ha : Sm k a) (hb : Sm k b) : Sm (k + 1) (a - b) := by rw [Int.sub_eq_add_neg]; exact ha.add hb.neg
theorem low_le {s x n : Int} (h : n = s * x) (hs : s ≠ 0) : x.natAbs ≤ n.natAbs := by
  rw [h, Int.natAbs_mul]
  exact Nat.le_mul_of_pos_left _ (by omega)
theorem Sm.low {k : Nat} {a b : Int} (hb : b ≠ 0) (h1 : Sm k a) (h2 : Sm k b) : Sm k (lowP a b).1 ∧ Sm k (lowP a b).2 := by
  obtain ⟨e1, e2, _⟩ := lowP_spec (a := a) hb
  have h0 := (sg_ne (a := a) hb).1
  exact ⟨Nat.lt_of_le_of_lt (low_le e1 h0) h1, Nat.lt_of_le_of_lt (low_le e2 h0) h2⟩
theorem mulw {a b : Int} {k l : Nat} (ha : Sm k a) (hb : Sm l b) (h0 : 0 < k) (h1 : 0 < l) (h : k + l ≤ 1000000) : CMulW a b := wide_mul ha hb h0 h1 h
theorem Sm.lowL {k : Nat} {a b : Int} (hb : b ≠ 0) (h1 : Sm k a) (h2 : Sm k b) : Sm k (lowP a b).1 ∧ Sm k (lowP a b).2 := Sm.low hb h1 h2
theorem d_are_weights : ∀ ds c xe rt, fAreWts xe ds c rt → ds.length = 1 ∧ b_are_weights (fun _ _ _ => False) { nx := fun _ c' => rt .non c', rt := rt, rtN := rt } (ro0 ["values"] ds) c := by
  rintro _ c xe rt ⟨d, rfl, hp, h⟩
  refine ⟨rfl, ?_⟩
  simp only [zDL, b_are_weights, mDcNew, mDcApp, mFreezeDc, mItDz, mZipDz, mValsDz, mListZip, mExt]
  refine ⟨d, rfl, hp, ?_⟩
  cases ha : areAms d with
  | false =>
    have e : areWts d = false := by unfold areWts; rw [ha]; rfl
    rw [e] at h; simpa using h
  | true =>
    obtain ⟨l, h1, h2, h3⟩ := ams_it ha
    have e : areWts d = decide (0 < sumD l) := by unfold areWts; rw [ha, h1]; rfl
    rw [e] at h
    simp only [zDL, if_true, mDcNew, mDcApp, mFreezeDc, mItDz, mZipDz, mValsDz, mListZip, mExt]
    exact dSum_it h1 h2 h
theorem le_sum : ∀ {l : List Int} {x : Int}, x ∈ l → (∀ y ∈ l, 0 ≤ y) → x ≤ l.sum ∧ 0 ≤ l.sum
  | a :: l, x, hx, h => by
    have h0 := h a List.mem_cons_self
    have hs : 0 ≤ l.sum := by
      cases l with
      | nil => simp
      | cons b l => exact (le_sum (x := b) List.mem_cons_self fun y hy => h y (List.mem_cons_of_mem _ hy)).2
    rw [List.sum_cons]
    rcases List.mem_cons.mp hx with rfl | hx
    · exact ⟨by omega, by omega⟩
    · have := (le_sum hx fun y hy => h y (List.mem_cons_of_mem _ hy)).1
      exact ⟨by omega, by omega⟩
theorem sumD_ints (ns : List Int) : sumD (ns.map .int) = ns.sum := by
  unfold sumD
  rw [List.map_map]
  have : (intOf ∘ D.int) = id := rfl
  rw [this, List.map_id]
theorem all_ints (ns : List Int) : (ns.map D.int).all isNum = true := by rw [List.all_map]; exact all_iff'.mpr fun _ _ => rfl
theorem Sm.le {k : Nat} {x u : Int} (h : Sm k u) (h0 : 0 ≤ x) (hl : x ≤ u) : Sm k x := by unfold Sm at *; omega
theorem RowsOk.entry {u : Int} {rows : List (List Int)} {s m : Nat} (R : RowsOk u rows s m) {r : List Int} (hr : r ∈ rows) {x : Int} (hx : x ∈ r) : Sm 200 x := by
  obtain ⟨_, h2, h3⟩ := R.row r hr
  exact R.hs.le (h3 x hx) (by rw [← h2]; exact (le_sum hx h3).1)
theorem RowsOk.head {u : Int} {rows : List (List Int)} {s m : Nat} (R : RowsOk u rows s m) : (rows.headD []).length = m := by
  cases rows with
  | nil => have := R.len; have := R.s1; simp at *; omega
  | cons a b => exact (R.row a List.mem_cons_self).1
theorem getD_mem {r : List Int} {k : Nat} (h : k < r.length) : r.getD k 0 ∈ r ∧ r[k]? = some (r.getD k 0) := by
  rw [List.getD_eq_getElem?_getD, List.getElem?_eq_getElem h]
  exact ⟨List.getElem_mem h, rfl⟩
theorem d_law_is_number : ∀ ds c xe rt, fIsInt xe ds c rt → ds.length = 1 ∧ b_law_is_number (fun _ _ _ => False) { nx := fun _ c' => rt .non c', rt := rt, rtN := rt } (ro0 ["_law_thing"] ds) c := by
  rintro _ c xe rt ⟨d, rfl, hp, h⟩
  refine ⟨rfl, ?_⟩
  cases d <;> simp [b_law_is_number, mSeq, mAsg, mVar, mC, mOp, mUn, mNil, mCons, mTup, mLst, mFrz, mTest, mAnd, mOr, mNot, mIf, mAndV, mOrV, mNotV, mCB, mCall0, gN, gsN, gsC, gT, gT2, mSlV, mListRg, mListRg1, mNext, mRet, mRetN, mIfS, mDrop, mPar, mApp, mFreeze, mSetI, mItL, mItS, mRng1, mRng2, mIsi, mIsN, mNotN, dI, dI0, dB0, dU, dEq, dNe, dAdd, dIx, mIxO, dLen, dList, dTuple, mCBO, dListO, dMax2, dAbs, dInt1, dGcd, dLcm, mTmpT, mAsgO, mAsgF, mRetF, mSc, mVarO, mSpoil, mSpoilK, ro0, List.map_cons, List.map_nil, List.replicate, List.length_cons, List.length_nil, List.getElem?_cons_zero, List.getElem?_cons_succ, List.set_cons_zero, List.set_cons_succ, List.cons_append, List.nil_append, Nat.reduceAdd, Nat.reduceSub, dSeq_lst, dSeq_tup, mFldT, mIsiC, mOrE, mMethX, mGetX, mMakeX, mPropX, mNoX, mNoXT, mZip, mSl, mSlO, mP, mNoP, dMax, dMin, mIns, mPopS, mSetF, gF, mChain, dAll, dSum, mEnum, mRaise, mMkE, mMk0, mCall, dEqX, dOr2, mTmpE, mAsgFO, mAsgFr, mAsgT, mRetT, mTO, mLf, mLsT, mNilT, mConsT, mCallT, mCallTX, mMethT, mTmE, mTmT, mTmA, mTmAT, mFrzT, aRoot, aVar, aIx, mAsgA, mAppA, mSetA, mInsA, mAppF, mAsgFI, mRetV, mRetNV, mLastT, mCallMS, mCallDs, wOf, wNot, wOr, wCall, wIf, mTmO, mOwnT, endM, dIn, dInS, dSorted, mClrR, mAppR, mAppPop, mRetVT, dAddA, mSlT, dAny, mObF, mTmBE, mTmBT, mTmBO, mFrzB, mFrzF, mSetBD, mSetBT, mAppB, mSetIB, mBCall, mBCallA, mMakeB, mRepO, dMulA, mAsgF2, mVarFr, mTmpO, mSpoilF, dNotInS, mRng3, dNotInD, dInNX, mDcNew, mDcApp, mFreezeDc, mItDz, mZipDz, mValsDz, mListZip, mExt, dIsi, dIsN, tyName, plain, isNum] at hp h ⊢ <;> exact h
theorem d_law_divisor : ∀ ds c xe rt, fGcd xe ds c rt → ds.length = 1 ∧ b_law_divisor (fun _ _ _ => False) { nx := fun _ c' => rt .non c', rt := rt, rtN := rt } (ro0 ["_law_numbers", "_law_found", "_law_number", "_law_one", "_law_other"] ds) c := by
  rintro _ c xe rt ⟨ns, rfl, h⟩
  refine ⟨rfl, ?_⟩
  simp only [zDM, b_law_divisor, mDcNew, mDcApp, mFreezeDc, mItDz, mZipDz, mValsDz, mListZip, mExt]
  refine forS (ns.map .int) (fun i ρ c' => c' = c ∧ ∃ s2 s3 s4, ρ = [.sh (.lst (ns.map .int)), .sh (.int (gcdL (ns.take i) : Nat)), s2, s3, s4]) (fun P q => q) ⟨rfl, _, _, _, rfl⟩ ?_ ?_
  · rintro i d ρ c' hd ⟨rfl, s2, s3, s4, rfl⟩
    obtain ⟨n, hn, rfl⟩ := get_int hd
    simp only [zDM, mDcNew, mDcApp, mFreezeDc, mItDz, mZipDz, mValsDz, mListZip, mExt]
    refine ⟨fun m ρ c'' => c'' = c' ∧ ∃ (a b : Int), ρ = [.sh (.lst (ns.map .int)), .sh (.int (gcdL (ns.take i) : Nat)), .sh (.int n), .sh (.int a), .sh (.int b)] ∧ 0 ≤ a ∧ 0 ≤ b ∧ m = b.toNat ∧ Nat.gcd a.natAbs b.natAbs = gcdL (ns.take (i + 1)),
      ⟨_, rfl, _, _, rfl, by split <;> omega, Int.natCast_nonneg _, rfl, ?_⟩, ?_⟩
    · rw [gcdL_succ hn, Nat.gcd_comm, Int.natAbs_natCast]
      congr 1
      split <;> omega
    · rintro m ρ c'' ⟨rfl, a, b, rfl, ha, hb, rfl, hg⟩
      simp only [zDM, mDcNew, mDcApp, mFreezeDc, mItDz, mZipDz, mValsDz, mListZip, mExt, ok_int, eqv_int, and_self, true_and]
      by_cases e : b = 0
      · subst e
        simp only [zDM, beq_self_eq_true, Bool.not_true, Bool.false_eq_true, if_false, mDcNew, mDcApp, mFreezeDc, mItDz, mZipDz, mValsDz, mListZip, mExt]
        have hg' : a.natAbs = gcdL (ns.take (i + 1)) := by
          rw [← hg]; simp
        have e3 : ((gcdL (ns.take (i + 1)) : Nat) : Int) = a := by omega
        rw [e3]
        exact ⟨_, _, _, rfl⟩
      · have eb : (b == 0) = false := by simpa using e
        simp only [zDM, eb, Bool.not_false, if_true, mDcNew, mDcApp, mFreezeDc, mItDz, mZipDz, mValsDz, mListZip, mExt]
        refine ⟨e, (a.fmod b).toNat, ?_, b, a.fmod b, rfl, hb, ?_, rfl, ?_⟩
        · rw [Int.fmod_eq_emod_of_nonneg _ hb]
          have := Int.emod_lt_of_pos a (by omega : 0 < b)
          have := Int.emod_nonneg a e
          omega
        · rw [Int.fmod_eq_emod_of_nonneg _ hb]; exact Int.emod_nonneg a e
        · rw [← hg, Int.fmod_eq_emod_of_nonneg _ hb, Nat.gcd_comm a.natAbs, Nat.gcd_rec b.natAbs a.natAbs, Nat.gcd_comm]
          congr 1
          obtain ⟨x, rfl⟩ := Int.eq_ofNat_of_zero_le ha
          obtain ⟨y, rfl⟩ := Int.eq_ofNat_of_zero_le hb
          rfl
  · rintro ρ c' ⟨rfl, s2, s3, s4, rfl⟩
    simp only [zDM, mDcNew, mDcApp, mFreezeDc, mItDz, mZipDz, mValsDz, mListZip, mExt, List.length_map, List.take_length]
    exact h
theorem gcdL_flat (u : Int) (rows : List (List Int)) : gcdL (u :: rows.flatten) = gcdR u rows := by
  have e : ∀ (rows : List (List Int)) (g : Nat), (rows.flatten).foldl (fun g n => Nat.gcd g n.natAbs) g = rows.foldl gcdF g := by
    intro rows
    induction rows with
    | nil => intro g; rfl
    | cons r rows ih => intro g; rw [List.flatten_cons, List.foldl_append, ih]; rfl
  unfold gcdL gcdR
  rw [List.foldl_cons, Nat.gcd_zero_left]
  exact e rows _
theorem divOk0 {g : Nat} (h : g ≠ 0) (hs : Sm 8000 (g : Int)) (y : Int) : CDivG y g := by
  refine ⟨by omega, log2_of_lt (k := 9000) ?_ (by decide)⟩
  rw [Int.natAbs_natCast]
  unfold Sm at hs
  rw [Int.natAbs_natCast] at hs
  exact Nat.lt_of_lt_of_le hs (Nat.pow_le_pow_right (by decide) (by decide))
theorem flat_len {rows : List (List Int)} (h : ∀ r ∈ rows, r.length ≤ 1000) : rows.flatten.length ≤ 1000 * rows.length := by
  induction rows with
  | nil => simp
  | cons r rows ih =>
    have := h r List.mem_cons_self
    have := ih fun r hr => h r (List.mem_cons_of_mem _ hr)
    simp only [List.flatten_cons, List.length_append, List.length_cons]
    omega
theorem d_law_lowest : ∀ ds c xe rt, fLLow xe ds c rt → ds.length = 2 ∧ b_law_lowest (fun _ _ _ => False) { nx := fun _ c' => rt .non c', rt := rt, rtN := rt } (ro0 ["_law_unit", "_law_rows_here", "_law_numbers", "_law_row_here", "_law_part", "_law_item"] ds) c := by
  rintro _ c xe rt ⟨u, rows, rfl, ⟨hu, hs, hg, hgs⟩, ⟨hl1, hl2⟩, h⟩
  refine ⟨rfl, ?_⟩
  simp only [zDM, b_law_lowest, mDcNew, mDcApp, mFreezeDc, mItDz, mZipDz, mValsDz, mListZip, mExt]
  refine ⟨by decide, ?_⟩
  refine forS (rowsD rows) (fun i ρ c' => c' = c ∧ ∃ s3, ρ = [.sh (.int u), .sh (.lst (rowsD rows)), .sh (.lst ((u :: (rows.take i).flatten).map .int)), s3, .no, .no]) (fun P q => q) ⟨rfl, _, rfl⟩ ?_ ?_
  · rintro i x ρ c' hx ⟨rfl, s3, rfl⟩
    unfold rowsD at hx
    rw [List.getElem?_map] at hx
    cases hr : rows[i]? with
    | none => rw [hr] at hx; cases hx
    | some r =>
      rw [hr] at hx
      have hx : D.lst (r.map .int) = x := Option.some.inj hx
      subst hx
      simp only [zDM, mDcNew, mDcApp, mFreezeDc, mItDz, mZipDz, mValsDz, mListZip, mExt]
      have hi : i < rows.length := (List.getElem?_eq_some_iff.mp hr).1
      have hr2 := hl2 r (List.mem_of_getElem? hr)
      have hf := flat_len (rows := rows.take i) fun r hr => hl2 r (List.mem_of_mem_take hr)
      rw [List.length_take] at hf
      refine ⟨by simp only [List.length_map, List.length_cons]; omega, trivial, .sh (.lst (r.map .int)), ?_⟩
      have e : (rows.take (i + 1)).flatten = (rows.take i).flatten ++ r := by
        rw [List.take_add_one, hr]; simp
      rw [e, ← List.cons_append, List.map_append]
      simp
  · rintro ρ c' ⟨rfl, s3, rfl⟩
    have e1 : (rowsD rows).length = rows.length := by simp [rowsD]
    rw [e1, List.take_length]
    simp only [zDM, mDcNew, mDcApp, mFreezeDc, mItDz, mZipDz, mValsDz, mListZip, mExt]
    refine ⟨u :: rows.flatten, rfl, ?_⟩
    rw [gcdL_flat]
    refine ⟨divOk0 hg hgs u, ?_⟩
    refine lcS (rowsD rows) (fun x => .lst ((rowOf x).map fun n => .int (n.fdiv (gcdR u rows)))) (fun P q => q) (by rw [e1]; omega) (fun x hx post hq => ?_) ?_
    · unfold rowsD at hx
      obtain ⟨r, hr, rfl⟩ := List.mem_map.mp hx
      have er : rowOf (.lst (r.map .int)) = r := rowOf_is (.inl rfl)
      rw [er] at hq
      simp only [zDM, mDcNew, mDcApp, mFreezeDc, mItDz, mZipDz, mValsDz, mListZip, mExt, wipeR]
      refine lcS (r.map .int) (fun y => .int ((intOf y).fdiv (gcdR u rows))) (fun P q => q) (by rw [List.length_map]; have := hl2 _ hr; omega) (fun y hy post hq => ?_) ?_
      · obtain ⟨n, _, rfl⟩ := List.mem_map.mp hy
        simp only [zDM, mDcNew, mDcApp, mFreezeDc, mItDz, mZipDz, mValsDz, mListZip, mExt, wipeR]
        exact ⟨divOk0 hg hgs n, hq⟩
      · rw [List.map_map]
        exact hq
    · refine ⟨by decide, ?_⟩
      have e2 : (rowsD rows).map (fun x => D.lst ((rowOf x).map fun n => .int (n.fdiv (gcdR u rows)))) = rowsD (low2 u rows) := by
        unfold rowsD low2 divR
        rw [List.map_map, List.map_map]
        apply List.map_congr_left
        intro r _
        show D.lst ((rowOf (.lst (r.map .int))).map fun n => .int (n.fdiv (gcdR u rows))) = _
        rw [rowOf_is (.inl rfl)]
        simp
      rw [e2]; exact h
theorem take_ok {n : Int} {c : Nat} {xe : Err → Nat → Prop} {rt : D → Nat → Prop} (h0 : 0 < n) (hn : n ≤ 1000000000000) (hc : c < 1000000000) (q : ∀ k : Int, 0 ≤ k → k < n → rt (.int k) (c + 1)) : fTake xe [.pool, .int n] c rt :=
  ⟨n, rfl, h0, log2_of_lt (k := 9000) (Nat.lt_of_lt_of_le (show n.natAbs < 2 ^ 40 by omega) (Nat.pow_le_pow_right (by decide) (by decide))) (by decide), hc, q⟩
/-- a comprehension with draws -/
theorem lcDS {mi : DL} {tg : DG} {me : DE} {xe : XP} {ρ : Ro} {vs : List Nat} {c : Nat} {Q : List D → Nat → Prop} (k m B : Nat) (L : Nat → Prop) (P : D → Prop)
    (hi : ∀ R : List D → Nat → Prop, (∀ (l : List D) (c' : Nat), L l.length → l.length ≤ m → c' ≤ c + B → R l c') → mi xe ρ c R) (hm : m ≤ 1000000)
    (h : ∀ (d : D) (c' : Nat), c' ≤ c + B + k * m → ∀ post : D → Nat → Prop, (∀ x c2, P x → c2 ≤ c' + k → post x c2) → tg d (wipeR ρ vs) fun ρ' => me xe ρ' c' post)
    (hq : ∀ (l : List D) (c' : Nat), L l.length → l.length ≤ m → (∀ x ∈ l, P x) → c' ≤ c + B + k * m → Q l c') : mLc mi tg mYes me vs xe ρ c Q := by
  refine hi _ fun l c' hL hl h2 => ?_
  have hk : k * l.length ≤ k * m := Nat.mul_le_mul_left k hl
  exact lc_draw (k := k) P (by omega) (fun d hd c'' hc post hp => h d c'' (by omega) post hp) fun l2 c2 e1 e2 e3 => hq l2 c2 (by rw [e1]; exact hL) (by omega) e2 (by omega)
theorem cut_head {l : List D} {k : Nat} (h : k ≤ l.length) : cutD l none (some (k : Int)) = l.take k := by
  unfold cutD
  rw [HT.sIx_none, HT.sIx_nat, Nat.min_eq_left h, List.drop_zero, Nat.sub_zero]
theorem cut_tail {l : List D} {k : Nat} (h : k ≤ l.length) : cutD l (some (k : Int)) none = l.drop k := by
  unfold cutD
  rw [HT.sIx_none, HT.sIx_nat, Nat.min_eq_left h]
  exact List.take_of_length_le (by rw [List.length_drop]; omega)
theorem d_law_row : ∀ ds c xe rt, fLRow xe ds c rt → ds.length = 3 ∧ b_law_row (fun _ _ _ => False) { nx := fun _ c' => rt .non c', rt := rt, rtN := rt } (ro0 ["_law_pool_here", "_law_unit", "_law_many", "_law_row_here", "_law_rest", "_law_k", "_law_start", "_law_part"] ds) c := by
  rintro _ c xe rt ⟨u, m, rfl, ⟨hu0, hu1⟩, ⟨hm1, hm64⟩, hc, h⟩
  refine ⟨rfl, ?_⟩
  simp only [zDM, b_law_row, mDcNew, mDcApp, mFreezeDc, mItDz, mZipDz, mValsDz, mListZip, mExt]
  refine ⟨by decide, ?_⟩
  have em : ((m : Int) - 1).toNat = m - 1 := by omega
  refine forS (rng 0 (m - 1)) (fun i ρ c' => c' ≤ c + i ∧ ∃ (r : List Int) (rest : Int) (s5 s7 : S), ρ = [.sh .pool, .sh (.int u), .sh (.int m), .own (r.map .int), .sh (.int rest), s5, .no, s7] ∧ r.length = i ∧ r.sum + rest = u ∧ 0 ≤ rest ∧ ∀ x ∈ r, 0 ≤ x) (fun P q => ⟨by dsimp only; omega, by dsimp only; rw [em]; exact q⟩) ⟨by omega, [], u, .no, .no, rfl, rfl, by simp, hu0, by simp⟩ ?_ ?_
  · rintro i x ρ c' hx ⟨hc', r, rest, s5, s7, rfl, hl, hs, h0, hr⟩
    have hi : i < m - 1 := by have := (List.getElem?_eq_some_iff.mp hx).1; rw [rng_len] at this; exact this
    have hrs : 0 ≤ r.sum := by
      cases r with
      | nil => simp
      | cons a b => exact (le_sum (x := a) List.mem_cons_self hr).2
    simp only [zDM, mDcNew, mDcApp, mFreezeDc, mItDz, mZipDz, mValsDz, mListZip, mExt]
    refine take_ok (by omega) (by omega) (by omega) fun k k0 k1 => ⟨by rw [List.length_map]; omega, by omega, r ++ [k], rest - k, x |> S.sh, .sh (.int k), by rw [List.map_append]; rfl, by simp [hl], by rw [List.sum_append]; simp; omega, by omega, fun y hy => ?_⟩
    rcases List.mem_append.mp hy with z | z
    · exact hr y z
    · rw [List.mem_singleton] at z; omega
  · rintro ρ c' ⟨hc', r, rest, s5, s7, rfl, hl, hs, h0, hr⟩
    rw [rng_len] at hc' hl
    simp only [zDM, mDcNew, mDcApp, mFreezeDc, mItDz, mZipDz, mValsDz, mListZip, mExt]
    have el : ((r.map D.int) ++ [D.int rest]).length = m := by simp [hl]; omega
    refine ⟨by rw [List.length_map]; omega, take_ok (by omega) (by omega) (by omega) fun k k0 k1 => ?_⟩
    obtain ⟨k, rfl⟩ : ∃ j : Nat, k = j := ⟨k.toNat, by omega⟩
    have e0 : (r.map D.int) ++ [D.int rest] = (r ++ [rest]).map .int := by rw [List.map_append]; rfl
    have hk : k ≤ ((r ++ [rest]).map D.int).length := by rw [← e0, el]; omega
    simp only [e0, cut_head hk, cut_tail hk]
    have hall : ∀ x ∈ r ++ [rest], 0 ≤ x := fun y hy => by
      rcases List.mem_append.mp hy with z | z
      · exact hr y z
      · rw [List.mem_singleton] at z; omega
    have e1 : ((r ++ [rest]).map D.int).drop k ++ ((r ++ [rest]).map D.int).take k = ((r ++ [rest]).drop k ++ (r ++ [rest]).take k).map .int := by
      rw [List.map_append (l₁ := (r ++ [rest]).drop k), List.map_drop, List.map_take]
    refine ⟨by rw [List.length_drop, List.length_take]; rw [← e0, el]; omega, ?_⟩
    rw [e1]
    have el2 : (r ++ [rest]).length = m := by rw [← el, e0, List.length_map]
    refine h _ _ ?_ ?_ (fun x hx => ?_) (by omega)
    · rw [List.length_append, List.length_drop, List.length_take, el2]; omega
    · have e2 : ((r ++ [rest]).take k ++ (r ++ [rest]).drop k).sum = u := by
        rw [List.take_append_drop, List.sum_append]; simp; omega
      rw [List.sum_append] at e2 ⊢
      omega
    · rcases List.mem_append.mp hx with z | z
      · exact hall x (List.mem_of_mem_drop z)
      · exact hall x (List.mem_of_mem_take z)
theorem rows_of {l : List D} {P : List Int → Prop} (h : ∀ d ∈ l, ∃ r : List Int, d = .lst (r.map .int) ∧ P r) : ∃ rows : List (List Int), l = rowsD rows ∧ ∀ r ∈ rows, P r := by
  induction l with
  | nil => exact ⟨[], rfl, by simp⟩
  | cons d l ih =>
    obtain ⟨rows, e, hr⟩ := ih fun x hx => h x (List.mem_cons_of_mem _ hx)
    obtain ⟨r, e2, hr2⟩ := h d List.mem_cons_self
    refine ⟨r :: rows, by rw [e, e2]; rfl, fun y hy => ?_⟩
    rcases List.mem_cons.mp hy with rfl | hy
    · exact hr2
    · exact hr y hy
theorem d_law_rows : ∀ ds c xe rt, fLRows xe ds c rt → ds.length = 4 ∧ b_law_rows (fun _ _ _ => False) { nx := fun _ c' => rt .non c', rt := rt, rtN := rt } (ro0 ["_law_pool_here", "_law_lines", "_law_many", "_law_unit", "_law_k"] ds) c := by
  rintro _ c xe rt ⟨u, s, m, rfl, hu, hm, hs, hc, h⟩
  refine ⟨rfl, ?_⟩
  simp only [zDM, b_law_rows, mDcNew, mDcApp, mFreezeDc, mItDz, mZipDz, mValsDz, mListZip, mExt]
  have hms : m * s ≤ 64 * 100 := Nat.mul_le_mul hm.2 hs
  refine lcDS m s 0 (fun n => n = s) (fun d => ∃ r : List Int, d = .lst (r.map .int) ∧ r.length = m ∧ r.sum = u ∧ ∀ x ∈ r, 0 ≤ x) (fun R hR => ?_) (by omega) (fun x c' hc' post hq => ?_) (fun l c' hl _ hP hc' => ?_)
  · simp only [zDM, mDcNew, mDcApp, mFreezeDc, mItDz, mZipDz, mValsDz, mListZip, mExt]
    exact ⟨⟨by omega, by omega⟩, hR _ _ (by rw [rng_len]; omega) (by rw [rng_len]; omega) (by omega)⟩
  · simp only [zDM, mDcNew, mDcApp, mFreezeDc, mItDz, mZipDz, mValsDz, mListZip, mExt, wipeR]
    refine ⟨u, m, rfl, hu, hm, by omega, fun r c2 h1 h2 h3 h4 => hq _ _ ⟨r, rfl, h1, h2, h3⟩ h4⟩
  · obtain ⟨rows, e, hrows⟩ := rows_of hP
    subst e
    exact h rows c' (by rw [← hl]; simp [rowsD]) hrows (by omega)
theorem d_law_table : ∀ ds c xe rt, fLTable xe ds c rt → ds.length = 4 ∧ b_law_table (fun _ _ _ => False) { nx := fun _ c' => rt .non c', rt := rt, rtN := rt } (ro0 ["_law_pool_here", "_law_lines", "_law_most", "_law_unit_most", "_law_unit"] ds) c := by
  rintro _ c xe rt ⟨s, mm, um, rfl, hu, hm, hs, hc, h⟩
  refine ⟨rfl, ?_⟩
  simp only [zDM, b_law_table, mDcNew, mDcApp, mFreezeDc, mItDz, mZipDz, mValsDz, mListZip, mExt]
  refine take_ok (by omega) (by omega) (by omega) fun k k0 k1 => take_ok (by omega) (by omega) (by omega) fun k2 g0 g1 => ?_
  obtain ⟨k2, rfl⟩ : ∃ j : Nat, k2 = j := ⟨k2.toNat, by omega⟩
  have hms : (1 + k2) * s ≤ mm * s := Nat.mul_le_mul_right _ (by omega)
  refine ⟨1 + k, s, 1 + k2, by simp, ⟨by omega, by omega⟩, ⟨by omega, by omega⟩, hs, by omega, fun rows c' h1 h2 h3 => ⟨by decide, ?_⟩⟩
  exact h (1 + k) rows (1 + k2) c' (by omega) (by omega) (by omega) (by omega) h1 h2 (by omega)
theorem ints_of {l : List D} {P : Int → Prop} (h : ∀ d ∈ l, ∃ i, d = .int i ∧ P i) : ∃ ns : List Int, l = ns.map .int ∧ ∀ i ∈ ns, P i := by
  induction l with
  | nil => exact ⟨[], rfl, by simp⟩
  | cons d l ih =>
    obtain ⟨ns, e, hn⟩ := ih fun x hx => h x (List.mem_cons_of_mem _ hx)
    obtain ⟨i, e2, hi⟩ := h d List.mem_cons_self
    refine ⟨i :: ns, by rw [e, e2]; rfl, fun y hy => ?_⟩
    rcases List.mem_cons.mp hy with rfl | hy
    · exact hi
    · exact hn y hy
theorem sum_pos {l : List Int} (h : ∀ x ∈ l, 0 ≤ x) (h0 : l.sum ≠ 0) : 0 < l.sum := by
  cases l with
  | nil => simp at h0
  | cons a b => have := (le_sum (x := a) List.mem_cons_self h).2; omega
theorem sum_set {l : List Int} {i : Nat} {v : Int} (hi : i < l.length) (h : ∀ x ∈ l, 0 ≤ x) (hv : 0 < v) : 0 < (l.set i v).sum := by
  have hn : ∀ x ∈ l.set i v, 0 ≤ x := fun x hx => by
    rcases List.mem_or_eq_of_mem_set hx with z | z
    · exact h x z
    · omega
  have hm : v ∈ l.set i v := List.mem_of_getElem? (i := i) (by rw [List.getElem?_set_self hi])
  have := (le_sum hm hn).1
  omega
theorem d_law_prior : ∀ ds c xe rt, fLPrior xe ds c rt → ds.length = 3 ∧ b_law_prior (fun _ _ _ => False) { nx := fun _ c' => rt .non c', rt := fun _ _ => False, rtN := rt } (ro0 ["_law_pool_here", "_law_states", "_law_most", "_law_prior_here", "_law_state"] ds) c := by
  rintro _ c xe rt ⟨s, mx, rfl, hs, hmx, hc, h⟩
  refine ⟨rfl, ?_⟩
  simp only [zDM, b_law_prior, mDcNew, mDcApp, mFreezeDc, mItDz, mZipDz, mValsDz, mListZip, mExt]
  refine lcDS 1 s 0 (fun n => n = s) (fun d => ∃ i : Int, d = .int i ∧ 0 ≤ i ∧ i ≤ mx) (fun R hR => ?_) (by omega) (fun x c' hc' post hq => ?_) (fun l c' hl _ hP hc' => ?_)
  · simp only [zDM, mDcNew, mDcApp, mFreezeDc, mItDz, mZipDz, mValsDz, mListZip, mExt]
    exact ⟨⟨by omega, by omega⟩, hR _ _ (by rw [rng_len]; omega) (by rw [rng_len]; omega) (by omega)⟩
  · simp only [zDM, mDcNew, mDcApp, mFreezeDc, mItDz, mZipDz, mValsDz, mListZip, mExt, wipeR]
    exact take_ok (by omega) (by omega) (by omega) fun k k0 k1 => hq _ _ ⟨k, rfl, k0, by omega⟩ (by omega)
  · obtain ⟨ns, rfl, hn⟩ := ints_of hP
    rw [List.length_map] at hl
    have hnn : ∀ x ∈ ns, 0 ≤ x := fun x hx => (hn x hx).1
    try simp only [zDM, mDcNew, mDcApp, mFreezeDc, mItDz, mZipDz, mValsDz, mListZip, mExt]
    refine ⟨ns, rfl, ⟨ok_int _ _, ok_int _ _⟩, ?_⟩
    rw [eqv_int]
    by_cases z : ns.sum = 0
    · simp only [zDM, z, beq_self_eq_true, if_true, mDcNew, mDcApp, mFreezeDc, mItDz, mZipDz, mValsDz, mListZip, mExt]
      refine take_ok (by omega) (by omega) (by omega) fun k k0 k1 => ?_
      obtain ⟨k, rfl⟩ : ∃ j : Nat, k = j := ⟨k.toNat, by omega⟩
      have hk : k < ns.length := by omega
      refine ⟨k, by unfold ixN; rw [List.length_map, if_pos k0, if_pos (by omega)]; simp, ?_⟩
      have e : (ns.map D.int).set k (.int 1) = (ns.set k 1).map .int := by rw [List.map_set]
      rw [e]
      refine h (ns.set k 1) _ (by rw [List.length_set]; exact hl) (fun x hx => ?_) (sum_set hk hnn (by decide)) (by omega)
      rcases List.mem_or_eq_of_mem_set hx with z | z
      · exact hn x z
      · omega
    · have e : (ns.sum == 0) = false := by simpa using z
      simp only [zDM, e, Bool.false_eq_true, if_false, mDcNew, mDcApp, mFreezeDc, mItDz, mZipDz, mValsDz, mListZip, mExt]
      exact h ns _ hl hn (sum_pos hnn z) (by omega)
theorem d_lowest : ∀ ds c xe rt, fLowest xe ds c rt → ds.length = 1 ∧ b_lowest (fun _ _ _ => False) { nx := fun _ c' => rt .non c', rt := rt, rtN := rt } (ro0 ["numbers", "divisor", "number"] ds) c := by
  rintro ds c xe rt ⟨ns, hds, hl, hb, h⟩
  obtain ⟨seq, rfl, hseq⟩ : ∃ seq, ds = [seq] ∧ (seq = .lst (ns.map .int) ∨ seq = .tup (ns.map .int)) := by
    rcases hds with rfl | rfl
    · exact ⟨_, rfl, .inl rfl⟩
    · exact ⟨_, rfl, .inr rfl⟩
  have hit := it_of hseq
  refine ⟨rfl, ?_⟩
  simp only [zDL, b_lowest, mDcNew, mDcApp, mFreezeDc, mItDz, mZipDz, mValsDz, mListZip, mExt]
  refine forS (ns.map .int) (fun i ρ c' => c' = c ∧ ∃ s2, ρ = [.sh seq, .sh (.int (gcdL (ns.take i) : Nat)), s2]) (fun P q => by simp only [zDL, mDcNew, mDcApp, mFreezeDc, mItDz, mZipDz, mValsDz, mListZip, mExt]; exact dSeq_it hit q) ⟨rfl, _, rfl⟩ ?_ ?_
  · rintro i d ρ c' hd ⟨rfl, s2, rfl⟩
    obtain ⟨n, hn, rfl⟩ := get_int hd
    simp only [zDL, mDcNew, mDcApp, mFreezeDc, mItDz, mZipDz, mValsDz, mListZip, mExt]
    rw [gcdL_succ hn, Int.natAbs_natCast]
    exact ⟨by trivial, _, rfl⟩
  · rintro ρ c' ⟨rfl, s2, rfl⟩
    rw [List.length_map, List.take_length]
    simp only [zDL, mDcNew, mDcApp, mFreezeDc, mItDz, mZipDz, mValsDz, mListZip, mExt, ok_int, eqv_int, and_self, true_and]
    unfold lowL at h
    by_cases e : gcdL ns = 0
    · have e1 : (((gcdL ns : Nat) : Int) == 0) = true := by rw [e]; rfl
      rw [if_pos e] at h
      simp only [zDL, e1, if_true, mDcNew, mDcApp, mFreezeDc, mItDz, mZipDz, mValsDz, mListZip, mExt]
      rcases hseq with rfl | rfl <;> exact h
    · have e1 : (((gcdL ns : Nat) : Int) == 0) = false := by simp; exact e
      rw [if_neg e] at h
      simp only [zDL, e1, Bool.false_eq_true, if_false, mDcNew, mDcApp, mFreezeDc, mItDz, mZipDz, mValsDz, mListZip, mExt]
      refine lcS (ns.map .int) (fun d => .int ((intOf d).fdiv (gcdL ns : Nat))) (fun P q => by simp only [zDL, mDcNew, mDcApp, mFreezeDc, mItDz, mZipDz, mValsDz, mListZip, mExt]; exact dSeq_it hit q) (by rw [List.length_map]; omega) (fun d hd post hq => ?_) ?_
      · obtain ⟨n, _, rfl⟩ := List.mem_map.mp hd
        simp only [zDL, mDcNew, mDcApp, mFreezeDc, mItDz, mZipDz, mValsDz, mListZip, mExt, wipeR]
        refine ⟨⟨by omega, ?_⟩, hq⟩
        rw [Int.natAbs_natCast]
        exact Nat.lt_of_lt_of_le (log2_of_lt (gcdL_lt (Nat.two_pow_pos 8000) hb) (by decide)) (by decide)
      · rw [List.map_map] at h ⊢
        exact h
theorem dTup_lst {l : List D} {Q : D → Prop} (q : Q (.tup l)) : dTuple [.lst l] Q := q
theorem lowL_len (ns : List Int) : (lowL ns).length = ns.length := by unfold lowL; split <;> simp
theorem okL_rowsD (n : Nat) (rows : List (List Int)) : D.ok (n + 2) (.lst (rowsD rows)) = true := by
  rw [ok_lst]
  refine okL_all fun d hd => ?_
  unfold rowsD at hd
  obtain ⟨r, _, rfl⟩ := List.mem_map.mp hd
  rw [ok_lst]; exact okL_ints _ _
theorem gcdF_dvd : ∀ (ns : List Int) (g : Nat), gcdF g ns ∣ g ∧ ∀ n ∈ ns, ((gcdF g ns : Nat) : Int) ∣ n
  | [], g => ⟨Nat.dvd_refl _, by simp⟩
  | n :: ns, g => by
    obtain ⟨h1, h2⟩ := gcdF_dvd ns (Nat.gcd g n.natAbs)
    refine ⟨Nat.dvd_trans h1 (Nat.gcd_dvd_left _ _), fun x hx => ?_⟩
    rcases List.mem_cons.mp hx with rfl | hx
    · exact Int.natAbs_dvd_natAbs.mp (by rw [Int.natAbs_natCast]; exact Nat.dvd_trans h1 (Nat.gcd_dvd_right _ _))
    · exact h2 x hx
theorem gcdR_dvd' : ∀ (rows : List (List Int)) (g : Nat), rows.foldl gcdF g ∣ g ∧ ∀ r ∈ rows, ∀ n ∈ r, ((rows.foldl gcdF g : Nat) : Int) ∣ n
  | [], g => ⟨Nat.dvd_refl _, by simp⟩
  | r :: rows, g => by
    obtain ⟨a, b⟩ := gcdF_dvd r g
    obtain ⟨h1, h2⟩ := gcdR_dvd' rows (gcdF g r)
    refine ⟨Nat.dvd_trans h1 a, fun x hx n hn => ?_⟩
    rcases List.mem_cons.mp hx with rfl | hx
    · exact Int.dvd_trans (Int.natCast_dvd_natCast.mpr h1) (b n hn)
    · exact h2 x hx n hn
theorem gcdR_dvd (u : Int) (rows : List (List Int)) : ((gcdR u rows : Nat) : Int) ∣ u ∧ ∀ r ∈ rows, ∀ n ∈ r, ((gcdR u rows : Nat) : Int) ∣ n := by
  obtain ⟨a, b⟩ := gcdR_dvd' rows u.natAbs
  exact ⟨Int.natAbs_dvd_natAbs.mp (by rw [Int.natAbs_natCast]; exact a), b⟩
theorem low1_mul {u : Int} (hu : 1 ≤ u) (rows : List (List Int)) : u = (gcdR u rows : Int) * low1 u rows ∧ 1 ≤ low1 u rows := by
  obtain ⟨⟨x, hx⟩, _⟩ := gcdR_dvd u rows
  have hg := (gcdR_le hu rows).1
  have e : low1 u rows = x := by
    unfold low1
    generalize gcdR u rows = g at *
    rw [hx, Int.mul_fdiv_cancel_left _ (by omega)]
  rw [e]
  refine ⟨hx, ?_⟩
  by_cases z : 1 ≤ x
  · exact z
  · have := Int.mul_nonpos_of_nonneg_of_nonpos (by omega : (0 : Int) ≤ (gcdR u rows : Int)) (by omega : x ≤ 0)
    omega
theorem div_mul {g : Nat} {n : Int} (hg : 0 < g) (h : (g : Int) ∣ n) : n = (g : Int) * n.fdiv g := by
  obtain ⟨x, rfl⟩ := h
  rw [Int.mul_fdiv_cancel_left _ (by omega)]
theorem sum_mul (g : Int) : ∀ l : List Int, (l.map fun n => g * n).sum = g * l.sum
  | [] => by simp
  | a :: l => by rw [List.map_cons, List.sum_cons, List.sum_cons, sum_mul g l, Int.mul_add]
theorem low_rows {u : Int} {rows : List (List Int)} {s m : Nat} (R : RowsOk u rows s m) : RowsOk (low1 u rows) (low2 u rows) s m := by
  have hg := (gcdR_le R.hu rows).1
  obtain ⟨e1, e2⟩ := low1_mul R.hu rows
  obtain ⟨d1, d2⟩ := gcdR_dvd u rows
  have hle : low1 u rows ≤ u := by
    have : 1 * low1 u rows ≤ (gcdR u rows : Int) * low1 u rows := Int.mul_le_mul_of_nonneg_right (by omega) (by omega)
    omega
  refine ⟨e2, R.hs.le (by omega) hle, R.s1, R.s4, R.m1, R.m64, by rw [low2_len]; exact R.len, fun r hr => ?_⟩
  unfold low2 divR at hr
  obtain ⟨r0, h0, rfl⟩ := List.mem_map.mp hr
  obtain ⟨y1, y2, y3⟩ := R.row r0 h0
  refine ⟨by rw [List.length_map]; exact y1, ?_, fun x hx => ?_⟩
  · have e : r0 = (r0.map fun n => n.fdiv (gcdR u rows)).map fun n => (gcdR u rows : Int) * n := by
      rw [List.map_map]
      conv => lhs; rw [← List.map_id r0]
      apply List.map_congr_left
      intro n hn
      exact div_mul hg (d2 r0 h0 n hn)
    have e3 : (gcdR u rows : Int) * (r0.map fun n => n.fdiv (gcdR u rows)).sum = u := by rw [← sum_mul, ← e, y2]
    exact Int.eq_of_mul_eq_mul_left (by omega) (e3.trans e1)
  · obtain ⟨n, hn, rfl⟩ := List.mem_map.mp hx
    have h1 := y3 n hn
    have h2 := div_mul hg (d2 r0 h0 n hn)
    by_cases z : 0 ≤ n.fdiv (gcdR u rows)
    · exact z
    · have := Int.mul_neg_of_pos_of_neg (by omega : (0 : Int) < (gcdR u rows : Int)) (by omega : n.fdiv (gcdR u rows) < 0)
      omega
theorem sum_nn : ∀ {l : List Int}, (∀ x ∈ l, 0 ≤ x) → 0 ≤ l.sum
  | [], _ => by simp
  | a :: l, h => by
    have h1 := h a (by simp)
    have h2 := sum_nn (l := l) fun x hx => h x (by simp [hx])
    rw [List.sum_cons]; omega
theorem sum_getD (r : List Int) : ((List.range r.length).map fun k => r.getD k 0).sum = r.sum := by
  congr 1
  apply List.ext_getElem
  · simp
  · intro i h1 h2
    simp [List.getD_eq_getElem?_getD, List.getElem?_eq_getElem h2]
/-- what is left of a comprehension once its items are known -/
def LcOk (tg : DG) (mt : DT) (me : DE) (vs : List Nat) (xe : XP) (ρ : Ro) (Q : List D → Nat → Prop) (ds : List D) (c1 : Nat) : Prop := ds.length ≤ 1000000 ∧ ∃ I : Nat → List D → Nat → Prop, I 0 [] c1 ∧
  (∀ i d acc c, ds[i]? = some d → I i acc c → tg d (wipeR ρ vs) fun ρ' => mt xe ρ' c fun b c1 => if b = true then me xe ρ' c1 fun x c2 => I (i + 1) (acc ++ [x]) c2 else I (i + 1) acc c1) ∧ ∀ acc c, I ds.length acc c → Q acc c
theorem lc_it {mi : DL} {tg : DG} {mt : DT} {me : DE} {vs : List Nat} {xe : XP} {ρ : Ro} {c : Nat} {Q : List D → Nat → Prop} (h : mi xe ρ c (LcOk tg mt me vs xe ρ Q)) : mLc mi tg mt me vs xe ρ c Q := h
theorem LcOk.map {tg : DG} {me : DE} {vs : List Nat} {xe : XP} {ρ : Ro} {Q : List D → Nat → Prop} {ds : List D} {c : Nat} (f : D → D) (hl : ds.length ≤ 1000000)
    (h : ∀ d ∈ ds, ∀ post : D → Nat → Prop, post (f d) c → tg d (wipeR ρ vs) fun ρ' => me xe ρ' c post) (hq : Q (ds.map f) c) : LcOk tg mYes me vs xe ρ Q ds c := lc_map f hl h hq
theorem LcOk.draw {tg : DG} {me : DE} {vs : List Nat} {xe : XP} {ρ : Ro} {Q : List D → Nat → Prop} {ds : List D} {c : Nat} (k : Nat) (P : D → Prop) (hl : ds.length ≤ 1000000)
    (h : ∀ d ∈ ds, ∀ c', c' ≤ c + k * ds.length → ∀ post : D → Nat → Prop, (∀ x c2, P x → c2 ≤ c' + k → post x c2) → tg d (wipeR ρ vs) fun ρ' => me xe ρ' c' post)
    (hq : ∀ l c', l.length = ds.length → (∀ x ∈ l, P x) → c' ≤ c + k * ds.length → Q l c') : LcOk tg mYes me vs xe ρ Q ds c := lc_draw (k := k) P hl h hq
/-- items that a test picks -/
theorem LcOk.filter {tg : DG} {mt : DT} {me : DE} {vs : List Nat} {xe : XP} {ρ : Ro} {Q : List D → Nat → Prop} {ds : List D} {c : Nat} (p : D → Bool) (f : D → D) (hl : ds.length ≤ 1000000)
    (h : ∀ d ∈ ds, ∀ post : Bool → D → Nat → Prop, (p d = true → post true (f d) c) → (p d = false → post false .non c) → tg d (wipeR ρ vs) fun ρ' => mt xe ρ' c fun b c1 => if b = true then me xe ρ' c1 fun x c2 => post true x c2 else post false .non c1)
    (hq : Q ((ds.filter p).map f) c) : LcOk tg mt me vs xe ρ Q ds c := by
  refine ⟨hl, fun i acc c' => c' = c ∧ acc = ((ds.take i).filter p).map f, ⟨rfl, by simp⟩, fun i d acc c' hd ⟨h1, h2⟩ => ?_, fun acc c' ⟨h1, h2⟩ => ?_⟩
  · subst h1 h2
    have e : ds.take (i + 1) = ds.take i ++ [d] := by rw [List.take_succ, hd]; rfl
    refine h d (List.mem_of_getElem? hd) (fun b x c2 => if b = true then c2 = c' ∧ ((ds.take i).filter p).map f ++ [x] = ((ds.take (i + 1)).filter p).map f else c2 = c' ∧ ((ds.take i).filter p).map f = ((ds.take (i + 1)).filter p).map f) (fun q => ?_) fun q => ?_
    · rw [if_pos rfl, e, List.filter_append, List.map_append]
      simp [List.filter_cons, q]
    · rw [if_neg (by decide), e, List.filter_append, List.map_append]
      simp [List.filter_cons, q]
  · subst h1 h2
    rw [List.take_length]; exact hq
theorem T.shL_iff {n : Nat} : ∀ {ts : List T}, T.shL n ts = true ↔ ∀ t ∈ ts, T.sh n t = true
  | [] => by simp [T.shL]
  | t :: ts => by
    unfold T.shL
    rw [Bool.and_eq_true, T.shL_iff]
    simp
/-- what is left of a comprehension of trees once its items are known -/
def LtOk (tg : DG) (mt : DTr) (vs : List Nat) (xe : XP) (ρ : Ro) (Q : T → Nat → Prop) (ds : List D) (c1 : Nat) : Prop := ds.length ≤ 1000000 ∧ ∃ I : Nat → List T → Nat → Prop, I 0 [] c1 ∧
  (∀ i d acc c, ds[i]? = some d → I i acc c → tg d (wipeR ρ vs) fun ρ' => mt xe ρ' c fun t c2 => I (i + 1) (acc ++ [t]) c2) ∧ ∀ acc c, I ds.length acc c → ∀ a, Q (.ls a acc) c
theorem LtOk.map {tg : DG} {mt : DTr} {vs : List Nat} {xe : XP} {ρ : Ro} {Q : T → Nat → Prop} {ds : List D} {c : Nat} (n : Nat) (f : D → D) (hl : ds.length ≤ 1000000)
    (h : ∀ d ∈ ds, ∀ post : T → Nat → Prop, (∀ t, T.sh n t = true → t.d = f d → post t c) → tg d (wipeR ρ vs) fun ρ' => mt xe ρ' c post)
    (hq : ∀ a ts, T.shL n ts = true → T.dL ts = ds.map f → Q (.ls a ts) c) : LtOk tg mt vs xe ρ Q ds c := by
  refine ⟨hl, fun i acc c' => c' = c ∧ T.shL n acc = true ∧ T.dL acc = (ds.take i).map f, ⟨rfl, rfl, rfl⟩, fun i d acc c' hd ⟨h1, h2, h3⟩ => ?_, fun acc c' ⟨h1, h2, h3⟩ a => ?_⟩
  · subst h1
    refine h d (List.mem_of_getElem? hd) _ fun t ht hd' => ⟨rfl, ?_, ?_⟩
    · rw [T.shL_iff] at h2 ⊢
      intro x hx
      rcases List.mem_append.mp hx with z | z
      · exact h2 x z
      · rw [List.mem_singleton] at z; rw [z]; exact ht
    · rw [T.dL_map] at h3 ⊢
      rw [List.map_append, h3, List.map_cons, List.map_nil, hd']
      have e : ds.take (i + 1) = ds.take i ++ [d] := by rw [List.take_succ, hd]; rfl
      rw [e, List.map_append]; rfl
  · subst h1
    rw [List.take_length] at h3
    exact hq a acc h2 h3
theorem GarOk.head {u : Int} {rows : List (List Int)} {s m : Nat} (R : GarOk u rows s m) : (rows.headD []).length = m := by
  cases rows with
  | nil => have := R.len; have := R.s1; simp at *; omega
  | cons a b => exact (R.row a List.mem_cons_self).1
theorem GarOk.entry {u : Int} {rows : List (List Int)} {s m : Nat} (R : GarOk u rows s m) {r : List Int} (hr : r ∈ rows) {x : Int} (hx : x ∈ r) : Sm 200 x := by
  obtain ⟨_, h2, h3⟩ := R.row r hr
  exact R.hs.le (h3 x hx) (by rw [← h2]; exact (le_sum hx h3).1)
theorem d_Experiment___eq : ∀ ds c xe rt, fExpEqX xe ds c rt → ds.length = 2 ∧ b_Experiment___eq (fun e _ c' => xe e c') { nx := fun _ c' => rt .non c', rt := rt, rtN := rt } (ro0 ["self", "other"] ds) c := by
  rintro _ c xe rt ⟨u, rows, d, b, rfl, hb, h⟩
  refine ⟨rfl, ?_⟩
  rcases hb with ⟨u2, rows2, rfl, rfl⟩ | ⟨h1, h2, rfl⟩
  · obtain ⟨j1, j2, j3, j4, j5⟩ := lookE u rows
    obtain ⟨i1, i2, i3, i4, i5⟩ := lookE u2 rows2
    simp only [zDL, b_Experiment___eq, expD, mDcNew, mDcApp, mFreezeDc, mItDz, mZipDz, mValsDz, mListZip, mExt, j2, j3, i2, i3]
    refine ⟨by rfl, ?_⟩
    rw [if_pos (by rfl)]
    refine ⟨by decide, by decide, ⟨ok_int _ _, ok_int _ _⟩, ?_⟩
    rw [eqv_int]
    have e : D.eqv (.tup (rowsT rows)) (.tup (rowsT rows2)) = decide (rows = rows2) := by rw [D.eqv]; exact eqvL_rowsT _ _
    by_cases z : u = u2
    · subst z
      rw [if_pos (by simp)]
      refine ⟨by decide, by decide, ⟨by rw [ok_tup]; exact okL_rowsT _ _, by rw [ok_tup]; exact okL_rowsT _ _⟩, ?_⟩
      rw [e]
      simpa using h
    · rw [if_neg (by simpa using z)]
      simpa [z] using h
  · simp only [zDL, b_Experiment___eq, expD, mDcNew, mDcApp, mFreezeDc, mItDz, mZipDz, mValsDz, mListZip, mExt, h1, h2]
    exact ⟨by trivial, h⟩
theorem sum_mul2 (w : Int) (f : Nat → Int) : ∀ l : List Nat, (l.map fun k => w * f k).sum = w * (l.map f).sum
  | [] => by simp
  | a :: l => by rw [List.map_cons, List.map_cons, List.sum_cons, List.sum_cons, sum_mul2 w f l, Int.mul_add]
theorem range_row {r : List Int} {n : Nat} (h : r.length = n) : (List.range n).map (fun k => r.getD k 0) = r := by
  apply List.ext_getElem?
  intro k
  rw [List.getElem?_map]
  by_cases hk : k < n
  · rw [List.getElem?_range hk, (getD_mem (r := r) (k := k) (by omega)).2]
    rfl
  · have z1 : (List.range n)[k]? = none := by rw [List.getElem?_eq_none]; rw [List.length_range]; omega
    have z2 : r[k]? = none := by rw [List.getElem?_eq_none]; omega
    rw [z1, z2]; rfl
/-- a garbling is made of sound rows -/
theorem mk_gar {u : Int} {d : D} {rows : List (List Int)} {rs : List D} {n : Nat} {xe : Err → Nat → Prop} {c : Nat} {rt : List (Str × D) → Nat → Prop} (hd : d = .lst rs ∨ d = .tup rs) (hr : areRows rs rows) (hu : 1 ≤ u) (hs : Sm 8000 u) (h1 : 1 ≤ rows.length) (h4 : rows.length ≤ 1000) (hn : n ≤ 1000000)
    (hrow : ∀ r ∈ rows, r.length = n ∧ r.sum = u ∧ ∀ x ∈ r, 0 ≤ x) (q : rt (garF (low1 u rows) (low2 u rows)) c) : fGarInit xe [.int u, d] c rt := by
  have hm := areRows_map hr
  have hne : rs ≠ [] := fun z => by have := hr.1; rw [z] at this; simp at this; omega
  have hok : okUnit (.int u) = true := by show (true && decide (1 ≤ u)) = true; simpa using hu
  refine ⟨.int u, d, rs, rfl, hd, by rw [hr.1]; exact h4, trivial, hs, fun r hx => ?_, fun z => ?_, fun _ z => absurd z hne, fun _ _ i z => ?_, fun _ _ _ => ?_⟩
  · obtain ⟨a, b⟩ := areRows_mem hr hx
    exact plain2_row a (by rw [(hrow _ b).1]; exact hn)
  · rw [hok] at z; cases z
  · exfalso
    have hl0 : lenD (rs.headD .non) = n := by
      cases rs with
      | nil => exact absurd rfl hne
      | cons a b =>
        obtain ⟨q1, q2⟩ := areRows_mem hr (List.mem_cons_self (a := a) (l := b))
        show lenD a = n
        unfold lenD; rw [isRow_it q1]; simp [(hrow _ q2).1]
    have : badRow u rs = none := first_none fun j x hx => by
      obtain ⟨q1, q2⟩ := areRows_mem hr (mem_of hx)
      obtain ⟨y1, y2, y3⟩ := hrow _ q2
      rw [hl0]
      exact rowOk_int q1 y3 y1 y2
    have z' : badRow u rs = some i := z
    rw [this] at z'; cases z'
  · show rt (garF (low1 u (rs.map rowOf)) (low2 u (rs.map rowOf))) c
    rw [hm]; exact q
theorem rowsD_len' (rows : List (List Int)) : (rowsD rows).length = rows.length := by simp [rowsD]
theorem llow_go {u : Int} {rows : List (List Int)} {s m : Nat} (R : GarOk u rows s m) {xe : Err → Nat → Prop} {c : Nat} {rt : D → Nat → Prop} (q : rt (.lst [.int (low1 u rows), .lst (rowsD (low2 u rows))]) c) : fLLow xe [.int u, .lst (rowsD rows)] c rt := by
  obtain ⟨g1, g2⟩ := gcdR_le R.hu rows
  have hu := R.hu
  refine ⟨u, rows, rfl, ⟨by omega, R.hs.up (by decide), by omega, ?_⟩, ⟨by rw [R.len]; have := R.s64; omega, fun r hr => by rw [(R.row r hr).1]; have := R.m64; omega⟩, q⟩
  have h200 := R.hs
  unfold Sm at h200 ⊢
  rw [Int.natAbs_natCast]
  exact Nat.lt_of_le_of_lt g2 (Nat.lt_of_lt_of_le h200 (Nat.pow_le_pow_right (by decide) (by decide)))
theorem d_law_shows : ∀ ds c xe rt, fShows xe ds c rt → ds.length = 2 ∧ b_law_shows (fun _ _ _ => False) { nx := fun _ c' => rt .non c', rt := rt, rtN := rt } (ro0 ["_law_thing", "_law_table_here", "_law_unit", "_law_rows_here"] ds) c := by
  rintro _ c xe rt ⟨u, rows, s, m, rfl, R, h⟩
  refine ⟨rfl, ?_⟩
  obtain ⟨j1, j2, j3, j4, j5⟩ := lookE (low1 u rows) (low2 u rows)
  simp only [zDL, b_law_shows, tblD, expD, mDcNew, mDcApp, mFreezeDc, mItDz, mZipDz, mValsDz, mListZip, mExt, j1, j2]
  refine dIx_it (k := 0) rfl rfl (dIx_it (k := 1) rfl rfl (llow_go R ?_))
  dsimp only
  refine ⟨rfl, by decide, ⟨ok_int _ _, ok_int _ _⟩, ?_⟩
  rw [eqv_int]
  simp only [beq_self_eq_true, if_true]
  refine ⟨⟨trivial, trivial⟩, _, _, rfl, by rw [low2_len, R.len]; have := R.s64; omega, ⟨okL_rowsD 58 _, okL_rowsD 58 _⟩, ?_⟩
  rw [eqv_refl 60 _ (okL_rowsD 58 _)]
  exact h
theorem gcdF_scale (k : Nat) : ∀ (ns : List Int) (g : Nat), gcdF (k * g) (ns.map fun n => (k : Int) * n) = k * gcdF g ns
  | [], g => rfl
  | n :: ns, g => by
    show gcdF (Nat.gcd (k * g) ((k : Int) * n).natAbs) (ns.map fun n => (k : Int) * n) = k * gcdF (Nat.gcd g n.natAbs) ns
    rw [Int.natAbs_mul, Int.natAbs_natCast, Nat.gcd_mul_left]
    exact gcdF_scale k ns _
theorem gcdR_scale' (k : Nat) : ∀ (rows : List (List Int)) (g : Nat), (rows.map fun r => r.map fun n => (k : Int) * n).foldl gcdF (k * g) = k * rows.foldl gcdF g
  | [], g => rfl
  | r :: rows, g => by
    show (rows.map fun r => r.map fun n => (k : Int) * n).foldl gcdF (gcdF (k * g) (r.map fun n => (k : Int) * n)) = _
    rw [gcdF_scale, gcdR_scale' k rows]
    rfl
theorem low_scale {k : Nat} (hk : 0 < k) (u : Int) (rows : List (List Int)) : low1 ((k : Int) * u) (rows.map fun r => r.map fun n => (k : Int) * n) = low1 u rows ∧ low2 ((k : Int) * u) (rows.map fun r => r.map fun n => (k : Int) * n) = low2 u rows := by
  have e : gcdR ((k : Int) * u) (rows.map fun r => r.map fun n => (k : Int) * n) = k * gcdR u rows := by
    unfold gcdR
    rw [Int.natAbs_mul, Int.natAbs_natCast]
    exact gcdR_scale' k rows _
  have f : ∀ n : Int, ((k : Int) * n).fdiv ((k * gcdR u rows : Nat) : Int) = n.fdiv (gcdR u rows : Nat) := fun n => by
    rw [Int.natCast_mul]
    exact Int.mul_fdiv_mul_of_pos _ _ (by omega)
  unfold low1 low2 divR
  rw [e]
  refine ⟨f u, ?_⟩
  rw [List.map_map]
  apply List.map_congr_left
  intro r _
  show (r.map fun n => (k : Int) * n).map _ = _
  rw [List.map_map]
  apply List.map_congr_left
  intro n _
  exact f n

theorem rows_mul {u : Int} (hu : 1 ≤ u) (rows : List (List Int)) : rows = (low2 u rows).map fun r => r.map fun n => (gcdR u rows : Int) * n := by
  have hg := (gcdR_le hu rows).1
  obtain ⟨d1, d2⟩ := gcdR_dvd u rows
  unfold low2 divR
  rw [List.map_map]
  conv => lhs; rw [← List.map_id rows]
  apply List.map_congr_left
  intro r hr
  show r = (r.map fun n => n.fdiv (gcdR u rows)).map fun n => (gcdR u rows : Int) * n
  rw [List.map_map]
  conv => lhs; rw [← List.map_id r]
  apply List.map_congr_left
  intro n hn
  exact div_mul hg (d2 r hr n hn)
theorem RowsOk.gar {u : Int} {rows : List (List Int)} {s m : Nat} (R : RowsOk u rows s m) : GarOk u rows s m := ⟨R.hu, R.hs, R.len, R.s1, by have := R.s4; omega, R.m1, R.m64, R.row⟩
theorem RowsOk.make2 {u : Int} {rows : List (List Int)} {s m : Nat} (R : RowsOk u rows s m) {xe : Err → Nat → Prop} {c : Nat} {rt : List (Str × D) → Nat → Prop} (q : rt (expF (low1 u rows) (low2 u rows)) c) : fExpInit xe [.int u, .lst (rowsD rows)] c rt :=
  mk_exp (n := m) (.inl rfl) (areRows_lst _) R.hu (R.hs.up (by decide)) (by rw [R.len]; exact R.s1) (by rw [R.len]; exact R.s4) (by have := R.m64; omega) R.row q
theorem GarOk.make {u : Int} {rows : List (List Int)} {s m : Nat} (R : GarOk u rows s m) {xe : Err → Nat → Prop} {c : Nat} {rt : List (Str × D) → Nat → Prop} (q : rt (garF (low1 u rows) (low2 u rows)) c) : fGarInit xe [.int u, .lst (rowsD rows)] c rt :=
  mk_gar (n := m) (.inl rfl) (areRows_lst _) R.hu (R.hs.up (by decide)) (by rw [R.len]; exact R.s1) (by rw [R.len]; have := R.s64; omega) (by have := R.m64; omega) R.row q
theorem sm_small {u : Int} (h0 : 0 ≤ u) (h : u ≤ 100000) : Sm 200 u := by
  unfold Sm
  exact Nat.lt_of_lt_of_le (show u.natAbs < 2 ^ 20 by omega) (Nat.pow_le_pow_right (by decide) (by decide))
section
variable {rt : D → Nat → Prop}
end
theorem sum_setO : ∀ {l : List Int} {i : Nat} (x : Int), i < l.length → (l.set i x).sum + l.getD i 0 = l.sum + x
  | [], _, _, h => absurd h (Nat.not_lt_zero _)
  | a :: l, 0, x, _ => by show x + l.sum + a = a + l.sum + x; omega
  | a :: l, i + 1, x, h => by
    have ih := sum_setO (l := l) (i := i) x (Nat.lt_of_succ_lt_succ h)
    show a + (l.set i x).sum + l.getD i 0 = a + l.sum + x
    omega
/-- a list in another order, as far as sums tell -/
structure Ord (m : Nat) (l : List D) : Prop where
  len : l.length = m
  mem : ∀ x ∈ l, ∃ i : Nat, i < m ∧ x = .int i
  sum : ∀ f : D → Int, (l.map f).sum = ((rng 0 m).map f).sum
theorem Ord.start (m : Nat) : Ord m (Dm.rng 0 m) := ⟨rng_len 0 m, fun x hx => rng_mem hx, fun _ => rfl⟩
theorem Ord.swap {m : Nat} {l : List D} (h : Ord m l) {i j : Nat} {a b : D} (ha : l[i]? = some a) (hb : l[j]? = some b) : Ord m ((l.set i b).set j a) := by
  have hi := (List.getElem?_eq_some_iff.mp ha).1
  have hj := (List.getElem?_eq_some_iff.mp hb).1
  refine ⟨by rw [List.length_set, List.length_set]; exact h.len, fun x hx => ?_, fun f => ?_⟩
  · rcases List.mem_or_eq_of_mem_set hx with q | rfl
    · rcases List.mem_or_eq_of_mem_set q with q | rfl
      · exact h.mem x q
      · exact h.mem _ (List.mem_of_getElem? hb)
    · exact h.mem _ (List.mem_of_getElem? ha)
  · rw [← h.sum f]
    have e1 := sum_setO (l := l.map f) (i := i) (f b) (by rw [List.length_map]; exact hi)
    have e2 := sum_setO (l := (l.map f).set i (f b)) (i := j) (f a) (by rw [List.length_set, List.length_map]; exact hj)
    rw [List.map_set, List.map_set]
    have ga : (l.map f).getD i 0 = f a := by rw [List.getD_eq_getElem?_getD, List.getElem?_map, ha]; rfl
    have gb : ((l.map f).set i (f b)).getD j 0 = f b := by
      rw [List.getD_eq_getElem?_getD]
      by_cases z : i = j
      · subst z
        rw [List.getElem?_set_self (by rw [List.length_map]; exact hi)]; rfl
      · rw [List.getElem?_set_ne z, List.getElem?_map, hb]; rfl
    rw [ga] at e1
    rw [gb] at e2
    omega
/-- the columns of a row in that order -/
def ordR (l : List D) (r : List Int) : List Int := l.map fun d => r.getD (intOf d).toNat 0
theorem range_getD (r : List Int) : (List.range r.length).map (fun i => r.getD i 0) = r := by
  apply List.ext_getElem
  · simp
  · intro i h1 h2
    rw [List.getElem_map, List.getElem_range, List.getD_eq_getElem?_getD, List.getElem?_eq_getElem h2]; rfl
theorem Ord.row {m : Nat} {l : List D} (h : Ord m l) {r : List Int} (hr : r.length = m) : (ordR l r).length = m ∧ (ordR l r).sum = r.sum ∧ ∀ x ∈ ordR l r, x ∈ r := by
  refine ⟨by unfold ordR; rw [List.length_map]; exact h.len, ?_, fun x hx => ?_⟩
  · unfold ordR
    rw [h.sum]
    have e : ((rng 0 m).map fun d => r.getD (intOf d).toNat 0) = r := by
      have := range_getD r
      rw [hr] at this
      unfold rng
      rw [List.map_map]
      refine Eq.trans (List.map_congr_left fun i _ => ?_) this
      show r.getD (intOf (.int (0 + (i : Int)))).toNat 0 = _
      have : (intOf (.int (0 + (i : Int)))).toNat = i := by show (0 + (i : Int)).toNat = i; omega
      rw [this]
    rw [e]
  · obtain ⟨d, hd, rfl⟩ := List.mem_map.mp hx
    obtain ⟨i, hi, rfl⟩ := h.mem d hd
    have : (intOf (.int (i : Int))).toNat = i := Int.toNat_natCast i
    rw [this]
    exact (getD_mem (by omega)).1
theorem d_check_same_states : ∀ ds c xe rt, fSame xe ds c rt → ds.length = 2 ∧ b_check_same_states (fun e _ c' => xe e c') { nx := fun _ c' => rt .non c', rt := rt, rtN := rt } (ro0 ["one", "other"] ds) c := by
  rintro _ c xe rt ⟨n1, f1, n2, f2, a, b, rfl, h1, h2, l1, l2, e0, h⟩
  refine ⟨rfl, ?_⟩
  simp only [zDL, b_check_same_states, mDcNew, mDcApp, mFreezeDc, mItDz, mZipDz, mValsDz, mListZip, mExt, h1, h2, l1, l2]
  refine ⟨trivial, trivial, ⟨ok_int _ _, ok_int _ _⟩, ?_⟩
  rw [eqv_int]
  by_cases z : a = b
  · have e : (a == b) = true := by simpa using z
    rw [e]; exact h z
  · have e : (a == b) = false := by simpa using z
    rw [e]; exact e0 z
theorem get_rat {rs : List (Int × Int)} {i : Nat} {d : D} (h : (ratsD rs)[i]? = some d) : ∃ r, rs[i]? = some r ∧ d = .tup [.int r.1, .int r.2] := by
  unfold ratsD at h
  rw [List.getElem?_map] at h
  cases e : rs[i]? with
  | none => rw [e] at h; cases h
  | some n => rw [e] at h; exact ⟨n, rfl, (Option.some.inj h).symm⟩
theorem lcmL_succ {rs : List (Int × Int)} {i : Nat} {r : Int × Int} (h : rs[i]? = some r) : lcmL (rs.take (i + 1)) = lcmF (lcmL (rs.take i)) r := by
  unfold lcmL
  rw [List.take_add_one, h, List.foldl_append]
  rfl
theorem lcm_bound : ∀ (rs : List (Int × Int)) (u : Int) (k : Nat), 0 < u → u.natAbs < 2 ^ k → (∀ r ∈ rs, 0 < r.2 ∧ r.2 < 2 ^ 40) → 0 < rs.foldl lcmF u ∧ (rs.foldl lcmF u).natAbs < 2 ^ (k + 40 * rs.length)
  | [], u, k, h0, h1, _ => ⟨h0, by simpa using h1⟩
  | r :: rs, u, k, h0, h1, h2 => by
    obtain ⟨r0, r1⟩ := h2 r List.mem_cons_self
    have p : 0 < Nat.lcm u.natAbs r.2.natAbs := Nat.lcm_pos (by omega) (by omega)
    have hle : Nat.lcm u.natAbs r.2.natAbs ≤ u.natAbs * r.2.natAbs := Nat.div_le_self _ _
    have hlt : Nat.lcm u.natAbs r.2.natAbs < 2 ^ (k + 40) := by
      refine Nat.lt_of_le_of_lt hle ?_
      rw [Nat.pow_add]
      exact Nat.mul_lt_mul'' h1 (by omega)
    obtain ⟨a, b⟩ := lcm_bound rs (lcmF u r) (k + 40) (by unfold lcmF; omega) (by unfold lcmF; rw [Int.natAbs_natCast]; exact hlt) fun q hq => h2 q (List.mem_cons_of_mem _ hq)
    refine ⟨a, ?_⟩
    have e : k + 40 * (r :: rs).length = k + 40 + 40 * rs.length := by rw [List.length_cons]; omega
    rw [e]
    exact b
theorem lcmL_bound {rs : List (Int × Int)} (h : Small rs) (i : Nat) : 0 < lcmL (rs.take i) ∧ (lcmL (rs.take i)).natAbs < 2 ^ 300 := by
  obtain ⟨a, b⟩ := lcm_bound (rs.take i) 1 1 (by decide) (by decide) fun r hr => (h.2 r (List.mem_of_mem_take hr)).2
  refine ⟨a, Nat.lt_of_lt_of_le b (Nat.pow_le_pow_right (by decide) ?_)⟩
  have := h.1
  have : (rs.take i).length ≤ 6 := by rw [List.length_take]; omega
  omega
theorem lcmL_bound' {rs : List (Int × Int)} (h : Small rs) : 0 < lcmL rs ∧ (lcmL rs).natAbs < 2 ^ 300 := by
  have := lcmL_bound h rs.length
  rwa [List.take_length] at this
theorem fdiv_small {u b : Int} {k : Nat} (hu : 0 < u) (hk : u.natAbs < 2 ^ k) (hb : 0 < b) : (u.fdiv b).natAbs < 2 ^ k := by
  rw [Int.fdiv_eq_ediv_of_nonneg _ (by omega)]
  have h1 : 0 ≤ u / b := Int.ediv_nonneg (by omega) (by omega)
  have h2 : u / b ≤ u := Int.ediv_le_self _ (by omega)
  omega
theorem tops_ok {rs : List (Int × Int)} (h : Small rs) {r : Int × Int} (hr : r ∈ rs) : CDivG (lcmL rs) r.2 ∧ CMulW r.1 ((lcmL rs).fdiv r.2) := by
  obtain ⟨b0, b1⟩ := lcmL_bound' h
  obtain ⟨r0, r1, r2⟩ := h.2 r hr
  refine ⟨⟨by omega, Nat.lt_of_lt_of_le (log2_of_lt (k := 40) (by omega) (by decide)) (by decide)⟩, mulw (k := 40) (l := 300) r0 (fdiv_small b0 b1 r1) (by decide) (by decide) (by decide)⟩
theorem d_common : ∀ ds c xe rt, fCommon xe ds c rt → ds.length = 1 ∧ b_common (fun _ _ _ => False) { nx := fun _ c' => rt .non c', rt := rt, rtN := rt } (ro0 ["ratios", "unit", "_", "bottom", "top"] ds) c := by
  rintro ds c xe rt ⟨rs, hds, hs, h⟩
  obtain ⟨seq, rfl, hseq⟩ : ∃ seq, ds = [seq] ∧ (seq = .lst (ratsD rs) ∨ seq = .tup (ratsD rs)) := by
    rcases hds with rfl | rfl
    · exact ⟨_, rfl, .inl rfl⟩
    · exact ⟨_, rfl, .inr rfl⟩
  refine ⟨rfl, ?_⟩
  have len : (ratsD rs).length = rs.length := List.length_map _
  simp only [zDL, b_common, mDcNew, mDcApp, mFreezeDc, mItDz, mZipDz, mValsDz, mListZip, mExt]
  refine dSeq_of hseq ?_
  refine ⟨fun i ρ c' => c' = c ∧ ∃ s2 s3 s4, ρ = [.sh seq, .sh (.int (lcmL (rs.take i))), s2, s3, s4], ⟨rfl, _, _, _, rfl⟩, ?_, ?_⟩
  · rintro i d ρ c' hd ⟨rfl, s2, s3, s4, rfl⟩
    obtain ⟨r, hr, rfl⟩ := get_rat hd
    obtain ⟨b0, b1⟩ := lcmL_bound hs i
    obtain ⟨r0, r1, r2⟩ := hs.2 r (List.mem_of_getElem? hr)
    simp only [zDL, mDcNew, mDcApp, mFreezeDc, mItDz, mZipDz, mValsDz, mListZip, mExt]
    refine ⟨by trivial, ⟨Nat.lt_of_lt_of_le b1 (Nat.pow_le_pow_right (by decide) (by decide)), Nat.lt_of_lt_of_le (by omega : r.2.natAbs < 2 ^ 40) (Nat.pow_le_pow_right (by decide) (by decide))⟩, by trivial, _, _, _, by rw [lcmL_succ hr]; rfl⟩
  · rintro ρ c' ⟨rfl, s2, s3, s4, rfl⟩
    rw [len, List.take_length]
    simp only [zDL, mDcNew, mDcApp, mFreezeDc, mItDz, mZipDz, mValsDz, mListZip, mExt]
    refine lcS (ratsD rs) (fun d => match d with | .tup [.int t, .int b] => .int (t * (lcmL rs).fdiv b) | _ => .non) (fun P q => by simp only [zDL, mItS, mDcNew, mDcApp, mFreezeDc, mItDz, mZipDz, mValsDz, mListZip, mExt]; exact dSeq_of hseq q) (by rw [len]; exact Nat.le_trans hs.1 (by decide)) (fun d hd post hp => ?_) ?_
    · obtain ⟨i, hi⟩ := List.getElem?_of_mem hd
      obtain ⟨r, hr, rfl⟩ := get_rat hi
      obtain ⟨q1, q2⟩ := tops_ok hs (List.mem_of_getElem? hr)
      simp only [zDL, wipeR, mDcNew, mDcApp, mFreezeDc, mItDz, mZipDz, mValsDz, mListZip, mExt]
      exact ⟨by trivial, q1, q2, hp⟩
    · refine ⟨by decide, ?_⟩
      have e : (ratsD rs).map (fun d => match d with | .tup [.int t, .int b] => D.int (t * (lcmL rs).fdiv b) | _ => .non) = topsL rs := by
        unfold ratsD topsL
        rw [List.map_map]
        rfl
      rw [e]
      exact h
/-- a comprehension without a test, whose answer is given item by item -/
theorem lcN {mi : DL} {tg : DG} {me : DE} {xe : XP} {ρ : Ro} {vs : List Nat} {c : Nat} {Q : List D → Nat → Prop} (l g : List D) (hg : g.length = l.length) (hi : ∀ P : List D → Nat → Prop, P l c → mi xe ρ c P) (hl : l.length ≤ 1000000)
    (h : ∀ (i : Nat) (d y : D), l[i]? = some d → g[i]? = some y → ∀ post : D → Nat → Prop, post y c → tg d (wipeR ρ vs) fun ρ' => me xe ρ' c post) (hq : Q g c) : mLc mi tg mYes me vs xe ρ c Q := by
  refine hi _ ⟨hl, fun i acc c' => c' = c ∧ acc = g.take i, ⟨rfl, rfl⟩, fun i d acc c' hd ⟨h1, h2⟩ => ?_, fun acc c' ⟨h1, h2⟩ => ?_⟩
  · subst h1 h2
    have hil : i < g.length := by rw [hg]; exact (List.getElem?_eq_some_iff.mp hd).1
    have hy : g[i]? = some g[i] := List.getElem?_eq_getElem hil
    refine h i d g[i] hd hy _ ⟨rfl, ?_⟩
    rw [List.take_add_one, hy]; rfl
  · subst h1 h2
    rw [← hg, List.take_length]; exact hq
theorem get_mapS {α β : Type} {f : α → β} {l : List α} {i : Nat} {y : β} (h : (l.map f)[i]? = some y) : ∃ x, l[i]? = some x ∧ y = f x := by
  rw [List.getElem?_map] at h
  cases q : l[i]? with
  | none => rw [q] at h; cases h
  | some x => rw [q] at h; exact ⟨x, rfl, (Option.some.inj h).symm⟩
theorem zips_getS {ds : List D} {n i : Nat} {x : D} (h : (zipsD n ds)[i]? = some x) : i < n ∧ x = .tup (ds.map fun d => ((seqD d).getD []).getD i .non) := by
  unfold zipsD at h
  obtain ⟨j, h1, h2⟩ := get_mapS h
  have hj : j < n := by
    have := List.mem_of_getElem? h1
    simpa using this
  have : i = j := by
    have hi := (List.getElem?_eq_some_iff.mp h1).1
    rw [List.length_range] at hi
    rw [List.getElem?_range hi] at h1
    exact Option.some.inj h1
  subst this
  exact ⟨hj, h2⟩
theorem keysV_snoc (P : En) (p : Nat × List Int) : keysV (P ++ [p]) = keyStep (keysV P) p := by unfold keysV; rw [List.foldl_append]; rfl
theorem sgN_snoc (P : En) (p : Nat × List Int) (k : List Int) : sgN (P ++ [p]) k = sgN P k ++ if posB p && (lowL p.2 == k) then [p.1] else [] := by
  unfold sgN
  rw [List.filter_append, List.map_append]
  congr 1
  rw [List.filter_cons]
  split <;> simp
theorem sgV_snoc (P : En) (p : Nat × List Int) (k : List Int) : sgV (P ++ [p]) k = sgV P k ++ if posB p && (lowL p.2 == k) then [(p.1 : Int)] else [] := by
  unfold sgV
  rw [sgN_snoc, List.map_append]
  congr 1
  split <;> simp
theorem keyStep_mem {ks : List (List Int)} {p : Nat × List Int} {k : List Int} : k ∈ keyStep ks p ↔ k ∈ ks ∨ (posB p = true ∧ k = lowL p.2) := by
  unfold keyStep
  split
  · rename_i h
    rw [Bool.and_eq_true] at h
    rw [List.mem_append, List.mem_singleton]
    exact ⟨fun z => z.imp id fun y => ⟨h.1, y⟩, fun z => z.imp id fun y => y.2⟩
  · rename_i h
    refine ⟨.inl, fun z => z.elim id fun y => ?_⟩
    rw [y.1, Bool.true_and] at h
    have : ks.contains (lowL p.2) = true := by cases q : ks.contains (lowL p.2) with | true => rfl | false => rw [q] at h; exact absurd rfl h
    rw [y.2]; simpa using this
theorem keysV_nodup (P : En) : (keysV P).Nodup := by
  have go : ∀ (P : En) (ks : List (List Int)), ks.Nodup → (P.foldl keyStep ks).Nodup := by
    intro P
    induction P with
    | nil => intro ks h; exact h
    | cons p P ih =>
      intro ks h
      refine ih _ ?_
      unfold keyStep
      split
      · rename_i hh
        rw [Bool.and_eq_true] at hh
        refine List.nodup_append.mpr ⟨h, by simp, fun x hx y hy => ?_⟩
        rw [List.mem_singleton.mp hy]
        intro z
        have : ks.contains (lowL p.2) = true := by simpa using (by rw [← z]; exact hx : lowL p.2 ∈ ks)
        rw [this] at hh; exact absurd hh.2 (by decide)
      · exact h
  exact go P [] List.nodup_nil
theorem keysV_mem {P : En} {k : List Int} : k ∈ keysV P ↔ ∃ p ∈ P, posB p = true ∧ lowL p.2 = k := by
  have go : ∀ (P : En) (ks : List (List Int)), k ∈ P.foldl keyStep ks ↔ k ∈ ks ∨ ∃ p ∈ P, posB p = true ∧ lowL p.2 = k := by
    intro P
    induction P with
    | nil => intro ks; simp
    | cons p P ih =>
      intro ks
      rw [List.foldl_cons, ih, keyStep_mem]
      constructor
      · rintro ((h | ⟨h1, h2⟩) | ⟨q, hq, h⟩)
        · exact .inl h
        · exact .inr ⟨p, by simp, h1, h2.symm⟩
        · exact .inr ⟨q, by simp [hq], h⟩
      · rintro (h | ⟨q, hq, h1, h2⟩)
        · exact .inl (.inl h)
        · rcases List.mem_cons.mp hq with rfl | hq
          · exact .inl (.inr ⟨h1, h2.symm⟩)
          · exact .inr ⟨q, hq, h1, h2⟩
  have := go P []
  unfold keysV
  rw [this]; simp
theorem keysV_len (P : En) : (keysV P).length ≤ P.length := by
  have go : ∀ (P : En) (ks : List (List Int)), (P.foldl keyStep ks).length ≤ ks.length + P.length := by
    intro P
    induction P with
    | nil => intro ks; simp
    | cons p P ih =>
      intro ks
      have h1 := ih (keyStep ks p)
      have h2 : (keyStep ks p).length ≤ ks.length + 1 := by unfold keyStep; split <;> simp
      rw [List.foldl_cons, List.length_cons]; omega
  have := go P []
  rw [List.length_nil, Nat.zero_add] at this
  exact this
theorem map_set_of {α β : Type} {f g : α → β} {ks : List α} {n : Nat} {k : α} (nd : ks.Nodup) (hk : ks[n]? = some k) (h : ∀ x ∈ ks, x ≠ k → g x = f x) : ks.map g = (ks.map f).set n (g k) := by
  apply List.ext_getElem?
  intro i
  rw [List.getElem?_map]
  by_cases e : n = i
  · subst e
    rw [List.getElem?_set_self (by rw [List.length_map]; exact (List.getElem?_eq_some_iff.mp hk).1), hk]; rfl
  · rw [List.getElem?_set_ne e, List.getElem?_map]
    cases q : ks[i]? with
    | none => rfl
    | some x =>
      show some (g x) = some (f x)
      rw [h x (List.mem_of_getElem? q) fun z => e ?_]
      subst z
      exact (List.getElem?_inj (List.getElem?_eq_some_iff.mp hk).1 nd).mp (hk.trans q.symm)
theorem enV_len (cols : List (List Int)) : (enV cols).length = cols.length := by unfold enV; simp
theorem enV_get {cols : List (List Int)} {i : Nat} {c : List Int} (h : cols[i]? = some c) : (enV cols)[i]? = some (i, c) := by
  unfold enV
  have hi := (List.getElem?_eq_some_iff.mp h).1
  rw [List.getElem?_map, List.getElem?_range hi]
  show some (i, cols.getD i []) = _
  rw [List.getD_eq_getElem?_getD, h]; rfl
theorem enV_mem {cols : List (List Int)} {p : Nat × List Int} (h : p ∈ enV cols) : cols[p.1]? = some p.2 := by
  unfold enV at h
  obtain ⟨j, hj, rfl⟩ := List.mem_map.mp h
  have hj : j < cols.length := by simpa using hj
  show cols[j]? = some (cols.getD j [])
  rw [List.getD_eq_getElem?_getD, List.getElem?_eq_getElem hj]; rfl
theorem enV_take {cols : List (List Int)} {i : Nat} {c : List Int} (h : cols[i]? = some c) : (enV cols).take (i + 1) = (enV cols).take i ++ [(i, c)] := by rw [List.take_add_one, enV_get h]; rfl
theorem gcdL_dvd {ns : List Int} {n : Int} (h : n ∈ ns) : ((gcdL ns : Nat) : Int) ∣ n := (gcdF_dvd ns 0).2 n h
theorem lowL_mul {ns : List Int} (h : gcdL ns ≠ 0) : ns = (lowL ns).map fun n => ((gcdL ns : Nat) : Int) * n := by
  unfold lowL
  rw [if_neg h, List.map_map]
  conv => lhs; rw [← List.map_id ns]
  refine List.map_congr_left fun n hn => ?_
  exact div_mul (by omega) (gcdL_dvd hn)
theorem gcdL_pos {ns : List Int} (h : 0 < ns.sum) : gcdL ns ≠ 0 := by
  intro z
  have all : ∀ n ∈ ns, n = 0 := fun n hn => by
    have := gcdL_dvd hn
    rw [z] at this
    simpa using this
  have : ns.sum = 0 := by
    clear h z
    induction ns with
    | nil => rfl
    | cons a l ih => rw [List.sum_cons, all a (by simp), ih fun n hn => all n (by simp [hn])]; rfl
  omega
theorem lowL_sum {ns : List Int} (h : 0 < ns.sum) : ns.sum = ((gcdL ns : Nat) : Int) * (lowL ns).sum ∧ 0 < (lowL ns).sum ∧ (lowL ns).sum ≤ ns.sum ∧ 0 < gcdL ns := by
  have g := gcdL_pos h
  have e : ns.sum = ((gcdL ns : Nat) : Int) * (lowL ns).sum := by conv => lhs; rw [lowL_mul g, sum_mul]
  have gp : (0 : Int) < ((gcdL ns : Nat) : Int) := by omega
  have lp : 0 < (lowL ns).sum := by
    rw [e] at h
    exact Int.pos_of_mul_pos_right h gp
  refine ⟨e, lp, ?_, by omega⟩
  have := Int.mul_le_mul_of_nonneg_right (show (1 : Int) ≤ ((gcdL ns : Nat) : Int) by omega) (Int.le_of_lt lp)
  rw [← e] at this; omega
theorem lowL_nn {ns : List Int} (h : 0 < ns.sum) (hn : ∀ x ∈ ns, 0 ≤ x) : ∀ x ∈ lowL ns, 0 ≤ x := fun x hx => by
  have g := gcdL_pos h
  unfold lowL at hx
  rw [if_neg g] at hx
  obtain ⟨n, hm, rfl⟩ := List.mem_map.mp hx
  exact Int.fdiv_nonneg (hn n hm) (by omega)
theorem lowL_le {ns : List Int} (h : 0 < ns.sum) (hn : ∀ x ∈ ns, 0 ≤ x) : ∀ x ∈ lowL ns, x ≤ ns.sum := fun x hx => by
  have h1 := (lowL_sum h).2.2.1
  have h2 : x ≤ (lowL ns).sum := by
    have nn := lowL_nn h hn
    clear h1 h
    generalize lowL ns = l at *
    induction l with
    | nil => simp at hx
    | cons a l ih =>
      rw [List.sum_cons]
      have ha := nn a (by simp)
      have hs : 0 ≤ l.sum := sum_nn fun y hy => nn y (by simp [hy])
      rcases List.mem_cons.mp hx with rfl | hx
      · omega
      · have := ih hx fun y hy => nn y (by simp [hy]); omega
  omega
theorem d_turned : ∀ ds c xe rt, fTurned xe ds c rt → ds.length = 1 ∧ b_turned (fun _ _ _ => False) { nx := fun _ c' => rt .non c', rt := rt, rtN := rt } (ro0 ["rows", "column"] ds) c := by
  rintro _ c xe rt ⟨rows, m, rfl, hl, hm, hr, h⟩
  refine ⟨rfl, ?_⟩
  simp only [zDL, b_turned, mDcNew, mDcApp, mFreezeDc, mItDz, mZipDz, mValsDz, mListZip, mExt]
  refine lcN (zipsD m (rowsD rows)) (rowsD (turnR m rows)) (by rw [rowsD_len']; unfold turnR zipsD; simp) (fun P q => by
    simp only [zDL, mDcNew, mDcApp, mFreezeDc, mItDz, mZipDz, mValsDz, mListZip, mExt]
    refine ⟨rowsD rows, m, rfl, ⟨⟨fun z => ?_, by rw [rowsD_len']; exact hl.2⟩, fun d hd => ?_⟩, q⟩
    · have := congrArg List.length z; rw [rowsD_len'] at this; simp at this; rw [this] at hl; simp at hl
    · unfold rowsD at hd
      obtain ⟨r, hr', rfl⟩ := List.mem_map.mp hd
      exact ⟨_, rfl, by rw [List.length_map]; exact hr r hr'⟩) (by unfold zipsD; simp; omega) (fun k d y hd hy post hq => ?_) ?_
  · obtain ⟨hk, rfl⟩ := zips_getS hd
    unfold rowsD turnR at hy
    obtain ⟨q, hq1, rfl⟩ := get_mapS hy
    obtain ⟨j, hj, rfl⟩ := get_mapS hq1
    have ej : j = k := by
      have hi := (List.getElem?_eq_some_iff.mp hj).1
      rw [List.length_range] at hi
      rw [List.getElem?_range hi] at hj
      exact (Option.some.inj hj).symm
    subst ej
    simp only [zDL, mDcNew, mDcApp, mFreezeDc, mItDz, mZipDz, mValsDz, mListZip, mExt, wipeR]
    have e : (rowsD rows).map (fun d => ((seqD d).getD []).getD j .non) = (rows.map fun r => r.getD j 0).map D.int := by
      unfold rowsD
      rw [List.map_map, List.map_map]
      refine List.map_congr_left fun r hr' => ?_
      show ((seqD (D.lst (r.map .int))).getD []).getD j .non = .int (r.getD j 0)
      have hjr : j < r.length := by rw [hr r hr']; exact hk
      show (r.map D.int).getD j .non = .int (r.getD j 0)
      rw [List.getD_eq_getElem?_getD, List.getElem?_map, List.getElem?_eq_getElem hjr, List.getD_eq_getElem?_getD, List.getElem?_eq_getElem hjr]; rfl
    rw [e]
    exact hq
  · exact h
theorem ok_cons1 (n : Nat) {d : D} {l : List D} (h1 : D.ok n d = true) (h2 : D.okL n l = true) : D.okL n (d :: l) = true := by
  show (D.ok n d && D.okL n l) = true
  rw [h1, h2]; rfl
theorem okL_all2 {n : Nat} : ∀ {l : List D}, (∀ d ∈ l, D.ok n d = true) → D.okL n l = true
  | [], _ => rfl
  | d :: l, h => ok_cons1 n (h d (by simp)) (okL_all2 fun x hx => h x (by simp [hx]))
theorem ok_intsL (n : Nat) (a : List Int) : D.ok (n + 1) (.lst (a.map .int)) = true := by
  rw [ok_lst]
  exact okL_all2 fun d hd => by obtain ⟨x, _, rfl⟩ := List.mem_map.mp hd; exact ok_int _ _
theorem prD_ok (ks : List (List Int)) (P : En) (k : List Int) : D.ok 60 (prD ks P k) = true := by
  unfold prD
  rw [ok_tup]
  exact okL_all2 fun d hd => by
    simp only [List.mem_cons, List.not_mem_nil, or_false] at hd
    rcases hd with rfl | rfl <;> exact ok_intsL 58 _
theorem pyL_mapS (l : List D) : pyL l = l.map py := by
  induction l with
  | nil => rfl
  | cons d l ih => show py d :: pyL l = _; rw [ih]; rfl
theorem alike_lst (a b : List Int) : PySem.W.alike (py (.lst (a.map .int))) (py (.lst (b.map .int))) = true := by
  show PySem.W.alikeAll (pyL (a.map .int)) (pyL (b.map .int)) = true
  rw [pyL_mapS, pyL_mapS, List.map_map, List.map_map]
  exact PySem.W.alike_ints a b
theorem alike_pair (a b c d : List Int) : PySem.W.alike (py (.tup [.lst (a.map .int), .lst (b.map .int)])) (py (.tup [.lst (c.map .int), .lst (d.map .int)])) = true := by
  show PySem.W.alikeAll [py (.lst (a.map .int)), py (.lst (b.map .int))] [py (.lst (c.map .int)), py (.lst (d.map .int))] = true
  rw [PySem.W.alikeAll, alike_lst, PySem.W.alikeAll, alike_lst]
  simp [PySem.W.alikeAll]
theorem prD_sortOk (ks ks' : List (List Int)) (P : En) (hl : ks'.length ≤ 1000) : sortOk (ks'.map (prD ks P)) := by
  refine ⟨by rw [List.length_map]; omega, fun d hd => ?_, ?_, ?_⟩
  · obtain ⟨k, hk, rfl⟩ := List.mem_map.mp hd
    have := prD_ok ks P k
    exact ⟨this, (lay_of 60 _ this).2⟩
  · rw [List.map_map]
    exact PySem.W.AllAlike.of fun b b' => alike_pair _ _ _ _
  · refine .inl fun d hd => ?_
    rw [List.map_map] at hd
    obtain ⟨k, hk, rfl⟩ := List.mem_map.mp hd
    exact ⟨_, _, rfl⟩
theorem keys_in {cols : List (List Int)} (C : ColsOk cols) {i : Nat} {k : List Int} (h : k ∈ keysV ((enV cols).take i)) : (∃ c ∈ cols, 0 < c.sum ∧ lowL c = k) ∧ 0 < k.sum ∧ k.sum < 2 ^ 40 ∧ k.length ≤ 8 ∧ ∀ x ∈ k, 0 ≤ x ∧ x < 2 ^ 40 := by
  obtain ⟨p, hp, h1, rfl⟩ := keysV_mem.mp h
  have hc := List.mem_of_getElem? (enV_mem (List.mem_of_mem_take hp))
  have hs : 0 < p.2.sum := by unfold posB at h1; simpa using h1
  obtain ⟨cl, cx⟩ := C.col _ hc
  obtain ⟨_, l1, l2, _⟩ := lowL_sum hs
  have bnd : ∀ l : List Int, l.length ≤ 8 → (∀ x ∈ l, 0 ≤ x ∧ x ≤ 1073741824) → l.sum ≤ 1073741824 * l.length := by
    intro l
    induction l with
    | nil => intro _ _; simp
    | cons a l ih =>
      intro h1 h2
      rw [List.sum_cons, List.length_cons]
      have := ih (by simp at h1; omega) fun x hx => h2 x (by simp [hx])
      have := (h2 a (by simp)).2
      omega
  have hb := bnd _ cl cx
  have hb2 : p.2.sum < 2 ^ 40 := by
    have : (1073741824 : Int) * p.2.length ≤ 1073741824 * 8 := by omega
    have : (2 : Int) ^ 40 = 1099511627776 := by decide
    omega
  have nn := fun x hx => (cx x hx).1
  exact ⟨⟨_, hc, hs, rfl⟩, l1, by omega, by rw [lowL_len]; exact cl, fun x hx => ⟨lowL_nn hs nn x hx, by have := lowL_le hs nn x hx; omega⟩⟩
theorem keys_small {cols : List (List Int)} (C : ColsOk cols) : Small ((keysV (enV cols)).map fun k => ((1 : Int), k.sum)) := by
  have := C.k6
  refine ⟨by rw [List.length_map]; omega, fun r hr => ?_⟩
  obtain ⟨k, hk, rfl⟩ := List.mem_map.mp hr
  obtain ⟨_, k1, k2, _⟩ := keys_in (i := (enV cols).length) C (by rw [List.take_length]; exact hk)
  exact ⟨by show (1 : Int).natAbs < 2 ^ 40; decide, k1, k2⟩
theorem app_congr {α : Type} {a b c d : List α} (h : a = b) (g : c = d) : a ++ c = b ++ d := by rw [h, g]
theorem d_groups : ∀ ds c xe rt, fGroups xe ds c rt → ds.length = 1 ∧ b_groups (fun _ _ _ => False) { nx := fun _ c' => rt .non c', rt := rt, rtN := rt } (ro0 ["columns", "groups", "posteriors", "pairs", "signal", "column", "_", "factors", "number", "factor", "group"] ds) c := by
  rintro _ c xe rt ⟨cols, rfl, C, h⟩
  refine ⟨rfl, ?_⟩
  have l6 := C.l24
  have hSm := keys_small C
  have kl := keysV_len (enV cols)
  rw [enV_len] at kl
  have kl' : ∀ i, (keysV ((enV cols).take i)).length ≤ 24 := fun i => by
    have := keysV_len ((enV cols).take i)
    rw [List.length_take, enV_len] at this; omega
  simp only [zDL, b_groups, mDcNew, mDcApp, mFreezeDc, mItDz, mZipDz, mValsDz, mListZip, mExt]
  intro a
  refine forS (enumD (rowsD cols)) (fun i ρ c' => c' = c ∧ ∃ (a : Addr) (bs : List Addr) (s4 s5 : S), ρ = [.sh (.lst (rowsD cols)), .dc a (keysV ((enV cols).take i)) bs ((keysV ((enV cols).take i)).map fun k => (sgV ((enV cols).take i) k).map D.int), .no, .no, s4, s5, .no, .no, .no, .no, .no]) (fun P q => by simp only [zDL, mEnum, mDcNew, mDcApp, mFreezeDc, mItDz, mZipDz, mValsDz, mListZip, mExt]; exact q) ⟨rfl, a, [], _, _, rfl⟩ ?_ ?_
  · rintro i x ρ c' hx ⟨rfl, a, bs, s4, s5, rfl⟩
    obtain ⟨d, hd, rfl⟩ := get_enum hx
    obtain ⟨cl, hc, rfl⟩ := get_mapS (f := fun r : List Int => D.lst (r.map .int)) (by unfold rowsD at hd; exact hd)
    have hcm := List.mem_of_getElem? hc
    obtain ⟨cl8, cx⟩ := C.col _ hcm
    have hi := (List.getElem?_eq_some_iff.mp hc).1
    simp only [zDL, mDcNew, mDcApp, mFreezeDc, mItDz, mZipDz, mValsDz, mListZip, mExt]
    refine ⟨trivial, dSum_it rfl (all_ints _) ?_⟩
    rw [sumD_ints, enV_take hc, keysV_snoc]
    dsimp only
    by_cases hp : 0 < cl.sum
    · have pb : posB (i, cl) = true := by unfold posB; simpa using hp
      rw [if_pos (show decide (0 < cl.sum) = true from by simpa using hp)]
      refine ⟨cl, .inl rfl, by omega, fun n hn => ?_, ?_⟩
      · have := cx n hn
        exact Nat.lt_of_lt_of_le (show n.natAbs < 2 ^ 40 by have : (2 : Nat) ^ 40 = 1099511627776 := by decide
                                                            omega) (Nat.pow_le_pow_right (by decide) (by decide))
      refine dTup_lst ⟨lowL cl, rfl, by have := kl' i; omega, fun n b l hn hb hl => ?_, fun hnk b hb hv => ?_⟩
      · obtain ⟨k, hk, rfl⟩ := get_mapS hl
        rw [hn] at hk
        obtain rfl : lowL cl = k := Option.some.inj hk
        have hin : (keysV ((enV cols).take i)).contains (lowL cl) = true := by simpa using List.mem_of_getElem? hn
        have e1 : keyStep (keysV ((enV cols).take i)) (i, cl) = keysV ((enV cols).take i) := by unfold keyStep; rw [pb, hin]; rfl
        have sl : (sgV ((enV cols).take i) (lowL cl)).length ≤ i := by
          unfold sgV sgN
          rw [List.length_map, List.length_map]
          have := List.length_filter_le (fun p => posB p && (lowL p.2 == lowL cl)) ((enV cols).take i)
          rw [List.length_take] at this; omega
        refine ⟨by rw [List.length_map]; omega, rfl, a, bs, .sh (.int i), .sh (.lst (cl.map .int)), ?_⟩
        rw [e1]
        congr 2
        have E := map_set_of (f := fun k => (sgV ((enV cols).take i) k).map D.int) (g := fun k => (sgV ((enV cols).take i ++ [(i, cl)]) k).map D.int) (keysV_nodup _) hn fun x _ hxk => by
          show (sgV _ x).map D.int = (sgV _ x).map D.int
          rw [sgV_snoc]
          have : (lowL cl == x) = false := by
            cases q : lowL cl == x with
            | false => rfl
            | true => exact absurd (by simpa using q : lowL cl = x).symm hxk
          rw [this]; simp
        have E2 : (sgV ((enV cols).take i ++ [(i, cl)]) (lowL cl)).map D.int = (sgV ((enV cols).take i) (lowL cl)).map D.int ++ [D.int i] := by
          rw [sgV_snoc, pb]
          simp
        rw [E]
        exact congrArg _ (congrArg _ E2.symm)
      · have hin : (keysV ((enV cols).take i)).contains (lowL cl) = false := by simpa using hnk
        have e1 : keyStep (keysV ((enV cols).take i)) (i, cl) = keysV ((enV cols).take i) ++ [lowL cl] := by unfold keyStep; rw [pb, hin]; rfl
        refine ⟨rfl, a, bs ++ [b], .sh (.int i), .sh (.lst (cl.map .int)), ?_⟩
        rw [e1, List.map_append]
        congr 2
        refine congrArg _ (app_congr ?_ ?_)
        · refine List.map_congr_left fun x hx => ?_
          show (sgV _ x).map D.int = (sgV _ x).map D.int
          rw [sgV_snoc]
          have : (lowL cl == x) = false := by
            cases q : lowL cl == x with
            | false => rfl
            | true => exact absurd (by rw [(by simpa using q : lowL cl = x)]; exact hx) hnk
          rw [this]; simp
        · show [[D.int i]] = [(sgV _ _).map D.int]
          rw [sgV_snoc, pb]
          have z : sgV ((enV cols).take i) (lowL cl) = [] := by
            unfold sgV sgN
            rw [List.filter_eq_nil_iff.mpr]
            · rfl
            · intro p hp' hq
              rw [Bool.and_eq_true] at hq
              exact hnk (keysV_mem.mpr ⟨p, hp', hq.1, by simpa using hq.2⟩)
          rw [z]; simp
    · have pb : posB (i, cl) = false := by unfold posB; simpa using hp
      rw [if_neg (show ¬ decide (0 < cl.sum) = true from by simpa using hp)]
      have e1 : keyStep (keysV ((enV cols).take i)) (i, cl) = keysV ((enV cols).take i) := by unfold keyStep; rw [pb]; rfl
      refine ⟨trivial, a, bs, .sh (.int i), .sh (.lst (cl.map .int)), ?_⟩
      rw [e1]
      congr 2
      exact congrArg _ (List.map_congr_left fun x _ => by rw [sgV_snoc, pb]; simp)
  · rintro ρ c' ⟨rfl, a, bs, s4, s5, rfl⟩
    have eT : (enV cols).take (enumD (rowsD cols)).length = enV cols := by rw [enum_len, rowsD_len', ← enV_len cols, List.take_length]
    rw [eT]
    simp only [zDL, mDcNew, mDcApp, mFreezeDc, mItDz, mZipDz, mValsDz, mListZip, mExt]
    refine lcS ((keysV (enV cols)).map keyD) (fun d => match d with | .tup l => rat 1 (sumD l) | _ => .non) (fun P q => by simp only [zDL, mDcNew, mDcApp, mFreezeDc, mItDz, mZipDz, mValsDz, mListZip, mExt]; exact q) (by rw [List.length_map]; omega) (fun d hd post hq => ?_) ?_
    · obtain ⟨k, hk, rfl⟩ := List.mem_map.mp hd
      simp only [zDL, mDcNew, mDcApp, mFreezeDc, mItDz, mZipDz, mValsDz, mListZip, mExt, wipeR]
      unfold keyD
      refine dSum_it rfl (all_ints _) ?_
      rw [sumD_ints]
      refine ⟨by decide, ?_⟩
      have hq : post (rat 1 (sumD (k.map .int))) c' := hq
      rw [sumD_ints] at hq
      exact hq
    have er : ((keysV (enV cols)).map keyD).map (fun d => match d with | .tup l => rat 1 (sumD l) | _ => .non) = ratsD ((keysV (enV cols)).map fun k => ((1 : Int), k.sum)) := by
      unfold ratsD
      rw [List.map_map, List.map_map]
      refine List.map_congr_left fun k _ => ?_
      show rat 1 (sumD (k.map .int)) = rat 1 k.sum
      rw [sumD_ints]
    rw [er]
    refine ⟨_, .inl rfl, hSm, ?_⟩
    simp only [zDL, mDcNew, mDcApp, mFreezeDc, mItDz, mZipDz, mValsDz, mListZip, mExt]
    refine ⟨trivial, ?_⟩
    have lc := lcmL_bound' hSm
    refine lcN (zipD ((keysV (enV cols)).map keyD) (topsL ((keysV (enV cols)).map fun k => ((1 : Int), k.sum)))) ((keysV (enV cols)).map fun k => D.lst ((postV (keysV (enV cols)) k).map .int)) (by unfold zipD topsL; simp) (fun P q => by simp only [zDL, mDcNew, mDcApp, mFreezeDc, mItDz, mZipDz, mValsDz, mListZip, mExt]; exact q) (by unfold zipD topsL; simp; omega) (fun i d y hd hy post hq => ?_) ?_
    · obtain ⟨k, hk, rfl⟩ := get_mapS hy
      have hkm := List.mem_of_getElem? hk
      have hd' : d = .tup [keyD k, .int (1 * (comV (keysV (enV cols))).fdiv k.sum)] := by
        unfold zipD topsL at hd
        rw [List.getElem?_zipWith, List.getElem?_map, List.getElem?_map, List.getElem?_map, hk] at hd
        exact (Option.some.inj hd).symm
      subst hd'
      obtain ⟨_, k1, k2, k8, kx⟩ := keys_in (i := (enV cols).length) C (by rw [List.take_length]; exact hkm)
      simp only [zDL, mDcNew, mDcApp, mFreezeDc, mItDz, mZipDz, mValsDz, mListZip, mExt, wipeR]
      refine ⟨trivial, ?_⟩
      refine lcS (k.map .int) (fun d => .int (intOf d * (1 * (comV (keysV (enV cols))).fdiv k.sum))) (fun P q => by simp only [zDL, mDcNew, mDcApp, mFreezeDc, mItDz, mZipDz, mValsDz, mListZip, mExt]; exact dSeq_it rfl q) (by rw [List.length_map]; omega) (fun d hd post hq => ?_) ?_
      · obtain ⟨n, hn, rfl⟩ := List.mem_map.mp hd
        simp only [zDL, mDcNew, mDcApp, mFreezeDc, mItDz, mZipDz, mValsDz, mListZip, mExt, wipeR]
        refine ⟨mulw (k := 40) (l := 300) ?_ ?_ (by decide) (by decide) (by decide), hq⟩
        · have := kx n hn
          unfold Sm
          have : (2 : Nat) ^ 40 = 1099511627776 := by decide
          have : (2 : Int) ^ 40 = 1099511627776 := by decide
          omega
        · rw [Int.one_mul]; exact fdiv_small lc.1 lc.2 k1
      · have e : (k.map D.int).map (fun d => D.int (intOf d * (1 * (comV (keysV (enV cols))).fdiv k.sum))) = (postV (keysV (enV cols)) k).map .int := by
          unfold postV
          rw [List.map_map, List.map_map]; rfl
        rw [e]; exact hq
    refine ⟨by rw [List.length_map, List.length_map]; omega, ?_⟩
    have ez : zipD ((keysV (enV cols)).map fun k => D.lst ((postV (keysV (enV cols)) k).map .int)) (((keysV (enV cols)).map fun k => (sgV (enV cols) k).map D.int).map D.lst) = (keysV (enV cols)).map (prD (keysV (enV cols)) (enV cols)) := by
      unfold zipD
      apply List.ext_getElem?
      intro i
      rw [List.getElem?_zipWith, List.getElem?_map, List.getElem?_map, List.getElem?_map, List.getElem?_map]
      cases (keysV (enV cols))[i]? <;> rfl
    rw [ez]
    refine ⟨prD_sortOk _ _ _ (by omega), ?_⟩
    simp only [zDL, mDcNew, mDcApp, mFreezeDc, mItDz, mZipDz, mValsDz, mListZip, mExt]
    have hperm := List.mergeSort_perm ((keysV (enV cols)).map (prD (keysV (enV cols)) (enV cols))) leD
    refine lcS _ (fun d => .lst ((sndV d).map .int)) (fun P q => by simp only [zDL, mDcNew, mDcApp, mFreezeDc, mItDz, mZipDz, mValsDz, mListZip, mExt]; exact q) (by rw [hperm.length_eq, List.length_map]; omega) (fun d hd post hq => ?_) ?_
    · obtain ⟨k, hk, rfl⟩ := List.mem_map.mp (hperm.mem_iff.mp hd)
      unfold prD at hq ⊢
      simp only [zDL, mDcNew, mDcApp, mFreezeDc, mItDz, mZipDz, mValsDz, mListZip, mExt, wipeR]
      refine ⟨trivial, ?_⟩
      have e : (sndV (.tup [.lst ((postV (keysV (enV cols)) k).map .int), .lst ((sgV (enV cols) k).map .int)])).map D.int = (sgV (enV cols) k).map .int := by
        show (((sgV (enV cols) k).map D.int).map intOf).map D.int = _
        rw [List.map_map, List.map_map]; rfl
      rw [e] at hq
      exact hq
    · have e : (((keysV (enV cols)).map (prD (keysV (enV cols)) (enV cols))).mergeSort leD).map (fun d => D.lst ((sndV d).map .int)) = rowsD (grpV cols) := by
        unfold rowsD grpV
        rw [List.map_map]; rfl
      rw [e]; exact h
def posJ (rows : List (List Int)) (j : Nat) : Bool := decide (0 < (colI rows j).sum)
/-- the signals of a group -/
def ixs (m : Nat) (rows : List (List Int)) (k : List Int) : List Nat := (List.range m).filter fun j => posJ rows j && (lowL (colI rows j) == k)
def toI (l : List Nat) : List Int := l.map fun (j : Nat) => (j : Int)
theorem perm_inv {α β : Type} {f : α → β} {l1 l2 : List β} (h : l1.Perm l2) : ∀ ks : List α, l2 = ks.map f → ∃ ks' : List α, ks'.Perm ks ∧ l1 = ks'.map f := by
  induction h with
  | nil =>
    intro ks e
    cases ks with
    | nil => exact ⟨[], List.Perm.refl _, rfl⟩
    | cons a l => cases e
  | cons x h ih =>
    intro ks e
    cases ks with
    | nil => cases e
    | cons a l =>
      rw [List.map_cons] at e
      injection e with e1 e2
      obtain ⟨ks', h1, h2⟩ := ih l e2
      exact ⟨a :: ks', h1.cons a, by rw [List.map_cons, ← e1, h2]⟩
  | swap x y l =>
    intro ks e
    cases ks with
    | nil => cases e
    | cons a ks =>
      cases ks with
      | nil => rw [List.map_cons] at e; injection e with e1 e2; cases e2
      | cons b ks =>
        rw [List.map_cons, List.map_cons] at e
        injection e with e1 e2
        injection e2 with e2 e3
        exact ⟨b :: a :: ks, .swap _ _ _, by rw [List.map_cons, List.map_cons, e1, e2, e3]⟩
  | trans h1 h2 ih1 ih2 =>
    intro ks e
    obtain ⟨k2, g1, g2⟩ := ih2 ks e
    obtain ⟨k1, f1, f2⟩ := ih1 k2 g2
    exact ⟨k1, f1.trans g1, f2⟩
theorem psum {l1 l2 : List Int} (h : l1.Perm l2) : l1.sum = l2.sum := by
  induction h with
  | nil => rfl
  | cons x h ih => rw [List.sum_cons, List.sum_cons, ih]
  | swap x y l => rw [List.sum_cons, List.sum_cons, List.sum_cons, List.sum_cons]; omega
  | trans _ _ h1 h2 => exact h1.trans h2
theorem sum_flat (f : Nat → Int) (L : List (List Nat)) : (L.flatten.map f).sum = (L.map fun l => (l.map f).sum).sum := by
  induction L with
  | nil => rfl
  | cons l L ih => rw [List.flatten_cons, List.map_append, List.sum_append, ih, List.map_cons, List.sum_cons]
theorem sum_filter {f : Nat → Int} {p : Nat → Bool} : ∀ {l : List Nat}, (∀ j ∈ l, p j = false → f j = 0) → ((l.filter p).map f).sum = (l.map f).sum
  | [], _ => rfl
  | a :: l, h => by
    have ih := sum_filter (f := f) (p := p) (l := l) fun j hj => h j (by simp [hj])
    rw [List.filter_cons]
    cases q : p a with
    | true => rw [if_pos rfl, List.map_cons, List.map_cons, List.sum_cons, List.sum_cons, ih]
    | false =>
      rw [if_neg (by decide), ih, List.map_cons, List.sum_cons, h a (by simp) q]; omega
theorem turnR_len (m : Nat) (rows : List (List Int)) : (turnR m rows).length = m := by unfold turnR; simp
theorem turnR_get {m : Nat} {rows : List (List Int)} {j : Nat} (h : j < m) : (turnR m rows)[j]? = some (colI rows j) := by
  unfold turnR
  rw [List.getElem?_map, List.getElem?_range h]; rfl
theorem enV_turn (m : Nat) (rows : List (List Int)) : enV (turnR m rows) = (List.range m).map fun j => (j, colI rows j) := by
  unfold enV
  rw [turnR_len]
  refine List.map_congr_left fun j hj => ?_
  have hj : j < m := by simpa using hj
  rw [List.getD_eq_getElem?_getD, turnR_get hj]; rfl
theorem sgV_turn (m : Nat) (rows : List (List Int)) (k : List Int) : sgV (enV (turnR m rows)) k = toI (ixs m rows k) := by
  unfold sgV toI
  refine congrArg _ ?_
  unfold sgN ixs
  rw [enV_turn, List.filter_map, List.map_map]
  exact List.map_id _
theorem ixs_mem {m : Nat} {rows : List (List Int)} {k : List Int} {j : Nat} : j ∈ ixs m rows k ↔ j < m ∧ 0 < (colI rows j).sum ∧ lowL (colI rows j) = k := by
  unfold ixs posJ
  simp [List.mem_filter]
/-- the groups are those of keys, each once -/
theorem grp_keys (m : Nat) (rows : List (List Int)) : ∃ ks : List (List Int), ks.Nodup ∧ (∀ k, k ∈ ks ↔ ∃ j, j < m ∧ 0 < (colI rows j).sum ∧ lowL (colI rows j) = k) ∧ ks.length ≤ m ∧ grpE m rows = ks.map fun k => toI (ixs m rows k) := by
  obtain ⟨ks, h1, h2⟩ := perm_inv (List.mergeSort_perm ((keysV (enV (turnR m rows))).map (prD (keysV (enV (turnR m rows))) (enV (turnR m rows)))) leD) _ rfl
  refine ⟨ks, h1.nodup_iff.mpr (keysV_nodup _), fun k => ?_, ?_, ?_⟩
  · rw [h1.mem_iff, keysV_mem, enV_turn]
    constructor
    · rintro ⟨p, hp, q1, q2⟩
      obtain ⟨j, hj, rfl⟩ := List.mem_map.mp hp
      exact ⟨j, by simpa using hj, by unfold posB at q1; simpa using q1, q2⟩
    · rintro ⟨j, hj, q1, q2⟩
      exact ⟨(j, colI rows j), List.mem_map.mpr ⟨j, by simpa using hj, rfl⟩, by unfold posB; simpa using q1, q2⟩
  · rw [h1.length_eq]
    have := keysV_len (enV (turnR m rows))
    rw [enV_len, turnR_len] at this
    exact this
  · unfold grpE grpV
    rw [h2, List.map_map]
    refine List.map_congr_left fun k _ => ?_
    show ((sgV (enV (turnR m rows)) k).map D.int).map intOf = _
    rw [List.map_map, sgV_turn]
    have : (intOf ∘ D.int) = id := rfl
    rw [this, List.map_id]
theorem ixs_perm {m : Nat} {rows : List (List Int)} {ks : List (List Int)} (nd : ks.Nodup) (hk : ∀ k, k ∈ ks ↔ ∃ j, j < m ∧ 0 < (colI rows j).sum ∧ lowL (colI rows j) = k) : (ks.map (ixs m rows)).flatten.Perm ((List.range m).filter (posJ rows)) := by
  refine (List.perm_ext_iff_of_nodup ?_ ?_).mpr fun a => ?_
  · refine List.pairwise_flatten.mpr ⟨fun l hl => ?_, ?_⟩
    · obtain ⟨k, _, rfl⟩ := List.mem_map.mp hl
      exact List.Pairwise.filter _ List.nodup_range
    · rw [List.pairwise_map]
      refine nd.imp fun {k k'} hne x hx y hy => ?_
      intro e
      subst e
      exact hne ((ixs_mem.mp hx).2.2.symm.trans (ixs_mem.mp hy).2.2)
  · exact List.Pairwise.filter _ List.nodup_range
  · rw [List.mem_flatten, List.mem_filter]
    constructor
    · rintro ⟨l, hl, ha⟩
      obtain ⟨k, _, rfl⟩ := List.mem_map.mp hl
      obtain ⟨a1, a2, _⟩ := ixs_mem.mp ha
      exact ⟨by simpa using a1, by unfold posJ; simpa using a2⟩
    · rintro ⟨a1, a2⟩
      have a1 : a < m := by simpa using a1
      have a2 : 0 < (colI rows a).sum := by unfold posJ at a2; simpa using a2
      exact ⟨_, List.mem_map.mpr ⟨lowL (colI rows a), (hk _).mpr ⟨a, a1, a2, rfl⟩, rfl⟩, ixs_mem.mpr ⟨a1, a2, rfl⟩⟩
theorem colI_get {rows : List (List Int)} {i : Nat} {r : List Int} (h : rows[i]? = some r) (j : Nat) : (colI rows j).getD i 0 = r.getD j 0 := by
  unfold colI
  rw [List.getD_eq_getElem?_getD, List.getElem?_map, h]; rfl
/-- an empty column: all its numbers are 0 -/
theorem col_zero {rows : List (List Int)} (hn : ∀ r ∈ rows, ∀ x ∈ r, 0 ≤ x) {j : Nat} (h : ¬ 0 < (colI rows j).sum) {r : List Int} (hr : r ∈ rows) : r.getD j 0 = 0 := by
  have nn : ∀ y ∈ colI rows j, 0 ≤ y := fun y hy => by
    unfold colI at hy
    obtain ⟨q, hq, rfl⟩ := List.mem_map.mp hy
    by_cases hj : j < q.length
    · exact hn q hq _ (getD_mem hj).1
    · rw [List.getD_eq_getElem?_getD, List.getElem?_eq_none (by omega)]; decide
  have all : ∀ (l : List Int), (∀ y ∈ l, 0 ≤ y) → ¬ 0 < l.sum → ∀ y ∈ l, y = 0 := by
    intro l
    induction l with
    | nil => intro _ _ y hy; simp at hy
    | cons a l ih =>
      intro h1 h2 y hy
      rw [List.sum_cons] at h2
      have ha := h1 a (by simp)
      have hs : 0 ≤ l.sum := sum_nn fun z hz => h1 z (by simp [hz])
      rcases List.mem_cons.mp hy with rfl | hy
      · omega
      · exact ih (fun z hz => h1 z (by simp [hz])) (by omega) y hy
  exact all _ nn h _ (by unfold colI; exact List.mem_map.mpr ⟨r, hr, rfl⟩)
theorem gsum_toI (r : List Int) (l : List Nat) : gsum r (toI l) = (l.map fun j => r.getD j 0).sum := by
  unfold gsum toI
  rw [List.map_map]
  congr 1
theorem RowsOk.nn {u : Int} {rows : List (List Int)} {s m : Nat} (R : RowsOk u rows s m) : ∀ r ∈ rows, ∀ x ∈ r, 0 ≤ x := fun r hr x hx => (R.row r hr).2.2 x hx
theorem grp_sum {u : Int} {rows : List (List Int)} {s m : Nat} (R : RowsOk u rows s m) {r : List Int} (hr : r ∈ rows) : ((grpE m rows).map (gsum r)).sum = r.sum := by
  obtain ⟨ks, nd, hk, _, e⟩ := grp_keys m rows
  rw [e, List.map_map]
  have e1 : (gsum r ∘ fun k => toI (ixs m rows k)) = fun k => ((ixs m rows k).map fun j => r.getD j 0).sum := by funext k; exact gsum_toI _ _
  rw [e1]
  have e2 := sum_flat (fun j => r.getD j 0) (ks.map (ixs m rows))
  rw [List.map_map] at e2
  have e3 : (ks.map fun k => ((ixs m rows k).map fun j => r.getD j 0).sum) = ks.map ((fun l : List Nat => (l.map fun j => r.getD j 0).sum) ∘ ixs m rows) := rfl
  rw [e3, ← e2, psum ((ixs_perm nd hk).map fun j => r.getD j 0), sum_filter fun j _ hj => ?_]
  · have := sum_getD r
    rw [(R.row r hr).1] at this
    exact this
  · refine col_zero R.nn ?_ hr
    unfold posJ at hj
    simpa using hj
theorem grp_mem {m : Nat} {rows : List (List Int)} {g : List Int} (h : g ∈ grpE m rows) : g ≠ [] ∧ g.length ≤ m ∧ ∀ x ∈ g, ∃ j : Nat, x = (j : Int) ∧ j < m := by
  obtain ⟨ks, nd, hk, _, e⟩ := grp_keys m rows
  rw [e] at h
  obtain ⟨k, hkm, rfl⟩ := List.mem_map.mp h
  obtain ⟨j, hj, h1, h2⟩ := (hk k).mp hkm
  refine ⟨fun z => ?_, ?_, fun x hx => ?_⟩
  · have : (j : Int) ∈ toI (ixs m rows k) := List.mem_map.mpr ⟨j, ixs_mem.mpr ⟨hj, h1, h2⟩, rfl⟩
    rw [z] at this; simp at this
  · unfold toI ixs
    rw [List.length_map]
    have := List.length_filter_le (fun j => posJ rows j && (lowL (colI rows j) == k)) (List.range m)
    rw [List.length_range] at this; exact this
  · obtain ⟨j, hj, rfl⟩ := List.mem_map.mp hx
    exact ⟨j, rfl, (ixs_mem.mp hj).1⟩
theorem grp_len (m : Nat) (rows : List (List Int)) : (grpE m rows).length ≤ m := by
  obtain ⟨ks, _, _, hl, e⟩ := grp_keys m rows
  rw [e, List.length_map]; exact hl
theorem grp_ne {u : Int} {rows : List (List Int)} {s m : Nat} (R : RowsOk u rows s m) : 1 ≤ (grpE m rows).length := by
  have s1 := R.s1
  obtain ⟨r, hr⟩ : ∃ r, r ∈ rows := by
    cases rows with
    | nil => have := R.len; simp at this; omega
    | cons a b => exact ⟨a, by simp⟩
  have hs := grp_sum R hr
  rw [(R.row r hr).2.1] at hs
  cases q : grpE m rows with
  | nil =>
    rw [q] at hs
    have hu := R.hu
    have hs : (0 : Int) = u := hs
    omega
  | cons a b => simp
theorem grp_klen (m : Nat) (rows : List (List Int)) : (grpE m rows).length = (keysV (enV (turnR m rows))).length := by
  unfold grpE grpV
  rw [List.length_map, (List.mergeSort_perm _ leD).length_eq, List.length_map]
theorem StdOk.g {u : Int} {rows : List (List Int)} {s m : Nat} (T : StdOk u rows s m) : StdG u rows s m := ⟨T.R, by have := T.m6; omega, by
  have := keysV_len (enV (turnR m rows))
  rw [enV_len, turnR_len] at this
  have := T.m6
  omega, T.u30⟩
theorem cols_ok {u : Int} {rows : List (List Int)} {s m : Nat} (T : StdG u rows s m) : ColsOk (turnR m rows) := by
  refine ⟨by rw [turnR_len]; exact T.m24, T.k6, fun c hc => ?_⟩
  have R := T.R
  have u30 := T.u30
  unfold turnR at hc
  obtain ⟨j, hj, rfl⟩ := List.mem_map.mp hc
  have hj : j < m := by simpa using hj
  refine ⟨by rw [List.length_map, R.len]; have := R.s4; omega, fun x hx => ?_⟩
  obtain ⟨r, hr, rfl⟩ := List.mem_map.mp hx
  obtain ⟨h1, h2, h3⟩ := R.row r hr
  have hm := (getD_mem (r := r) (k := j) (by omega)).1
  refine ⟨h3 _ hm, ?_⟩
  have le : ∀ (l : List Int), (∀ y ∈ l, 0 ≤ y) → ∀ y ∈ l, y ≤ l.sum := by
    intro l
    induction l with
    | nil => intro _ y hy; simp at hy
    | cons a l ih =>
      intro h1 y hy
      rw [List.sum_cons]
      have ha := h1 a (by simp)
      have hs : 0 ≤ l.sum := sum_nn fun z hz => h1 z (by simp [hz])
      rcases List.mem_cons.mp hy with rfl | hy
      · omega
      · have := ih (fun z hz => h1 z (by simp [hz])) y hy; omega
  have := le r h3 _ hm
  omega
theorem std_row {u : Int} {rows : List (List Int)} {s m : Nat} (R : RowsOk u rows s m) : ∀ r ∈ stdR m rows, r.length = (grpE m rows).length ∧ r.sum = u ∧ ∀ x ∈ r, 0 ≤ x := fun r hr => by
  unfold stdR at hr
  obtain ⟨q, hq, rfl⟩ := List.mem_map.mp hr
  refine ⟨List.length_map _, by rw [grp_sum R hq]; exact (R.row q hq).2.1, fun x hx => ?_⟩
  obtain ⟨g, hg, rfl⟩ := List.mem_map.mp hx
  refine sum_nn fun y hy => ?_
  obtain ⟨z, hz, rfl⟩ := List.mem_map.mp hy
  obtain ⟨j, rfl, hj⟩ := (grp_mem hg).2.2 z hz
  rw [Int.toNat_natCast]
  exact (R.row q hq).2.2 _ (getD_mem (by rw [(R.row q hq).1]; exact hj)).1
theorem std_ok {u : Int} {rows : List (List Int)} {s m : Nat} (T : StdG u rows s m) : StdG u (stdR m rows) s (grpE m rows).length := by
  have R := T.R
  have gl := grp_len m rows
  exact ⟨⟨R.hu, R.hs, R.s1, R.s4, grp_ne R, by have := R.m64; omega, by unfold stdR; rw [List.length_map]; exact R.len, std_row R⟩, by have := T.m24; omega, by
    have h1 := keysV_len (enV (turnR (grpE m rows).length (stdR m rows)))
    rw [enV_len, turnR_len] at h1
    have h2 := grp_klen m rows
    have := T.k6
    omega, T.u30⟩
theorem turn_sums {rows : List (List Int)} {g : List Int} {s : Nat} (hs : rows.length = s) : (turnR s (g.map fun j => colI rows j.toNat)).map List.sum = rows.map fun r => gsum r g := by
  apply List.ext_getElem?
  intro i
  rw [List.getElem?_map, List.getElem?_map]
  by_cases hi : i < s
  · have hr : rows[i]? = some rows[i] := List.getElem?_eq_getElem (by omega)
    rw [turnR_get hi, hr]
    show some (colI _ i).sum = some (gsum _ g)
    unfold colI gsum
    rw [List.map_map]
    congr 2
    refine List.map_congr_left fun j _ => ?_
    exact colI_get hr j.toNat
  · have z1 : (turnR s (g.map fun j => colI rows j.toNat))[i]? = none := by rw [List.getElem?_eq_none]; rw [turnR_len]; omega
    have z2 : rows[i]? = none := by rw [List.getElem?_eq_none]; omega
    rw [z1, z2]; rfl
theorem turn_std {rows : List (List Int)} {s m : Nat} (hs : rows.length = s) : turnR s ((grpE m rows).map fun g => rows.map fun r => gsum r g) = stdR m rows := by
  apply List.ext_getElem?
  intro i
  unfold stdR
  rw [List.getElem?_map]
  by_cases hi : i < s
  · have hr : rows[i]? = some rows[i] := List.getElem?_eq_getElem (by omega)
    rw [turnR_get hi, hr]
    show some (colI _ i) = some _
    congr 1
    unfold colI
    rw [List.map_map]
    refine List.map_congr_left fun g _ => ?_
    show (rows.map fun r => gsum r g).getD i 0 = gsum _ g
    rw [List.getD_eq_getElem?_getD, List.getElem?_map, hr]; rfl
  · have z1 : (turnR s ((grpE m rows).map fun g => rows.map fun r => gsum r g))[i]? = none := by rw [List.getElem?_eq_none]; rw [turnR_len]; omega
    have z2 : rows[i]? = none := by rw [List.getElem?_eq_none]; omega
    rw [z1, z2]; rfl
theorem d_standard : ∀ ds c xe rt, fStandard xe ds c rt → ds.length = 1 ∧ b_standard (fun _ _ _ => False) { nx := fun _ c' => rt .non c', rt := rt, rtN := rt } (ro0 ["e", "columns", "sums", "group", "rows", "signal", "row"] ds) c := by
  rintro _ c xe rt ⟨u, rows, s, m, rfl, T, h⟩
  refine ⟨rfl, ?_⟩
  have R := T.R
  have s1 := R.s1
  have s4 := R.s4
  have m6 := T.m24
  have gl := grp_len m rows
  obtain ⟨j1, j2, j3, j4, j5⟩ := lookE u rows
  simp only [zDL, b_standard, expD, mDcNew, mDcApp, mFreezeDc, mItDz, mZipDz, mValsDz, mListZip, mExt, j1, j2]
  refine ⟨⟨trivial, trivial⟩, u, rows, rfl, by rw [R.len]; omega, rows, m, rfl, ⟨by rw [R.len]; exact s1, by rw [R.len]; omega⟩, by have := R.m64; omega, fun r hr => (R.row r hr).1, by decide, ?_⟩
  refine forS (rowsD (grpE m rows)) (fun i ρ c' => c' = c ∧ ∃ s3 s4 : S, ρ = [.sh (.ins "Experiment" (expF u rows)), .sh (.lst (rowsD (turnR m rows))), .own (rowsD (((grpE m rows).take i).map fun g => rows.map fun r => gsum r g)), s3, s4, .no, .no]) (fun P q => ⟨_, rfl, cols_ok T, by simp only [zDL, mDcNew, mDcApp, mFreezeDc, mItDz, mZipDz, mValsDz, mListZip, mExt]; exact q⟩) ⟨rfl, _, _, rfl⟩ ?_ ?_
  · rintro i d ρ c' hd ⟨rfl, s3, s4, rfl⟩
    obtain ⟨g, hg, rfl⟩ := get_mapS (f := fun r : List Int => D.lst (r.map .int)) (by unfold rowsD at hd; exact hd)
    have hgm := List.mem_of_getElem? hg
    obtain ⟨g1, g2, g3⟩ := grp_mem hgm
    have hi := (List.getElem?_eq_some_iff.mp hg).1
    simp only [zDL, mDcNew, mDcApp, mFreezeDc, mItDz, mZipDz, mValsDz, mListZip, mExt]
    refine lcS (g.map .int) (fun d => .lst ((colI rows (intOf d).toNat).map .int)) (fun P q => by simp only [zDL, mDcNew, mDcApp, mFreezeDc, mItDz, mZipDz, mValsDz, mListZip, mExt]; exact q) (by rw [List.length_map]; omega) (fun d hd post hq => ?_) ?_
    · obtain ⟨x, hx, rfl⟩ := List.mem_map.mp hd
      obtain ⟨j, rfl, hj⟩ := g3 x hx
      simp only [zDL, mDcNew, mDcApp, mFreezeDc, mItDz, mZipDz, mValsDz, mListZip, mExt, wipeR]
      have hq : post (.lst ((colI rows ((j : Int)).toNat).map .int)) c' := hq
      rw [Int.toNat_natCast] at hq
      refine dIx_it (k := j) rfl (by unfold rowsD; rw [List.getElem?_map, turnR_get hj]; rfl) hq
    have e1 : (g.map D.int).map (fun d => D.lst ((colI rows (intOf d).toNat).map .int)) = rowsD (g.map fun j => colI rows j.toNat) := by
      unfold rowsD
      rw [List.map_map, List.map_map]; rfl
    rw [e1]
    have gp : 1 ≤ g.length := by cases g with | nil => exact absurd rfl g1 | cons a b => simp
    refine ⟨_, s, rfl, ⟨by rw [List.length_map]; exact gp, by rw [List.length_map]; omega⟩, by omega, fun r hr => ?_, ?_⟩
    · obtain ⟨j, _, rfl⟩ := List.mem_map.mp hr
      unfold colI
      rw [List.length_map]; exact R.len
    refine ⟨by rw [rowsD_len', List.length_map, List.length_take]; omega, ?_⟩
    refine lcS (rowsD (turnR s (g.map fun j => colI rows j.toNat))) (fun d => .int (rowOf d).sum) (fun P q => by simp only [zDL, mDcNew, mDcApp, mFreezeDc, mItDz, mZipDz, mValsDz, mListZip, mExt]; exact q) (by rw [rowsD_len', turnR_len]; omega) (fun d hd post hq => ?_) ?_
    · unfold rowsD at hd
      obtain ⟨r, _, rfl⟩ := List.mem_map.mp hd
      simp only [zDL, mDcNew, mDcApp, mFreezeDc, mItDz, mZipDz, mValsDz, mListZip, mExt, wipeR]
      refine dSum_it rfl (all_ints _) ?_
      have : rowOf (.lst (r.map .int)) = r := by show (r.map D.int).map intOf = r; rw [List.map_map]; have : (intOf ∘ D.int) = id := rfl; rw [this, List.map_id]
      rw [this] at hq
      rw [sumD_ints]; exact hq
    · have e2 : (rowsD (turnR s (g.map fun j => colI rows j.toNat))).map (fun d => D.int (rowOf d).sum) = (rows.map fun r => gsum r g).map .int := by
        rw [← turn_sums R.len]
        unfold rowsD
        rw [List.map_map, List.map_map]
        refine List.map_congr_left fun r _ => ?_
        show D.int ((r.map D.int).map intOf).sum = .int r.sum
        rw [List.map_map]
        have : (intOf ∘ D.int) = id := rfl
        rw [this, List.map_id]
      rw [e2]
      refine ⟨rfl, .sh (.lst (g.map .int)), .sh (.lst (rowsD (turnR s (g.map fun j => colI rows j.toNat)))), ?_⟩
      rw [List.take_add_one, hg]
      unfold rowsD
      rw [Option.toList, List.map_append, List.map_append]
      rfl
  · rintro ρ c' ⟨rfl, s3, s4, rfl⟩
    rw [rowsD_len', List.take_length]
    simp only [zDL, mDcNew, mDcApp, mFreezeDc, mItDz, mZipDz, mValsDz, mListZip, mExt, j2]
    have gn := grp_ne R
    refine ⟨by decide, _, s, rfl, ⟨by rw [List.length_map]; exact gn, by rw [List.length_map]; omega⟩, by omega, fun r hr => ?_, ?_⟩
    · obtain ⟨g, _, rfl⟩ := List.mem_map.mp hr
      rw [List.length_map]; exact R.len
    rw [turn_std R.len]
    have O := (std_ok T).R
    exact mk_exp (n := (grpE m rows).length) (.inl rfl) (areRows_lst _) O.hu (O.hs.up (by decide)) (by rw [O.len]; exact O.s1) (by rw [O.len]; exact O.s4) (by omega) O.row h
theorem sumB {B : Int} : ∀ {l : List Int}, (∀ x ∈ l, x ≤ B) → l.sum ≤ B * l.length
  | [], _ => by simp
  | a :: l, h => by
    have ih := sumB (l := l) fun x hx => h x (by simp [hx])
    have := h a (by simp)
    rw [List.sum_cons, List.length_cons, show ((l.length + 1 : Nat) : Int) = (l.length : Int) + 1 from rfl, Int.mul_add]; omega
theorem lowL_le_sum : ∀ (l : List Int), (∀ y ∈ l, 0 ≤ y) → ∀ y ∈ l, y ≤ l.sum
  | [], _, y, hy => by simp at hy
  | a :: l, h1, y, hy => by
    rw [List.sum_cons]
    have ha := h1 a (by simp)
    have hs : 0 ≤ l.sum := sum_nn fun z hz => h1 z (by simp [hz])
    rcases List.mem_cons.mp hy with rfl | hy
    · omega
    · have := lowL_le_sum l (fun z hz => h1 z (by simp [hz])) y hy; omega
theorem lcm_dvdS : ∀ (rs : List (Int × Int)) (u : Int), u ∣ rs.foldl lcmF u ∧ ∀ r ∈ rs, r.2 ∣ rs.foldl lcmF u
  | [], u => ⟨Int.dvd_refl u, fun _ h => nomatch h⟩
  | r :: rs, u => by
    obtain ⟨a, b⟩ := lcm_dvdS rs (lcmF u r)
    have h1 : u ∣ lcmF u r := Int.natAbs_dvd_natAbs.mp (by unfold lcmF; rw [Int.natAbs_natCast]; exact Nat.dvd_lcm_left _ _)
    have h2 : r.2 ∣ lcmF u r := Int.natAbs_dvd_natAbs.mp (by unfold lcmF; rw [Int.natAbs_natCast]; exact Nat.dvd_lcm_right _ _)
    refine ⟨Int.dvd_trans h1 a, fun q hq => ?_⟩
    rcases List.mem_cons.mp hq with rfl | hq
    · exact Int.dvd_trans h2 a
    · exact b q hq
theorem col_key {m : Nat} {rows : List (List Int)} {k : List Int} {j : Nat} (h : j ∈ ixs m rows k) : colI rows j = k.map fun n => ((gcdL (colI rows j) : Nat) : Int) * n := by
  obtain ⟨_, h1, h2⟩ := ixs_mem.mp h
  have := lowL_mul (gcdL_pos h1)
  rw [h2] at this
  exact this
theorem getD_scale (c : Int) (l : List Int) (i : Nat) : (l.map fun n => c * n).getD i 0 = c * l.getD i 0 := by
  rw [List.getD_eq_getElem?_getD, List.getElem?_map, List.getD_eq_getElem?_getD]
  cases l[i]? with
  | none => simp
  | some x => rfl
theorem key_at {m : Nat} {rows : List (List Int)} {k : List Int} {j t : Nat} {r : List Int} (h : j ∈ ixs m rows k) (hr : rows[t]? = some r) : r.getD j 0 = ((gcdL (colI rows j) : Nat) : Int) * k.getD t 0 := by
  have e := colI_get hr j
  rw [col_key h, getD_scale] at e
  exact e.symm
theorem gcdL_scale (c : Nat) (l : List Int) : gcdL (l.map fun n => (c : Int) * n) = c * gcdL l := gcdF_scale c l 0
theorem lowL_scale {c : Nat} (hc : 0 < c) {l : List Int} (h : 0 < l.sum) : lowL (l.map fun n => (c : Int) * n) = lowL l := by
  have g := gcdL_pos h
  unfold lowL
  rw [gcdL_scale, if_neg g, if_neg (fun z => by rcases Nat.mul_eq_zero.mp z with z | z <;> omega), List.map_map]
  refine List.map_congr_left fun n _ => ?_
  show ((c : Int) * n).fdiv ((c * gcdL l : Nat) : Int) = _
  rw [Int.natCast_mul]
  exact Int.mul_fdiv_mul_of_pos _ _ (by omega)
theorem lowL_scaleI {c : Int} (hc : 0 < c) {l : List Int} (h : 0 < l.sum) : lowL (l.map fun n => n * c) = lowL l := by
  have e : (l.map fun n => n * c) = l.map fun n => ((c.toNat : Nat) : Int) * n := List.map_congr_left fun n _ => by rw [Int.toNat_of_nonneg (by omega), Int.mul_comm]
  rw [e]
  exact lowL_scale (by omega) h
theorem lowL_idem {l : List Int} (h : 0 < l.sum) : lowL (lowL l) = lowL l := by
  obtain ⟨_, h2, _, h4⟩ := lowL_sum h
  have := lowL_scale (c := gcdL l) h4 h2
  rw [← lowL_mul (by omega)] at this
  exact this.symm
abbrev Tk := List (Int ⊕ List Nat)
abbrev lexT (a b : Tk) : Bool := PyProof.Rows.lexLt PyProof.Rows.itemOrd a b
theorem lex_same : ∀ {x x' : Tk} (y y' : Tk), x.length = x'.length → x ≠ x' → lexT (x ++ y) (x' ++ y') = lexT x x'
  | [], [], _, _, _, h => absurd rfl h
  | [], _ :: _, _, _, h, _ => by simp at h
  | _ :: _, [], _, _, h, _ => by simp at h
  | a :: x, b :: x', y, y', hl, hne => by
    by_cases e : a = b
    · subst e
      have h1 := PySem.W.lex_pre [a] (x ++ y) (x' ++ y')
      have h2 := PySem.W.lex_pre [a] x x'
      show lexT ([a] ++ (x ++ y)) ([a] ++ (x' ++ y')) = lexT ([a] ++ x) ([a] ++ x')
      rw [show lexT ([a] ++ (x ++ y)) ([a] ++ (x' ++ y')) = _ from h1, show lexT ([a] ++ x) ([a] ++ x') = _ from h2]
      exact lex_same y y' (by simpa using hl) fun z => hne (by rw [z])
    · exact (PySem.W.lex_atom e _ _).trans (PySem.W.lex_atom e _ _).symm
/-- the tokens of a list of ints -/
def tkL : List Int → Tk
  | [] => [.inl 0]
  | n :: l => .inl 1 :: .inl n :: tkL l
theorem tkL_is (l : List Int) : PySem.W.keyToksAll (pyL (l.map D.int)) = tkL l := by
  induction l with
  | nil => rfl
  | cons n l ih =>
    show PySem.W.keyToksAll (PyData.int n :: pyL (l.map D.int)) = _
    rw [PySem.W.keyToksAll, ih]; rfl
theorem tkL_len (l : List Int) : (tkL l).length = 2 * l.length + 1 := by
  induction l with
  | nil => rfl
  | cons n l ih => show (tkL l).length + 1 + 1 = _; rw [ih, List.length_cons]; omega
theorem tkL_inj : ∀ {a b : List Int}, tkL a = tkL b → a = b
  | [], [], _ => rfl
  | [], _ :: _, h => by simp [tkL] at h
  | _ :: _, [], h => by simp [tkL] at h
  | x :: a, y :: b, h => by
    have h : (Sum.inl 1 : Int ⊕ List Nat) :: Sum.inl x :: tkL a = Sum.inl 1 :: Sum.inl y :: tkL b := h
    injection h with _ h
    injection h with h1 h2
    injection h1 with h1
    rw [h1, tkL_inj h2]
def ltL (a b : List Int) : Bool := lexT (tkL a) (tkL b)
theorem lex_int {x y : Int} (h : x ≠ y) (a b : Tk) : lexT (.inl x :: a) (.inl y :: b) = decide (x < y) := by
  have e : (Sum.inl x : Int ⊕ List Nat) ≠ Sum.inl y := fun z => h (by injection z)
  rw [show lexT (.inl x :: a) (.inl y :: b) = _ from PySem.W.lex_atom e a b]
  have := PyProof.Rows.lex_diff (O := PyProof.Rows.itemOrd) e (r := []) (t := [])
  exact this
theorem ltL_conn : ∀ {a b : List Int}, a.length = b.length → a ≠ b → ltL a b = false → ltL b a = true
  | [], [], _, h, _ => absurd rfl h
  | [], _ :: _, h, _, _ => by simp at h
  | _ :: _, [], h, _, _ => by simp at h
  | x :: a, y :: b, hl, hne, h => by
    have st : ∀ (p : Int ⊕ List Nat) (l m : Tk), lexT (p :: l) (p :: m) = lexT l m := fun p l m => PySem.W.lex_pre [p] l m
    unfold ltL tkL at h ⊢
    rw [st] at h ⊢
    by_cases e : x = y
    · subst e
      rw [st] at h ⊢
      exact ltL_conn (by simpa using hl) (fun z => hne (by rw [z])) h
    · rw [lex_int e] at h
      rw [lex_int (Ne.symm e)]
      have : ¬ x < y := by simpa using h
      exact decide_eq_true (by omega)
theorem ltL_asymm {a b : List Int} (h : ltL a b = true) : ltL b a = false := by
  cases q : ltL b a with
  | false => rfl
  | true =>
    have := PyProof.Rows.lex_trans (O := PyProof.Rows.itemOrd) _ _ _ h q
    rw [PyProof.Rows.lex_irrefl] at this; cases this
theorem ltD_prD {ks : List (List Int)} {P : En} {k k' : List Int} (hl : k.length = k'.length) (hne : postV ks k ≠ postV ks k') : ltD (prD ks P k) (prD ks P k') = ltL (postV ks k) (postV ks k') := by
  have tk : ∀ k, PySem.W.keyToks (py (prD ks P k)) = .inl 1 :: (tkL (postV ks k) ++ (.inl 1 :: (tkL (sgV P k) ++ [.inl 0]))) := fun k => by
    show PySem.W.keyToksAll [PyData.list (pyL ((postV ks k).map .int)), PyData.list (pyL ((sgV P k).map .int))] = _
    rw [PySem.W.keyToksAll, PySem.W.keyToksAll, PySem.W.keyToksAll]
    show Sum.inl 1 :: (PySem.W.keyToksAll (pyL ((postV ks k).map .int)) ++ (Sum.inl 1 :: (PySem.W.keyToksAll (pyL ((sgV P k).map .int)) ++ [Sum.inl 0]))) = _
    rw [tkL_is, tkL_is]
  show lexT (PySem.W.keyToks (py (prD ks P k))) (PySem.W.keyToks (py (prD ks P k'))) = _
  rw [tk, tk, show ∀ l m : Tk, lexT (.inl 1 :: l) (.inl 1 :: m) = lexT l m from fun l m => PySem.W.lex_pre [.inl 1] l m]
  refine lex_same _ _ ?_ fun z => hne (tkL_inj z)
  rw [tkL_len, tkL_len]
  unfold postV
  rw [List.length_map, List.length_map, hl]
theorem eq_sorted {α : Type} {R : α → α → Prop} (as : ∀ a b, R a b → ¬ R b a) : ∀ {l m : List α}, l.Perm m → l.Pairwise R → m.Pairwise R → l = m
  | [], m, h, _, _ => by have := h.length_eq; cases m with | nil => rfl | cons a b => simp at this
  | _ :: _, [], h, _, _ => by have := h.length_eq; simp at this
  | a :: l, b :: m, h, hl, hm => by
    rw [List.pairwise_cons] at hl hm
    have e : a = b := by
      have h1 : a ∈ b :: m := h.mem_iff.mp (by simp)
      have h2 : b ∈ a :: l := h.mem_iff.mpr (by simp)
      rcases List.mem_cons.mp h1 with h1 | h1
      · exact h1
      · rcases List.mem_cons.mp h2 with h2 | h2
        · exact h2.symm
        · exact absurd (hl.1 b h2) (as _ _ (hm.1 a h1))
    subst e
    rw [eq_sorted as h.cons_inv hl.2 hm.2]
theorem lcm_perm {rs qs : List (Int × Int)} (h : rs.Perm qs) : lcmL rs = lcmL qs := by
  unfold lcmL
  refine h.foldl_eq' (fun x _ y _ z => ?_) 1
  unfold lcmF
  rw [Int.natAbs_natCast, Int.natAbs_natCast, Nat.lcm_assoc, Nat.lcm_comm x.2.natAbs, ← Nat.lcm_assoc]
theorem com_perm {ks ks' : List (List Int)} (h : ks.Perm ks') : comV ks = comV ks' := lcm_perm (h.map _)
/-- a key told by its numbers over the common sum -/
theorem post_inj {C : Int} {k k' : List Int} (hk : 0 < k.sum) (hk' : 0 < k'.sum) (dk : k.sum ∣ C) (dk' : k'.sum ∣ C) (hC : 0 < C) (i : lowL k = k) (i' : lowL k' = k') (e : (k.map fun n => n * (1 * C.fdiv k.sum)) = k'.map fun n => n * (1 * C.fdiv k'.sum)) : k = k' := by
  have p : ∀ {x : Int}, 0 < x → x ∣ C → 0 < 1 * C.fdiv x := fun {x} hx hd => by
    rw [Int.one_mul]
    have h1 := Int.fdiv_mul_cancel hd
    have h2 : 0 ≤ C.fdiv x := Int.fdiv_nonneg (by omega) (by omega)
    rcases Int.lt_or_eq_of_le h2 with h | h
    · exact h
    · rw [← h, Int.zero_mul] at h1; omega
  rw [← i, ← i', ← lowL_scaleI (p hk dk) hk, e, lowL_scaleI (p hk' dk') hk']
/-- what standard forms are made of: the keys, in their order -/
structure KeyOrd (m : Nat) (rows : List (List Int)) (ks : List (List Int)) : Prop where
  nd : ks.Nodup
  mem : ∀ k, k ∈ ks ↔ ∃ j, j < m ∧ 0 < (colI rows j).sum ∧ lowL (colI rows j) = k
  le : ks.length ≤ m
  grp : grpE m rows = ks.map fun k => toI (ixs m rows k)
  srt : ks.Pairwise fun k k' => ltL (postV ks k) (postV ks k') = true
theorem post_com {ks ks' : List (List Int)} (h : ks.Perm ks') (k : List Int) : postV ks k = postV ks' k := by unfold postV; rw [com_perm h]
theorem key_ord (m : Nat) (rows : List (List Int)) : ∃ ks, KeyOrd m rows ks := by
  obtain ⟨ks, h1, h2⟩ := perm_inv (List.mergeSort_perm ((keysV (enV (turnR m rows))).map (prD (keysV (enV (turnR m rows))) (enV (turnR m rows)))) leD) _ rfl
  have nd : ks.Nodup := h1.nodup_iff.mpr (keysV_nodup _)
  have mem : ∀ k, k ∈ ks ↔ ∃ j, j < m ∧ 0 < (colI rows j).sum ∧ lowL (colI rows j) = k := fun k => by
    rw [h1.mem_iff, keysV_mem, enV_turn]
    constructor
    · rintro ⟨p, hp, q1, q2⟩
      obtain ⟨j, hj, rfl⟩ := List.mem_map.mp hp
      exact ⟨j, by simpa using hj, by unfold posB at q1; simpa using q1, q2⟩
    · rintro ⟨j, hj, q1, q2⟩
      exact ⟨(j, colI rows j), List.mem_map.mpr ⟨j, by simpa using hj, rfl⟩, by unfold posB; simpa using q1, q2⟩
  refine ⟨ks, nd, mem, ?_, ?_, ?_⟩
  · rw [h1.length_eq]
    have := keysV_len (enV (turnR m rows))
    rw [enV_len, turnR_len] at this
    exact this
  · unfold grpE grpV
    rw [h2, List.map_map]
    refine List.map_congr_left fun k _ => ?_
    show ((sgV (enV (turnR m rows)) k).map D.int).map intOf = _
    rw [List.map_map, sgV_turn]
    have : (intOf ∘ D.int) = id := rfl
    rw [this, List.map_id]
  · have tr : ∀ (a b c : D), leD a b = true → leD b c = true → leD a c = true := fun a b c g1 g2 => by
      have f1 : ltD b a = false := by have : (!ltD b a) = true := g1; simpa using this
      have f2 : ltD c b = false := by have : (!ltD c b) = true := g2; simpa using this
      show (!ltD c a) = true
      cases q : ltD c a with
      | false => rfl
      | true =>
        rcases PyProof.Rows.lex_negTrans (O := PyProof.Rows.itemOrd) _ (PySem.W.keyToks (py b)) _ q with z | z
        · rw [show PyProof.Rows.lexLt PyProof.Rows.itemOrd (PySem.W.keyToks (py c)) (PySem.W.keyToks (py b)) = ltD c b from rfl, f2] at z; cases z
        · rw [show PyProof.Rows.lexLt PyProof.Rows.itemOrd (PySem.W.keyToks (py b)) (PySem.W.keyToks (py a)) = ltD b a from rfl, f1] at z; cases z
    have tot : ∀ (a b : D), (leD a b || leD b a) = true := fun a b => by
      show ((!ltD b a) || (!ltD a b)) = true
      cases q : ltD b a with
      | false => rfl
      | true =>
        cases q2 : ltD a b with
        | false => rfl
        | true =>
          have := PyProof.Rows.lex_trans (O := PyProof.Rows.itemOrd) _ _ _ q2 q
          rw [PyProof.Rows.lex_irrefl] at this; cases this
    have hp := List.pairwise_mergeSort tr tot ((keysV (enV (turnR m rows))).map (prD (keysV (enV (turnR m rows))) (enV (turnR m rows))))
    rw [h2, List.pairwise_map] at hp
    have both := (List.pairwise_and_iff.mpr ⟨hp, nd⟩)
    refine (List.Pairwise.imp_of_mem (fun {k k'} ka kb ⟨q1, q2⟩ => ?_) both)
    obtain ⟨j, hj, s1, e1⟩ := (mem k).mp ka
    obtain ⟨j', hj', s2, e2⟩ := (mem k').mp kb
    have kk : ∀ x ∈ ks, 0 < x.sum ∧ lowL x = x := fun x hx => by
      obtain ⟨i, _, t1, t2⟩ := (mem x).mp hx
      rw [← t2]
      exact ⟨(lowL_sum t1).2.1, lowL_idem t1⟩
    have C0 : ∀ l : List (List Int), (∀ x ∈ l, 0 < x.sum) → 0 < comV l := fun l hl => by
      unfold comV lcmL
      have go : ∀ (rs : List (Int × Int)) (u : Int), 0 < u → (∀ r ∈ rs, 0 < r.2) → 0 < rs.foldl lcmF u := by
        intro rs
        induction rs with
        | nil => intro u h _; exact h
        | cons r rs ih =>
          intro u h hr
          refine ih _ ?_ fun q hq => hr q (by simp [hq])
          have r0 := hr r (by simp)
          unfold lcmF
          have := Nat.lcm_pos (m := u.natAbs) (n := r.2.natAbs) (by omega) (by omega)
          omega
      exact go _ 1 (by decide) fun r hr => by obtain ⟨x, hx, rfl⟩ := List.mem_map.mp hr; exact hl x hx
    have dv : ∀ x ∈ ks, x.sum ∣ comV ks := fun x hx => (lcm_dvdS _ 1).2 (1, x.sum) (List.mem_map.mpr ⟨x, hx, rfl⟩)
    have hln : k.length = k'.length := by
      rw [← e1, ← e2, lowL_len, lowL_len]; unfold colI; rw [List.length_map, List.length_map]
    have hne : postV ks k ≠ postV ks k' := fun z => q2 (post_inj (kk k ka).1 (kk k' kb).1 (dv k ka) (dv k' kb) (C0 ks fun x hx => (kk x hx).1) (kk k ka).2 (kk k' kb).2 z)
    have q1 : (!ltD (prD (keysV (enV (turnR m rows))) (enV (turnR m rows)) k') (prD (keysV (enV (turnR m rows))) (enV (turnR m rows)) k)) = true := q1
    rw [ltD_prD hln.symm (by rw [← post_com h1, ← post_com h1]; exact hne.symm), ← post_com h1, ← post_com h1] at q1
    have pl : (postV ks k').length = (postV ks k).length := by unfold postV; rw [List.length_map, List.length_map, hln]
    exact ltL_conn pl hne.symm (by simpa using q1)
/-- the same keys stand in the same order -/
theorem KeyOrd.same {m m2 : Nat} {rows rows2 : List (List Int)} {ks ks2 : List (List Int)} (A : KeyOrd m rows ks) (B : KeyOrd m2 rows2 ks2) (h : ∀ k, k ∈ ks ↔ k ∈ ks2) : ks = ks2 := by
  have hp : ks.Perm ks2 := (List.perm_ext_iff_of_nodup A.nd B.nd).mpr h
  refine eq_sorted (R := fun k k' => ltL (postV ks k) (postV ks k') = true) (fun a b h1 h2 => ?_) hp A.srt (B.srt.imp fun {k k'} h => by rw [post_com hp, post_com hp]; exact h)
  rw [ltL_asymm h1] at h2; cases h2
/-- how much of a key an experiment has -/
def wtK (m : Nat) (rows : List (List Int)) (k : List Int) : Int := ((ixs m rows k).map fun j => ((gcdL (colI rows j) : Nat) : Int)).sum
theorem wtK_pos {m : Nat} {rows : List (List Int)} {k : List Int} : 0 ≤ wtK m rows k ∧ (0 < wtK m rows k ↔ ∃ j, j < m ∧ 0 < (colI rows j).sum ∧ lowL (colI rows j) = k) := by
  have nn : ∀ y ∈ (ixs m rows k).map fun j => ((gcdL (colI rows j) : Nat) : Int), 0 ≤ y := fun y hy => by obtain ⟨x, _, rfl⟩ := List.mem_map.mp hy; omega
  refine ⟨sum_nn nn, fun h => ?_, ?_⟩
  · cases q : ixs m rows k with
    | nil => unfold wtK at h; rw [q] at h; simp at h
    | cons a l =>
      obtain ⟨a1, a2, a3⟩ := ixs_mem.mp (show a ∈ ixs m rows k by rw [q]; simp)
      exact ⟨a, a1, a2, a3⟩
  · rintro ⟨j, hj, h1, h2⟩
    have hm : ((gcdL (colI rows j) : Nat) : Int) ∈ (ixs m rows k).map fun j => ((gcdL (colI rows j) : Nat) : Int) := List.mem_map.mpr ⟨j, ixs_mem.mpr ⟨hj, h1, h2⟩, rfl⟩
    have := lowL_le_sum _ nn _ hm
    have := (lowL_sum h1).2.2.2
    unfold wtK
    omega
theorem gsum_key {m : Nat} {rows : List (List Int)} {k : List Int} {t : Nat} {r : List Int} (hr : rows[t]? = some r) : gsum r (toI (ixs m rows k)) = wtK m rows k * k.getD t 0 := by
  rw [gsum_toI, Int.mul_comm]
  unfold wtK
  rw [← sum_mul2]
  refine congrArg _ (List.map_congr_left fun j hj => ?_)
  rw [key_at hj hr, Int.mul_comm]
/-- experiments that tell the same have one standard form -/
theorem std_same {u v : Int} {rows rows2 : List (List Int)} {s m m2 : Nat} (R : RowsOk u rows s m) (R2 : RowsOk v rows2 s m2) (h : ∀ k, v * wtK m rows k = u * wtK m2 rows2 k) :
    low1 u (stdR m rows) = low1 v (stdR m2 rows2) ∧ low2 u (stdR m rows) = low2 v (stdR m2 rows2) := by
  have hu := R.hu
  have hv := R2.hu
  obtain ⟨ks, A⟩ := key_ord m rows
  obtain ⟨ks2, B⟩ := key_ord m2 rows2
  have e : ks = ks2 := A.same B fun k => by
    rw [A.mem, B.mem, ← wtK_pos.2, ← wtK_pos.2]
    have hk := h k
    constructor
    · intro q
      have := Int.mul_pos (show 0 < v by omega) q
      rw [hk] at this
      exact Int.pos_of_mul_pos_right this (by omega)
    · intro q
      have := Int.mul_pos (show 0 < u by omega) q
      rw [← hk] at this
      exact Int.pos_of_mul_pos_right this (by omega)
  subst e
  have em : (stdR m rows).map (fun r => r.map fun n => v * n) = (stdR m2 rows2).map fun r => r.map fun n => u * n := by
    unfold stdR
    rw [A.grp, B.grp]
    apply List.ext_getElem?
    intro t
    rw [List.getElem?_map, List.getElem?_map, List.getElem?_map, List.getElem?_map]
    cases hr : rows[t]? with
    | none =>
      have : rows2[t]? = none := List.getElem?_eq_none (by have := List.getElem?_eq_none_iff.mp hr; have := R.len; have := R2.len; omega)
      rw [this]; rfl
    | some r =>
      have ht := (List.getElem?_eq_some_iff.mp hr).1
      have hr2 : rows2[t]? = some (rows2[t]'(by have := R.len; have := R2.len; omega)) := List.getElem?_eq_getElem _
      rw [hr2]
      show some (((ks.map fun k => toI (ixs m rows k)).map (gsum r)).map fun n => v * n) = some (((ks.map fun k => toI (ixs m2 rows2 k)).map (gsum _)).map fun n => u * n)
      congr 1
      rw [List.map_map, List.map_map, List.map_map, List.map_map]
      refine List.map_congr_left fun k _ => ?_
      show v * gsum r (toI (ixs m rows k)) = u * gsum _ (toI (ixs m2 rows2 k))
      rw [gsum_key hr, gsum_key hr2, ← Int.mul_assoc, ← Int.mul_assoc, h k]
  obtain ⟨z1, z2⟩ := low_scale (k := v.toNat) (by omega) u (stdR m rows)
  obtain ⟨y1, y2⟩ := low_scale (k := u.toNat) (by omega) v (stdR m2 rows2)
  have ev : ((v.toNat : Nat) : Int) = v := Int.toNat_of_nonneg (by omega)
  have eu : ((u.toNat : Nat) : Int) = u := Int.toNat_of_nonneg (by omega)
  rw [ev, em, Int.mul_comm v u] at z1 z2
  rw [eu] at y1 y2
  exact ⟨z1.symm.trans y1, z2.symm.trans y2⟩
theorem iteN {c : Prop} [Decidable c] {a b : Prop} (h : ¬ c) (q : b) : if c then a else b := by rw [if_neg h]; exact q
theorem iteY {c : Prop} [Decidable c] {a b : Prop} (h : c) (q : a) : if c then a else b := by rw [if_pos h]; exact q
theorem d_alike : ∀ ds c xe rt, fAlike xe ds c rt → ds.length = 2 ∧ b_alike (fun e _ c' => xe e c') { nx := fun _ c' => rt .non c', rt := rt, rtN := rt } (ro0 ["one", "other"] ds) c := by
  rintro _ c xe rt ⟨u, v, r1, r2, s, s2, m, m2, rfl, T1, T2, e0, h⟩
  refine ⟨rfl, ?_⟩
  obtain ⟨j1, j2, j3, j4, j5⟩ := lookE u r1
  obtain ⟨i1, i2, i3, i4, i5⟩ := lookE v r2
  have l1 := T1.R.len
  have l2 := T2.R.len
  simp only [zDL, b_alike, expD, mDcNew, mDcApp, mFreezeDc, mItDz, mZipDz, mValsDz, mListZip, mExt]
  refine ⟨"Experiment", expF u r1, "Experiment", expF v r2, r1.length, r2.length, rfl, by decide, by decide, j4, i4, fun z => e0 fun y => z (by rw [l1, l2, y]), fun z => ?_⟩
  have hs : s = s2 := by rw [l1, l2] at z; exact Int.ofNat.inj z
  refine ⟨_, _, s, m, rfl, T1, _, _, s2, m2, rfl, T2, ?_⟩
  simp only [expD]
  exact ⟨⟨trivial, rfl, by decide⟩, fun _ => ⟨_, _, _, _, rfl, .inl ⟨_, _, rfl, rfl⟩, rfl, ⟨_, rfl⟩, h hs⟩⟩
theorem come_sum {u : Int} {rows : List (List Int)} {s m : Nat} (R : RowsOk u rows s m) {r : List Int} (hr : r ∈ rows) : ((comeS m rows).map fun j => r.getD j 0).sum = u := by
  unfold comeS
  rw [sum_filter fun j _ hj => col_zero R.nn (by simpa using hj) hr]
  have := sum_getD r
  rw [(R.row r hr).1] at this
  rw [this]; exact (R.row r hr).2.1
theorem come_ne {u : Int} {rows : List (List Int)} {s m : Nat} (R : RowsOk u rows s m) : 1 ≤ (comeS m rows).length := by
  have s1 := R.s1
  obtain ⟨r, hr⟩ : ∃ r, r ∈ rows := by
    cases rows with
    | nil => have := R.len; simp at this; omega
    | cons a b => exact ⟨a, by simp⟩
  have hs := come_sum R hr
  cases q : comeS m rows with
  | nil =>
    rw [q] at hs
    have hu := R.hu
    have hs : (0 : Int) = u := hs
    omega
  | cons a b => simp
theorem come_len (m : Nat) (rows : List (List Int)) : (comeS m rows).length ≤ m := by
  unfold comeS
  have := List.length_filter_le (fun j => decide (0 < (colI rows j).sum)) (List.range m)
  rw [List.length_range] at this; exact this
theorem wo_row {u : Int} {rows : List (List Int)} {s m : Nat} (R : RowsOk u rows s m) : ∀ r ∈ woE m rows, r.length = (comeS m rows).length ∧ r.sum = u ∧ ∀ x ∈ r, 0 ≤ x := fun r hr => by
  unfold woE at hr
  obtain ⟨q, hq, rfl⟩ := List.mem_map.mp hr
  refine ⟨List.length_map _, come_sum R hq, fun x hx => ?_⟩
  obtain ⟨j, hj, rfl⟩ := List.mem_map.mp hx
  have hj : j < m := by unfold comeS at hj; simpa using (List.mem_filter.mp hj).1
  exact (R.row q hq).2.2 _ (getD_mem (by rw [(R.row q hq).1]; exact hj)).1
theorem wo_ok {u : Int} {rows : List (List Int)} {s m : Nat} (R : RowsOk u rows s m) : RowsOk u (woE m rows) s (comeS m rows).length :=
  ⟨R.hu, R.hs, R.s1, R.s4, come_ne R, by have := come_len m rows; have := R.m64; omega, by unfold woE; rw [List.length_map]; exact R.len, wo_row R⟩
theorem turn_cols {α : Type} {rows : List (List Int)} {s : Nat} (hs : rows.length = s) (l : List α) (f : α → Nat) : turnR s (l.map fun j => colI rows (f j)) = rows.map fun r => l.map fun j => r.getD (f j) 0 := by
  apply List.ext_getElem?
  intro i
  rw [List.getElem?_map]
  by_cases hi : i < s
  · have hr : rows[i]? = some rows[i] := List.getElem?_eq_getElem (by omega)
    rw [turnR_get hi, hr]
    show some (colI _ i) = some _
    congr 1
    show ((l.map fun j => colI rows (f j)).map fun r => r.getD i 0) = _
    rw [List.map_map]
    exact List.map_congr_left fun j _ => colI_get hr (f j)
  · have z1 : (turnR s (l.map fun j => colI rows (f j)))[i]? = none := by rw [List.getElem?_eq_none]; rw [turnR_len]; omega
    have z2 : rows[i]? = none := by rw [List.getElem?_eq_none]; omega
    rw [z1, z2]; rfl
theorem rowOf_ints (r : List Int) : rowOf (.lst (r.map .int)) = r := by
  show (r.map D.int).map intOf = r
  rw [List.map_map]
  have : (intOf ∘ D.int) = id := rfl
  rw [this, List.map_id]
theorem d_without_empty : ∀ ds c xe rt, fWithout xe ds c rt → ds.length = 1 ∧ b_without_empty (fun _ _ _ => False) { nx := fun _ c' => rt .non c', rt := rt, rtN := rt } (ro0 ["e", "column"] ds) c := by
  rintro _ c xe rt ⟨u, rows, s, m, rfl, R, m24, h⟩
  refine ⟨rfl, ?_⟩
  have s1 := R.s1
  have s4 := R.s4
  have gn := come_ne R
  have gl := come_len m rows
  obtain ⟨j1, j2, j3, j4, j5⟩ := lookE u rows
  simp only [zDL, b_without_empty, expD, mDcNew, mDcApp, mFreezeDc, mItDz, mZipDz, mValsDz, mListZip, mExt, j1, j2]
  refine ⟨by decide, lc_it ?_⟩
  simp only [zDL, mDcNew, mDcApp, mFreezeDc, mItDz, mZipDz, mValsDz, mListZip, mExt, j1, j2]
  refine ⟨⟨trivial, trivial⟩, u, rows, rfl, by rw [R.len]; omega, rows, m, rfl, ⟨by rw [R.len]; exact s1, by rw [R.len]; omega⟩, by have := R.m64; omega, fun r hr => (R.row r hr).1, ?_⟩
  refine LcOk.filter (fun d => decide (0 < (rowOf d).sum)) (fun d => d) (by rw [rowsD_len', turnR_len]; omega) (fun d hd post q1 q2 => ?_) ?_
  · unfold rowsD at hd
    obtain ⟨r, _, rfl⟩ := List.mem_map.mp hd
    rw [rowOf_ints] at q1 q2
    simp only [zDL, mDcNew, mDcApp, mFreezeDc, mItDz, mZipDz, mValsDz, mListZip, mExt, wipeR]
    refine dSum_it rfl (all_ints _) ?_
    rw [sumD_ints]
    dsimp only
    by_cases z : 0 < r.sum
    · rw [if_pos (show decide (0 < r.sum) = true from decide_eq_true z)]; exact q1 (decide_eq_true z)
    · rw [if_neg (show ¬ decide (0 < r.sum) = true from by simpa using z)]; exact q2 (decide_eq_false z)
  have e : ((rowsD (turnR m rows)).filter fun d => decide (0 < (rowOf d).sum)).map (fun d => d) = rowsD ((comeS m rows).map fun j => colI rows j) := by
    rw [List.map_id']
    unfold rowsD turnR comeS
    rw [List.map_map, List.filter_map, List.map_map]
    have e1 : ((fun d => decide (0 < (rowOf d).sum)) ∘ (fun r => D.lst (r.map .int)) ∘ fun k => rows.map fun r => r.getD k 0) = fun j => decide (0 < (colI rows j).sum) := by
      funext j
      show decide (0 < (rowOf (.lst ((colI rows j).map .int))).sum) = _
      rw [rowOf_ints]
    rw [e1]; rfl
  rw [e]
  refine ⟨_, s, rfl, ⟨by rw [List.length_map]; exact gn, by rw [List.length_map]; omega⟩, by omega, fun r hr => ?_, ?_⟩
  · obtain ⟨j, _, rfl⟩ := List.mem_map.mp hr
    unfold colI
    rw [List.length_map]; exact R.len
  rw [turn_cols R.len (comeS m rows) fun j => j]
  have O := wo_ok R
  exact mk_exp (n := (comeS m rows).length) (.inl rfl) (areRows_lst _) O.hu (O.hs.up (by decide)) (by rw [show (rows.map fun r => (comeS m rows).map fun j => r.getD j 0).length = s from O.len]; exact s1) (by rw [show (rows.map fun r => (comeS m rows).map fun j => r.getD j 0).length = s from O.len]; exact s4) (by omega) O.row h
theorem sum_flatMap {α : Type} (f : α → List Int) : ∀ l : List α, (l.flatMap f).sum = (l.map fun a => (f a).sum).sum
  | [] => rfl
  | a :: l => by rw [List.flatMap_cons, List.sum_append, sum_flatMap f l, List.map_cons, List.sum_cons]
theorem sp_row {u : Int} {m i : Nat} {ws r : List Int} (hr : r.length = m ∧ r.sum = u ∧ ∀ x ∈ r, 0 ≤ x) (hw : ∀ w ∈ ws, 0 ≤ w) : (spRow i ws r).sum = u * ws.sum ∧ ∀ x ∈ spRow i ws r, 0 ≤ x := by
  obtain ⟨h1, h2, h3⟩ := hr
  constructor
  · unfold spRow
    rw [sum_flatMap]
    have e : (fun j => ((if j = i then ws else [ws.sum]).map fun f => r.getD j 0 * f).sum) = fun j => ws.sum * r.getD j 0 := by
      funext j
      rw [sum_mul]
      split
      · rw [Int.mul_comm]
      · rw [List.sum_cons, List.sum_nil, Int.add_zero, Int.mul_comm]
    rw [e, sum_mul2, sum_getD, h2, Int.mul_comm]
  · intro x hx
    unfold spRow at hx
    obtain ⟨j, hj, hx⟩ := List.mem_flatMap.mp hx
    obtain ⟨f, hf, rfl⟩ := List.mem_map.mp hx
    have hj : j < r.length := by simpa using hj
    refine Int.mul_nonneg (h3 _ (getD_mem hj).1) ?_
    split at hf
    · exact hw f hf
    · rw [List.mem_singleton.mp hf]; exact sum_nn hw
theorem flatMap_len {α β : Type} (f : α → List β) : ∀ l : List α, (l.flatMap f).length = (l.map fun a => (f a).length).sum
  | [] => rfl
  | a :: l => by rw [List.flatMap_cons, List.length_append, flatMap_len f l, List.map_cons, List.sum_cons]
/-- the columns of a split -/
def spCol (i : Nat) (ws : List Int) (rows : List (List Int)) (j : Nat) : List (List Int) := (if j = i then ws else [ws.sum]).map fun f => (colI rows j).map fun n => n * f
theorem spCol_len {i : Nat} {ws : List Int} {rows : List (List Int)} (h8 : ws.length ≤ 8) : ∀ (n : Nat), ((List.range n).flatMap (spCol i ws rows)).length ≤ n + 7 := fun n => by
  have go : ∀ n, ((List.range n).flatMap (spCol i ws rows)).length ≤ n + (if i < n then 7 else 0) := by
    intro n
    induction n with
    | zero => simp
    | succ n ih =>
      rw [List.range_succ, List.flatMap_append, List.length_append]
      have e : ([n].flatMap (spCol i ws rows)).length = if n = i then ws.length else 1 := by
        rw [List.flatMap_cons, List.flatMap_nil, List.append_nil]
        unfold spCol
        rw [List.length_map]
        split <;> rfl
      rw [e]
      by_cases z : n = i
      · subst z
        rw [if_pos rfl, if_pos (by omega)]
        rw [if_neg (by omega)] at ih
        omega
      · rw [if_neg z]
        by_cases y : i < n
        · rw [if_pos y] at ih; rw [if_pos (by omega)]; omega
        · rw [if_neg y] at ih; rw [if_neg (by omega)]; omega
  have := go n
  split at this <;> omega
theorem sp_len {m i : Nat} {ws r : List Int} {rows : List (List Int)} (h : r.length = m) : (spRow i ws r).length = ((List.range m).flatMap (spCol i ws rows)).length := by
  unfold spRow
  rw [flatMap_len, flatMap_len, h]
  congr 1
  refine List.map_congr_left fun j _ => ?_
  unfold spCol
  rw [List.length_map, List.length_map]
theorem turn_sp {rows : List (List Int)} {s m i : Nat} {ws : List Int} (hs : rows.length = s) (hm : ∀ r ∈ rows, r.length = m) : turnR s ((List.range m).flatMap (spCol i ws rows)) = rows.map (spRow i ws) := by
  apply List.ext_getElem?
  intro t
  rw [List.getElem?_map]
  by_cases ht : t < s
  · have hr : rows[t]? = some rows[t] := List.getElem?_eq_getElem (by omega)
    rw [turnR_get ht, hr]
    show some (colI _ t) = some (spRow i ws rows[t])
    congr 1
    unfold spRow
    rw [hm _ (List.getElem_mem _)]
    show ((List.range m).flatMap (spCol i ws rows)).map (fun r => r.getD t 0) = _
    rw [List.map_flatMap]
    congr 1
    funext j
    unfold spCol
    rw [List.map_map]
    refine List.map_congr_left fun f _ => ?_
    show ((colI rows j).map fun n => n * f).getD t 0 = _
    have e : ((colI rows j).map fun n => n * f) = (colI rows j).map fun n => f * n := List.map_congr_left fun n _ => Int.mul_comm _ _
    rw [e, getD_scale, colI_get hr, Int.mul_comm]
  · have z1 : (turnR s ((List.range m).flatMap (spCol i ws rows)))[t]? = none := by rw [List.getElem?_eq_none]; rw [turnR_len]; omega
    have z2 : rows[t]? = none := by rw [List.getElem?_eq_none]; omega
    rw [z1, z2]; rfl
theorem wts_itS {wd : D} (h : areWts wd = true) : ∃ ws : List Int, (wd = .lst (ws.map .int) ∨ wd = .tup (ws.map .int)) ∧ rowOf wd = ws ∧ 0 < ws.sum ∧ ∀ w ∈ ws, 0 ≤ w := by
  unfold areWts areAms areInts at h
  rw [Bool.and_eq_true, Bool.and_eq_true] at h
  obtain ⟨⟨h1, h2⟩, h3⟩ := h
  have go : ∀ l : List D, items wd = some l → (wd = .lst l ∨ wd = .tup l) → ∃ ws : List Int, (wd = .lst (ws.map .int) ∨ wd = .tup (ws.map .int)) ∧ rowOf wd = ws ∧ 0 < ws.sum ∧ ∀ w ∈ ws, 0 ≤ w := fun l hl hw => by
    rw [hl] at h1 h2 h3
    have e := nums_of h1
    have er : rowOf wd = l.map intOf := by unfold rowOf; rw [hl]
    refine ⟨l.map intOf, by rw [← e]; exact hw, er, of_decide_eq_true h3, fun w hw => ?_⟩
    obtain ⟨d, hd, rfl⟩ := List.mem_map.mp hw
    exact of_decide_eq_true (List.all_eq_true.mp h2 d hd)
  cases wd with
  | lst l => exact go l rfl (.inl rfl)
  | tup l => exact go l rfl (.inr rfl)
  | _ => cases h1
theorem d_split : ∀ ds c xe rt, fSplitE xe ds c rt → ds.length = 3 ∧ b_split (fun e _ c' => xe e c') { nx := fun _ c' => rt .non c', rt := rt, rtN := rt } (ro0 ["e", "signal", "weights", "whole", "columns", "at", "column", "factors", "factor", "number"] ds) c := by
  rintro _ c xe rt ⟨u, rows, s, m, sd, wd, rfl, R, ⟨m6, u1⟩, ps, ⟨pw, wl⟩, e1, e2, h⟩
  refine ⟨rfl, ?_⟩
  have s1 := R.s1
  have s4 := R.s4
  have m1 := R.m1
  obtain ⟨j1, j2, j3, j4, j5⟩ := lookE u rows
  have hd0 : (rows.headD []).length = m := R.head
  simp only [zDL, b_split, expD, mDcNew, mDcApp, mFreezeDc, mItDz, mZipDz, mValsDz, mListZip, mExt, j1, j2, j5]
  rw [hd0]
  refine ⟨by decide, sd, m, rfl, ps, ?_⟩
  cases hb : belowB sd m with
  | false => exact e1 hb
  | true =>
    dsimp only
    refine ⟨wd, rfl, pw, ?_⟩
    cases hw : areWts wd with
    | false => exact e2 hb hw
    | true =>
      obtain ⟨ws, hws, er, w0, wn⟩ := wts_itS hw
      have h9 := h hb hw
      rw [er] at h9
      have it := it_of hws
      obtain ⟨w8, wb⟩ := wl _ it
      rw [List.length_map] at w8
      obtain ⟨es, sd0, sd1⟩ := below_num hb
      obtain ⟨i, hi⟩ : ∃ i : Nat, intOf sd = i := ⟨(intOf sd).toNat, by omega⟩
      rw [hi] at es sd1 h9
      subst es
      have him : i < m := by omega
      rw [Int.toNat_natCast] at h9
      have wle : ∀ w ∈ ws, 0 ≤ w ∧ w ≤ 1000 := fun w hw => ⟨wn w hw, (wb (.int w) (List.mem_map.mpr ⟨w, hw, rfl⟩)).2⟩
      have wsb : ws.sum ≤ 8000 := by
        have := sumB (B := 1000) fun w hw => (wle w hw).2
        omega
      simp only [Bool.not_true, Bool.false_eq_true, if_false]
      refine dSum_it it (all_ints _) ?_
      rw [sumD_ints]
      have cl := fun (n : Nat) => spCol_len (i := i) (rows := rows) (by omega : ws.length ≤ 8) n
      have cb : ∀ k, k < m → ∀ n ∈ colI rows k, Sm 30 n := fun k hk n hn => by
        unfold colI at hn
        obtain ⟨r, hr, rfl⟩ := List.mem_map.mp hn
        obtain ⟨h1, h2, h3⟩ := R.row r hr
        have hm := (getD_mem (r := r) (k := k) (by omega)).1
        have := lowL_le_sum r h3 _ hm
        have := h3 _ hm
        unfold Sm
        have : (2 : Nat) ^ 30 = 1073741824 := by decide
        omega
      have sm : ∀ f : Int, 0 ≤ f → f ≤ 8000 → Sm 30 f := fun f h0 h1 => by
        unfold Sm
        have : (2 : Nat) ^ 30 = 1073741824 := by decide
        omega
      refine ⟨by decide, ?_⟩
      refine forS (enumD (rowsD (turnR m rows))) (fun k ρ c' => c' = c ∧ ∃ s5 s6 s7 : S, ρ = [.sh (.ins "Experiment" (expF u rows)), .sh (.int i), .sh wd, .sh (.int ws.sum), .own (rowsD ((List.range k).flatMap (spCol i ws rows))), s5, s6, s7, .no, .no]) (fun P q => by
        simp only [zDL, mEnum, mDcNew, mDcApp, mFreezeDc, mItDz, mZipDz, mValsDz, mListZip, mExt, j1, j2]
        exact ⟨⟨trivial, trivial⟩, u, rows, rfl, by rw [R.len]; omega, rows, m, rfl, ⟨by rw [R.len]; exact s1, by rw [R.len]; omega⟩, by have := R.m64; omega, fun r hr => (R.row r hr).1, q⟩) ⟨rfl, _, _, _, rfl⟩ ?_ ?_
      · rintro k x ρ c' hx ⟨rfl, s5, s6, s7, rfl⟩
        obtain ⟨d, hd, rfl⟩ := get_enum hx
        obtain ⟨col, hcol, rfl⟩ := get_mapS (f := fun r : List Int => D.lst (r.map .int)) (by unfold rowsD at hd; exact hd)
        have hk : k < m := by have := (List.getElem?_eq_some_iff.mp hcol).1; rw [turnR_len] at this; exact this
        rw [turnR_get hk] at hcol
        obtain rfl : colI rows k = col := Option.some.inj hcol
        have ln : (colI rows k).length = s := by unfold colI; rw [List.length_map]; exact R.len
        have inner : ∀ (f : Int), Sm 30 f → ∀ (t4 t5 t7 : S) (post : D → Nat → Prop), post (.lst (((colI rows k).map fun n => n * f).map .int)) c' → mLc (mItS (mVar 6)) (gN 9) mYes (mOp (dI CMulW fun i j => i * j) (mVar 9) (mVar 8)) [9] (fun e x c'_1 => xe e c'_1) [.sh (.ins "Experiment" (expF u rows)), .sh (.int i), .sh wd, .sh (.int ws.sum), t4, t5, .sh (.lst ((colI rows k).map .int)), t7, .sh (.int f), .no] c' (fun l c1 => post (.lst l) c1) := fun f hf t4 t5 t7 post hq => by
          refine lcS ((colI rows k).map .int) (fun d => .int (intOf d * f)) (fun P q => by simp only [zDL, mDcNew, mDcApp, mFreezeDc, mItDz, mZipDz, mValsDz, mListZip, mExt]; exact q) (by rw [List.length_map]; omega) (fun d hd post hq => ?_) ?_
          · obtain ⟨n, hn, rfl⟩ := List.mem_map.mp hd
            simp only [zDL, mDcNew, mDcApp, mFreezeDc, mItDz, mZipDz, mValsDz, mListZip, mExt, wipeR]
            exact ⟨mulw (cb k hk n hn) hf (by decide) (by decide) (by decide), hq⟩
          · have e : ((colI rows k).map D.int).map (fun d => D.int (intOf d * f)) = ((colI rows k).map fun n => n * f).map .int := by rw [List.map_map, List.map_map]; rfl
            rw [e]; exact hq
        have outE : ∀ fs : List Int, (fs.map D.int).map (fun d => D.lst (((colI rows k).map fun n => n * intOf d).map .int)) = rowsD (fs.map fun f => (colI rows k).map fun n => n * f) := fun fs => by
          unfold rowsD
          rw [List.map_map, List.map_map]; rfl
        have stepE : rowsD ((List.range k).flatMap (spCol i ws rows)) ++ rowsD (spCol i ws rows k) = rowsD ((List.range (k + 1)).flatMap (spCol i ws rows)) := by
          rw [List.range_succ, List.flatMap_append]
          unfold rowsD
          rw [List.map_append, List.flatMap_cons, List.flatMap_nil, List.append_nil]
        have ck := cl k
        simp only [zDL, mDcNew, mDcApp, mFreezeDc, mItDz, mZipDz, mValsDz, mListZip, mExt]
        refine ⟨trivial, ⟨ok_int _ _, ok_int _ _⟩, ?_⟩
        rw [eqv_int]
        by_cases z : k = i
        · refine iteY (by simp [z]) ?_
          refine lcS (ws.map .int) (fun d => .lst (((colI rows k).map fun n => n * intOf d).map .int)) (fun P q => by simp only [zDL, mDcNew, mDcApp, mFreezeDc, mItDz, mZipDz, mValsDz, mListZip, mExt]; exact dSeq_it it q) (by rw [List.length_map]; omega) (fun d hd post hq => ?_) ?_
          · obtain ⟨f, hf, rfl⟩ := List.mem_map.mp hd
            simp only [zDL, mDcNew, mDcApp, mFreezeDc, mItDz, mZipDz, mValsDz, mListZip, mExt, wipeR]
            exact inner f (sm f (wle f hf).1 (by have := (wle f hf).2; omega)) _ _ _ post hq
          · rw [outE]
            refine ⟨_, rfl, by rw [rowsD_len', rowsD_len', List.length_map]; omega, rfl, .sh (.int k), .sh (.lst ((colI rows k).map .int)), .sh wd, ?_⟩
            have : rowsD (ws.map fun f => (colI rows k).map fun n => n * f) = rowsD (spCol i ws rows k) := by unfold spCol; rw [if_pos z]
            rw [this, stepE]
        · refine iteN (by simp; omega) ⟨by decide, ?_⟩
          refine lcS ([ws.sum].map .int) (fun d => .lst (((colI rows k).map fun n => n * intOf d).map .int)) (fun P q => by simp only [zDL, mDcNew, mDcApp, mFreezeDc, mItDz, mZipDz, mValsDz, mListZip, mExt]; exact q) (by simp) (fun d hd post hq => ?_) ?_
          · obtain ⟨f, hf, rfl⟩ := List.mem_map.mp hd
            rw [List.mem_singleton] at hf
            subst hf
            simp only [zDL, mDcNew, mDcApp, mFreezeDc, mItDz, mZipDz, mValsDz, mListZip, mExt, wipeR]
            exact inner _ (sm _ (by omega) wsb) _ _ _ post hq
          · rw [outE]
            refine ⟨_, rfl, by rw [rowsD_len', rowsD_len', List.length_map]; show _ + 1 ≤ 1000000; omega, rfl, .sh (.int k), .sh (.lst ((colI rows k).map .int)), .sh (.lst [.int ws.sum]), ?_⟩
            have : rowsD ([ws.sum].map fun f => (colI rows k).map fun n => n * f) = rowsD (spCol i ws rows k) := by unfold spCol; rw [if_neg z]
            rw [this, stepE]
      · rintro ρ c' ⟨rfl, s5, s6, s7, rfl⟩
        rw [enum_len, rowsD_len', turnR_len]
        simp only [zDL, mDcNew, mDcApp, mFreezeDc, mItDz, mZipDz, mValsDz, mListZip, mExt, j2]
        have W1 : 1 ≤ u * ws.sum := by have := Int.mul_pos (show 0 < u by have := R.hu; omega) w0; omega
        have Ws : Sm 230 (u * ws.sum) := by
          have : u * ws.sum ≤ 1000 * 8000 := Int.mul_le_mul u1 wsb (by omega) (by decide)
          have e30 : (2 : Nat) ^ 30 = 1073741824 := by decide
          have l30 : (u * ws.sum).natAbs < 2 ^ 30 := by omega
          exact Nat.lt_of_lt_of_le l30 (Nat.pow_le_pow_right (by decide) (by decide))
        have ne : 1 ≤ ((List.range m).flatMap (spCol i ws rows)).length := by
          have wl0 : ws ≠ [] := fun z => by rw [z] at w0; simp at w0
          have hm0 : ((spCol i ws rows 0)).length ≤ ((List.range m).flatMap (spCol i ws rows)).length := by
            rw [flatMap_len]
            obtain ⟨m', rfl⟩ : ∃ m', m = m' + 1 := ⟨m - 1, by omega⟩
            rw [List.range_succ_eq_map, List.map_cons, List.sum_cons]; omega
          have : 1 ≤ (spCol i ws rows 0).length := by
            unfold spCol
            rw [List.length_map]
            split
            · cases ws with | nil => exact absurd rfl wl0 | cons a b => simp
            · simp
          omega
        have cm := cl m
        refine ⟨by decide, mulw (k := 200) (l := 30) R.hs (sm _ (by omega) wsb) (by decide) (by decide) (by decide), _, s, rfl, ⟨ne, by omega⟩, by omega, fun r hr => ?_, ?_⟩
        · obtain ⟨j, _, hr⟩ := List.mem_flatMap.mp hr
          unfold spCol at hr
          obtain ⟨f, _, rfl⟩ := List.mem_map.mp hr
          unfold colI
          rw [List.length_map, List.length_map]; exact R.len
        rw [turn_sp R.len fun r hr => (R.row r hr).1]
        refine mk_exp (n := ((List.range m).flatMap (spCol i ws rows)).length) (.inl rfl) (areRows_lst _) W1 (Ws.up (by decide)) (by rw [List.length_map, R.len]; exact s1) (by rw [List.length_map, R.len]; exact s4) (by omega) (fun r hr => ?_) h9
        obtain ⟨q, hq, rfl⟩ := List.mem_map.mp hr
        exact ⟨sp_len (R.row q hq).1, (sp_row (R.row q hq) wn).1, (sp_row (i := i) (R.row q hq) wn).2⟩
theorem d_law_told : ∀ ds c xe rt, fTold74 xe ds c rt → ds.length = 3 ∧ b_law_told (fun _ _ _ => False) { nx := fun _ c' => rt .non c', rt := rt, rtN := rt } (ro0 ["_law_e", "_law_signal", "_law_weights", "error"] ds) c := by
  rintro _ c xe rt ⟨u, rows, s, m, sd, wd, rfl, R, mu, ps, W, h⟩
  refine ⟨rfl, ?_⟩
  have t1 : Tab.get tab "NoSignal" "NoSignal" = some true := by decide
  have t2 : Tab.get tab "BadWeights" "NoSignal" = some false := by decide
  have t3 : Tab.get tab "BadWeights" "BadWeights" = some true := by decide
  unfold tellD at h
  simp only [zDL, b_law_told, mTry, mDcNew, mDcApp, mFreezeDc, mItDz, mZipDz, mValsDz, mListZip, mExt]
  refine ⟨u, rows, s, m, sd, wd, rfl, R, mu, ps, W, fun z => ?_, fun z1 z2 => ?_, fun z1 z2 => ?_⟩
  · rw [if_pos z] at h
    simp only [hOf, errV, t1]
    intro a cls dd
    simp only [zDM, dSet, mXf, mDcNew, mDcApp, mFreezeDc, mItDz, mZipDz, mValsDz, mListZip, mExt]
    exact ⟨⟨trivial, trivial, trivial, trivial⟩, trivial, by decide, h⟩
  · rw [if_neg (by rw [z1]; decide), if_pos z2] at h
    simp only [hOf, errW, t2, t3]
    intro a cls dd
    simp only [zDM, dSet, mDcNew, mDcApp, mFreezeDc, mItDz, mZipDz, mValsDz, mListZip, mExt]
    exact ⟨by decide, h⟩
  · rw [if_neg (by rw [z1]; decide), if_neg (by rw [z2]; decide)] at h
    exact h
theorem d_law_with_empty : ∀ ds c xe rt, fWithE xe ds c rt → ds.length = 2 ∧ b_law_with_empty (fun _ _ _ => False) { nx := fun _ c' => rt .non c', rt := rt, rtN := rt } (ro0 ["_law_pool_here", "_law_table_here", "_law_at", "_law_row_here"] ds) c := by
  rintro _ c xe rt ⟨u, rows, s, m, rfl, RM, ⟨s1, s4⟩, ⟨m1, m5⟩, hc, h⟩
  refine ⟨rfl, ?_⟩
  obtain ⟨p0, g0⟩ : ∃ p, rows[0]? = some p := ⟨_, List.getElem?_eq_getElem (by rw [RM.1]; omega)⟩
  have w0 := (RM.2 _ (List.mem_of_getElem? g0)).1
  have g0r : (rowsD rows)[0]? = some (.lst (p0.map .int)) := by unfold rowsD; rw [List.getElem?_map, g0]; rfl
  simp only [zDL, b_law_with_empty, tblD, mDcNew, mDcApp, mFreezeDc, mItDz, mZipDz, mValsDz, mListZip, mExt]
  refine dIx_it (k := 1) rfl rfl (dIx_it (k := 0) rfl g0r (dLen_it rfl ?_))
  rw [List.length_map, w0]
  refine take_ok (by omega) (by omega) (by omega) fun i i0 i1 => ?_
  obtain ⟨i, rfl⟩ : ∃ j : Nat, i = j := ⟨i.toNat, by omega⟩
  have him : i ≤ m := by omega
  refine dIx_it (k := 0) rfl rfl ?_
  refine lcS (rowsD rows) (fun d => .lst (((rowOf d).take i ++ [0] ++ (rowOf d).drop i).map .int)) (fun P q => by simp only [zDL, mDcNew, mDcApp, mFreezeDc, mItDz, mZipDz, mValsDz, mListZip, mExt]; exact dIx_it (k := 1) rfl rfl q) (by rw [rowsD_len', RM.1]; omega) (fun d hd post hq => ?_) ?_
  · unfold rowsD at hd
    obtain ⟨r, hr, rfl⟩ := List.mem_map.mp hd
    have rl := (RM.2 r hr).1
    rw [rowOf_ints] at hq
    simp only [zDL, mDcNew, mDcApp, mFreezeDc, mItDz, mZipDz, mValsDz, mListZip, mExt, wipeR]
    rw [cut_head (by rw [List.length_map]; omega), cut_tail (by rw [List.length_map]; omega)]
    refine ⟨by decide, by simp; omega, by simp; omega, ?_⟩
    rw [List.map_append, List.map_append] at hq
    rw [← List.map_take, ← List.map_drop]
    exact hq
  · have e : (rowsD rows).map (fun d => D.lst (((rowOf d).take i ++ [0] ++ (rowOf d).drop i).map .int)) = rowsD (rows.map fun r => r.take i ++ [0] ++ r.drop i) := by
      unfold rowsD
      rw [List.map_map, List.map_map]
      refine List.map_congr_left fun r _ => ?_
      show D.lst (((rowOf (.lst (r.map .int))).take i ++ [0] ++ (rowOf (.lst (r.map .int))).drop i).map .int) = _
      rw [rowOf_ints]; rfl
    rw [e]
    refine ⟨by decide, h _ _ ⟨by rw [List.length_map]; exact RM.1, fun r hr => ?_⟩ (by omega)⟩
    obtain ⟨q, hq, rfl⟩ := List.mem_map.mp hr
    obtain ⟨h1, h2, h3⟩ := RM.2 q hq
    refine ⟨by simp; omega, ?_, fun x hx => ?_⟩
    · rw [List.sum_append, List.sum_append]
      have := congrArg List.sum (List.take_append_drop i q)
      rw [List.sum_append] at this
      simp; omega
    · rcases List.mem_append.mp hx with hx | hx
      · rcases List.mem_append.mp hx with hx | hx
        · exact h3 x (List.mem_of_mem_take hx)
        · rw [List.mem_singleton.mp hx]; decide
      · exact h3 x (List.mem_of_mem_drop hx)
theorem num_cases {d : D} (p : plain d) : (∃ z, d = .int z) ∨ isNum d = false := by
  cases d with
  | int z => exact .inl ⟨z, rfl⟩
  | _ => exact .inr rfl
theorem wts_false {wl : List D} {x : D} (hx : x ∈ wl) (h : isNum x = false ∨ intOf x < 0) : areWts (.lst wl) = false := by
  cases q : areWts (.lst wl) with
  | false => rfl
  | true =>
    unfold areWts areAms areInts at q
    rw [Bool.and_eq_true, Bool.and_eq_true] at q
    obtain ⟨⟨h1, h2⟩, _⟩ := q
    have a1 := List.all_eq_true.mp (show wl.all isNum = true from h1) x hx
    have a2 := of_decide_eq_true (List.all_eq_true.mp (show (wl.all fun x => decide (0 ≤ intOf x)) = true from h2) x hx)
    rcases h with h | h
    · rw [h] at a1; cases a1
    · omega
theorem d_law_due : ∀ ds c xe rt, fDue74 xe ds c rt → ds.length = 3 ∧ b_law_due (fun _ _ _ => False) { nx := fun _ c' => rt .non c', rt := rt, rtN := rt } (ro0 ["_law_table_here", "_law_signal", "_law_weights", "_law_weight", "_law_whole", "_law_rows_here", "_law_row_here", "_law_made", "_law_at"] ds) c := by
  rintro _ c xe rt ⟨u, rows, s, m, sd, wl, rfl, R, ⟨m6, u1⟩, ps, ⟨pw, wb⟩, h⟩
  refine ⟨rfl, ?_⟩
  have s1 := R.s1
  have s4 := R.s4
  obtain ⟨p0, g0⟩ : ∃ p, rows[0]? = some p := ⟨_, List.getElem?_eq_getElem (by rw [R.len]; omega)⟩
  have w0 := (R.row _ (List.mem_of_getElem? g0)).1
  have g0r : (rowsD rows)[0]? = some (.lst (p0.map .int)) := by unfold rowsD; rw [List.getElem?_map, g0]; rfl
  obtain ⟨w8, wbb⟩ := wb wl rfl
  have pwl := (pw.2 wl rfl).2
  unfold tellD at h
  simp only [zDL, b_law_due, tblD, mDcNew, mDcApp, mFreezeDc, mItDz, mZipDz, mValsDz, mListZip, mExt]
  refine ⟨sd, rfl, ps, ?_⟩
  rcases (num_cases ps).symm with hn | ⟨z, rfl⟩
  · rw [hn]
    refine iteY (by decide) ?_
    rw [if_pos (by unfold belowB; rw [hn]; rfl)] at h
    exact iteY trivial ⟨by decide, h⟩
  refine iteN (by show ¬ ((!true) = true); decide) ?_
  dsimp only
  by_cases z0 : z < 0
  · rw [if_pos (decide_eq_true z0)]
    rw [if_pos (by show (true && (decide (0 ≤ z) && decide (z < (m : Int)))) = false; rw [decide_eq_false (by omega)]; rfl)] at h
    exact iteY trivial ⟨by decide, h⟩
  rw [if_neg (by rw [decide_eq_false z0]; decide)]
  refine dIx_it (k := 1) rfl rfl (dIx_it (k := 0) rfl g0r (dLen_it rfl ?_))
  rw [List.length_map, w0]
  dsimp only
  by_cases z1 : (m : Int) ≤ z
  · refine iteY (decide_eq_true z1) ?_
    rw [if_pos (by show (true && (decide (0 ≤ z) && decide (z < (m : Int)))) = false; rw [decide_eq_false (show ¬ z < (m : Int) by omega)]; simp)] at h
    exact ⟨by decide, h⟩
  refine iteN (by rw [decide_eq_false z1]; decide) ?_
  have hb : belowB (.int z) m = true := by show (true && (decide (0 ≤ z) && decide (z < (m : Int)))) = true; rw [decide_eq_true (by omega), decide_eq_true (by omega)]; rfl
  rw [if_neg (by rw [hb]; decide)] at h
  obtain ⟨i, rfl⟩ : ∃ i : Nat, z = i := ⟨z.toNat, by omega⟩
  have him : i < m := by omega
  refine forS wl (fun k ρ c' => c' = c ∧ (∀ j x, j < k → wl[j]? = some x → isNum x = true ∧ 0 ≤ intOf x) ∧ ∃ s3 : S, ρ = [.sh (.lst [.int u, .lst (rowsD rows)]), .sh (.int i), .sh (.lst wl), s3, .no, .no, .no, .no, .no]) (fun P q => by simp only [zDL, mDcNew, mDcApp, mFreezeDc, mItDz, mZipDz, mValsDz, mListZip, mExt]; exact q) ⟨rfl, fun j x hj => absurd hj (by omega), _, rfl⟩ ?_ ?_
  · rintro k x ρ c' hx ⟨rfl, hok, s3, rfl⟩
    have hxm := List.mem_of_getElem? hx
    simp only [zDL, mDcNew, mDcApp, mFreezeDc, mItDz, mZipDz, mValsDz, mListZip, mExt]
    refine ⟨x, rfl, pwl x hxm, ?_⟩
    rcases (num_cases (pwl x hxm)).symm with hn | ⟨y, rfl⟩
    · rw [hn]
      refine iteY (by decide) (iteY trivial ⟨by decide, ?_⟩)
      rw [if_pos (wts_false hxm (.inl hn))] at h; exact h
    refine iteN (by show ¬ ((!true) = true); decide) ?_
    dsimp only
    by_cases y0 : y < 0
    · refine iteY (decide_eq_true y0) ⟨by decide, ?_⟩
      rw [if_pos (wts_false hxm (.inr y0))] at h; exact h
    · refine iteN (by rw [decide_eq_false y0]; decide) ⟨rfl, fun j x hj hjx => ?_, _, rfl⟩
      rcases Nat.lt_succ_iff_lt_or_eq.mp hj with hj | rfl
      · exact hok j x hj hjx
      · rw [hx] at hjx
        cases hjx
        exact ⟨rfl, by show 0 ≤ y; omega⟩
  · rintro ρ c' ⟨rfl, hok, s3, rfl⟩
    have hall : ∀ x ∈ wl, isNum x = true ∧ 0 ≤ intOf x := fun x hx => by
      obtain ⟨j, hj⟩ := List.mem_iff_getElem?.mp hx
      exact hok j x (List.getElem?_eq_some_iff.mp hj).1 hj
    have hnum : wl.all isNum = true := List.all_eq_true.mpr fun x hx => (hall x hx).1
    obtain ⟨ws, rfl⟩ : ∃ ws : List Int, wl = ws.map .int := ⟨wl.map intOf, nums_of hnum⟩
    rw [List.length_map] at w8
    have wn : ∀ w ∈ ws, 0 ≤ w := fun w hw => (hall (.int w) (List.mem_map.mpr ⟨w, hw, rfl⟩)).2
    have wle : ∀ w ∈ ws, w ≤ 1000 := fun w hw => (wbb (.int w) (List.mem_map.mpr ⟨w, hw, rfl⟩)).2
    have er : rowOf (.lst (ws.map .int)) = ws := rowOf_ints ws
    have wsb : ws.sum ≤ 8000 := by
      have := sumB wle
      omega
    have ws0 := sum_nn wn
    simp only [zDL, mDcNew, mDcApp, mFreezeDc, mItDz, mZipDz, mValsDz, mListZip, mExt]
    refine dSum_it rfl hnum ?_
    rw [sumD_ints]
    refine ⟨⟨ok_int _ _, ok_int _ _⟩, ?_⟩
    rw [eqv_int]
    have hN : (ws.map D.int).all (fun x => decide (0 ≤ intOf x)) = true := List.all_eq_true.mpr fun x hx => decide_eq_true (hall x hx).2
    by_cases y : ws.sum = 0
    · refine iteY (by simpa using y) ⟨by decide, ?_⟩
      rw [if_pos] at h
      · exact h
      · unfold areWts
        have : decide (0 < sumD (ws.map .int)) = false := by rw [sumD_ints]; exact decide_eq_false (by omega)
        show (areAms (.lst (ws.map .int)) && decide (0 < sumD (ws.map .int))) = false
        rw [this, Bool.and_false]
    refine iteN (by simpa using y) ?_
    have hw : areWts (.lst (ws.map .int)) = true := by
      unfold areWts areAms areInts
      show (((ws.map D.int).all isNum && (ws.map D.int).all fun x => decide (0 ≤ intOf x)) && decide (0 < sumD (ws.map .int))) = true
      rw [hnum, hN, sumD_ints, decide_eq_true (by omega)]; rfl
    rw [if_neg (by rw [hw]; decide), er] at h
    have ei : (intOf (.int (i : Int))).toNat = i := Int.toNat_natCast i
    rw [ei] at h
    have sm : ∀ f : Int, 0 ≤ f → f ≤ 8000 → Sm 30 f := fun f h0 h1 => by
      unfold Sm
      have : (2 : Nat) ^ 30 = 1073741824 := by decide
      omega
    refine ⟨by decide, ?_⟩
    refine forS (rowsD rows) (fun t ρ c2 => c2 = c' ∧ ∃ s3 s6 s7 s8 : S, ρ = [.sh (.lst [.int u, .lst (rowsD rows)]), .sh (.int i), .sh (.lst (ws.map .int)), s3, .sh (.int ws.sum), .own (rowsD ((rows.take t).map (spRow i ws))), s6, s7, s8]) (fun P q => by simp only [zDL, mDcNew, mDcApp, mFreezeDc, mItDz, mZipDz, mValsDz, mListZip, mExt]; exact dIx_it (k := 1) rfl rfl q) ⟨rfl, _, _, _, _, rfl⟩ ?_ ?_
    · rintro t x ρ c2 hx ⟨rfl, t3, s6, s7, s8, rfl⟩
      obtain ⟨r, hr, rfl⟩ := get_mapS (f := fun r : List Int => D.lst (r.map .int)) (by unfold rowsD at hx; exact hx)
      have hrm := List.mem_of_getElem? hr
      obtain ⟨r1, r2, r3⟩ := R.row r hrm
      have ht := (List.getElem?_eq_some_iff.mp hr).1
      have fl : ∀ j, ((List.range j).flatMap fun j => (if j = i then ws else [ws.sum]).map fun f => r.getD j 0 * f).length ≤ j + 7 := fun j => by
        have h1 := spCol_len (i := i) (rows := rows) (show ws.length ≤ 8 from w8) j
        rw [flatMap_len] at h1 ⊢
        have e : (fun j => ((if j = i then ws else [ws.sum]).map fun f => r.getD j 0 * f).length) = fun j => (spCol i ws rows j).length := by funext j; unfold spCol; rw [List.length_map, List.length_map]
        rw [e]; exact h1
      simp only [zDL, mDcNew, mDcApp, mFreezeDc, mItDz, mZipDz, mValsDz, mListZip, mExt]
      refine ⟨by decide, ?_⟩
      refine forS (rng 0 m) (fun j ρ c3 => c3 = c2 ∧ ∃ s3 s8 : S, ρ = [.sh (.lst [.int u, .lst (rowsD rows)]), .sh (.int i), .sh (.lst (ws.map .int)), s3, .sh (.int ws.sum), .own (rowsD ((rows.take t).map (spRow i ws))), .sh (.lst (r.map .int)), .sh (.lst (((List.range j).flatMap fun j => (if j = i then ws else [ws.sum]).map fun f => r.getD j 0 * f).map .int)), s8]) (fun P q => by
        simp only [zDL, mDcNew, mDcApp, mFreezeDc, mItDz, mZipDz, mValsDz, mListZip, mExt]
        refine dLen_it rfl ?_
        rw [List.length_map, r1]
        exact ⟨by omega, by rw [Int.toNat_natCast]; exact q⟩) ⟨rfl, _, _, rfl⟩ ?_ ?_
      · rintro j d ρ c3 hd ⟨rfl, q3, q8, rfl⟩
        obtain ⟨hj, rfl⟩ := rng_get hd
        have fj := fl j
        have rj := (getD_mem (r := r) (k := j) (by omega)).2
        have sr : Sm 200 (r.getD j 0) := R.entry hrm (getD_mem (r := r) (k := j) (by omega)).1
        simp only [zDL, mDcNew, mDcApp, mFreezeDc, mItDz, mZipDz, mValsDz, mListZip, mExt]
        have fin : ∀ fs : List Int, (if j = i then ws else [ws.sum]) = fs → ((List.range j).flatMap fun j => (if j = i then ws else [ws.sum]).map fun f => r.getD j 0 * f).map D.int ++ (fs.map fun f => r.getD j 0 * f).map D.int = ((List.range (j + 1)).flatMap fun j => (if j = i then ws else [ws.sum]).map fun f => r.getD j 0 * f).map .int := fun fs hfs => by
          rw [List.range_succ, List.flatMap_append, List.map_append, List.flatMap_cons, List.flatMap_nil, List.append_nil, hfs]
        have mapE : ∀ fs : List Int, (fs.map D.int).map (fun d => D.int (r.getD j 0 * intOf d)) = (fs.map fun f => r.getD j 0 * f).map .int := fun fs => by rw [List.map_map, List.map_map]; rfl
        by_cases z : j = i
        · refine lcS (ws.map .int) (fun d => .int (r.getD j 0 * intOf d)) (fun P q => by
            simp only [zDL, mDcNew, mDcApp, mFreezeDc, mItDz, mZipDz, mValsDz, mListZip, mExt]
            refine ⟨by decide, by decide, ⟨ok_int _ _, ok_int _ _⟩, ?_⟩
            rw [eqv_int, show ((j : Int) == (i : Int)) = true from by simp [z]]
            exact dIx_it (k := 1) rfl rfl q) (by rw [List.length_map]; omega) (fun d hd post hq => ?_) ?_
          · obtain ⟨f, hf, rfl⟩ := List.mem_map.mp hd
            simp only [zDL, mDcNew, mDcApp, mFreezeDc, mItDz, mZipDz, mValsDz, mListZip, mExt, wipeR]
            exact dIx_it (k := j) (x := .int (r.getD j 0)) rfl (by rw [List.getElem?_map, rj]; rfl) ⟨mulw sr (sm f (wn f hf) (by have := wle f hf; omega)) (by decide) (by decide) (by decide), hq⟩
          · rw [mapE, fin ws (if_pos z)]
            exact ⟨by rw [List.length_map, List.length_map, List.length_map]; omega, rfl, _, _, rfl⟩
        · refine lcS ([ws.sum].map .int) (fun d => .int (r.getD j 0 * intOf d)) (fun P q => by
            simp only [zDL, mDcNew, mDcApp, mFreezeDc, mItDz, mZipDz, mValsDz, mListZip, mExt]
            refine ⟨by decide, by decide, ⟨ok_int _ _, ok_int _ _⟩, ?_⟩
            rw [eqv_int, show ((j : Int) == (i : Int)) = false from by simp; omega]
            exact dIx_it (k := 0) rfl rfl q) (by simp) (fun d hd post hq => ?_) ?_
          · obtain ⟨f, hf, rfl⟩ := List.mem_map.mp hd
            rw [List.mem_singleton] at hf
            subst hf
            simp only [zDL, mDcNew, mDcApp, mFreezeDc, mItDz, mZipDz, mValsDz, mListZip, mExt, wipeR]
            exact dIx_it (k := j) (x := .int (r.getD j 0)) rfl (by rw [List.getElem?_map, rj]; rfl) ⟨mulw sr (sm _ ws0 wsb) (by decide) (by decide) (by decide), hq⟩
          · rw [mapE, fin [ws.sum] (if_neg z)]
            exact ⟨by rw [List.length_map]; show _ + 1 ≤ 1000000; omega, rfl, _, _, rfl⟩
      · rintro ρ c3 ⟨rfl, q3, q8, rfl⟩
        rw [rng_len]
        simp only [zDL, mDcNew, mDcApp, mFreezeDc, mItDz, mZipDz, mValsDz, mListZip, mExt]
        have rl := R.len
        refine ⟨by rw [rowsD_len', List.length_map, List.length_take]; omega, trivial, q3, .sh (.lst (r.map .int)), .sh (.lst ((spRow i ws r).map .int)), q8, ?_⟩
        rw [List.take_add_one, hr]
        unfold rowsD
        rw [Option.toList, List.map_append, List.map_append]
        have e : spRow i ws r = (List.range m).flatMap fun j => (if j = i then ws else [ws.sum]).map fun f => r.getD j 0 * f := by unfold spRow; rw [r1]
        rw [← e]
        rfl
    · rintro ρ c2 ⟨rfl, t3, s6, s7, s8, rfl⟩
      rw [rowsD_len', List.take_length]
      simp only [zDL, mDcNew, mDcApp, mFreezeDc, mItDz, mZipDz, mValsDz, mListZip, mExt]
      exact dIx_it (k := 0) rfl rfl ⟨mulw R.hs (sm _ ws0 wsb) (by decide) (by decide) (by decide), by decide, h⟩
def wt1 (k c : List Int) : Int := if 0 < c.sum ∧ lowL c = k then ((gcdL c : Nat) : Int) else 0
def wtC (C : List (List Int)) (k : List Int) : Int := (C.map (wt1 k)).sum
theorem wtK_C (m : Nat) (rows : List (List Int)) (k : List Int) : wtK m rows k = wtC (turnR m rows) k := by
  unfold wtK wtC turnR ixs
  rw [List.map_map]
  have h := sum_filter (f := fun j => wt1 k (colI rows j)) (p := fun j => posJ rows j && (lowL (colI rows j) == k)) (l := List.range m) fun j _ hp => by
    unfold wt1
    rw [if_neg]
    rintro ⟨h1, h2⟩
    unfold posJ at hp
    rw [decide_eq_true h1, h2] at hp
    simp at hp
  show _ = ((List.range m).map fun j => wt1 k (colI rows j)).sum
  rw [← h]
  refine congrArg _ (List.map_congr_left fun j hj => ?_)
  have := (List.mem_filter.mp hj).2
  rw [Bool.and_eq_true] at this
  unfold wt1
  rw [if_pos ⟨by unfold posJ at this; simpa using this.1, by simpa using this.2⟩]
theorem wt1_scale {f : Int} (hf : 0 ≤ f) {c : List Int} (hc : ∀ x ∈ c, 0 ≤ x) (k : List Int) : wt1 k (c.map fun n => n * f) = f * wt1 k c := by
  have e : (c.map fun n => n * f) = c.map fun n => ((f.toNat : Nat) : Int) * n := List.map_congr_left fun n _ => by rw [Int.toNat_of_nonneg hf, Int.mul_comm]
  have es : (c.map fun n => n * f).sum = f * c.sum := by rw [e, sum_mul, Int.toNat_of_nonneg hf]
  unfold wt1
  rw [es]
  by_cases f0 : f = 0
  · subst f0
    rw [if_neg (by rintro ⟨h, _⟩; omega), Int.zero_mul]
  · have fp : 0 < f := by omega
    by_cases h : 0 < c.sum
    · have h2 := Int.mul_pos fp h
      rw [lowL_scaleI fp h]
      by_cases y : lowL c = k
      · rw [if_pos ⟨h2, y⟩, if_pos ⟨h, y⟩, e, gcdL_scale, Int.natCast_mul, Int.toNat_of_nonneg hf]
      · rw [if_neg fun z => y z.2, if_neg fun z => y z.2, Int.mul_zero]
    · have hz := sum_nn hc
      have : c.sum = 0 := by omega
      rw [this, Int.mul_zero, if_neg (by rintro ⟨h, _⟩; omega), if_neg (by rintro ⟨h, _⟩; omega), Int.mul_zero]
theorem turn_turn {C : List (List Int)} {s : Nat} (h : ∀ c ∈ C, c.length = s) : turnR C.length (turnR s C) = C := by
  apply List.ext_getElem?
  intro j
  by_cases hj : j < C.length
  · rw [turnR_get hj, List.getElem?_eq_getElem hj]
    congr 1
    have hl := h _ (List.getElem_mem hj)
    unfold colI turnR
    rw [List.map_map]
    have e := range_row hl
    conv => rhs; rw [← e]
    refine List.map_congr_left fun t _ => ?_
    show (C.map fun r => r.getD t 0).getD j 0 = _
    rw [List.getD_eq_getElem?_getD, List.getElem?_map, List.getElem?_eq_getElem hj]; rfl
  · have z1 : (turnR C.length (turnR s C))[j]? = none := by rw [List.getElem?_eq_none]; rw [turnR_len]; omega
    have z2 : C[j]? = none := by rw [List.getElem?_eq_none]; omega
    rw [z1, z2]
theorem colI_nn2 {u : Int} {rows : List (List Int)} {s m : Nat} (R : RowsOk u rows s m) (j : Nat) : ∀ y ∈ colI rows j, 0 ≤ y := fun y hy => by
  unfold colI at hy
  obtain ⟨q, hq, rfl⟩ := List.mem_map.mp hy
  by_cases hj : j < q.length
  · exact R.nn q hq _ (getD_mem hj).1
  · rw [List.getD_eq_getElem?_getD, List.getElem?_eq_none (by omega)]; decide
theorem wt_split {u : Int} {rows : List (List Int)} {s m i : Nat} {ws : List Int} (R : RowsOk u rows s m) (wn : ∀ w ∈ ws, 0 ≤ w) (k : List Int) :
    wtK ((List.range m).flatMap (spCol i ws rows)).length (rows.map (spRow i ws)) k = ws.sum * wtK m rows k := by
  have cs : ∀ c ∈ (List.range m).flatMap (spCol i ws rows), c.length = s := fun c hc => by
    obtain ⟨j, _, hc⟩ := List.mem_flatMap.mp hc
    unfold spCol at hc
    obtain ⟨f, _, rfl⟩ := List.mem_map.mp hc
    unfold colI
    rw [List.length_map, List.length_map]; exact R.len
  rw [wtK_C, wtK_C, ← turn_sp R.len fun r hr => (R.row r hr).1, turn_turn cs]
  unfold wtC turnR
  rw [List.map_flatMap, sum_flatMap, List.map_map]
  have e : (fun j => ((spCol i ws rows j).map (wt1 k)).sum) = fun j => ws.sum * wt1 k (colI rows j) := by
    funext j
    unfold spCol
    rw [List.map_map]
    have nn := colI_nn2 R j
    split
    · have : (ws.map (wt1 k ∘ fun f => (colI rows j).map fun n => n * f)) = ws.map fun f => wt1 k (colI rows j) * f := List.map_congr_left fun f hf => by
        show wt1 k ((colI rows j).map fun n => n * f) = _
        rw [wt1_scale (wn f hf) nn, Int.mul_comm]
      rw [this, sum_mul, Int.mul_comm]
    · show wt1 k ((colI rows j).map fun n => n * ws.sum) + 0 = _
      rw [wt1_scale (sum_nn wn) nn, Int.add_zero]
  show ((List.range m).map fun j => ((spCol i ws rows j).map (wt1 k)).sum).sum = _
  rw [e, sum_mul2]
  rfl
theorem wt_come {u : Int} {rows : List (List Int)} {s m : Nat} (R : RowsOk u rows s m) (k : List Int) : wtK (comeS m rows).length (woE m rows) k = wtK m rows k := by
  have cs : ∀ c ∈ (comeS m rows).map fun j => colI rows j, c.length = s := fun c hc => by
    obtain ⟨j, _, rfl⟩ := List.mem_map.mp hc
    unfold colI
    rw [List.length_map]; exact R.len
  have h1 := turn_turn cs
  rw [turn_cols R.len (comeS m rows) fun j => j, List.length_map] at h1
  rw [wtK_C, wtK_C, show woE m rows = rows.map fun r => (comeS m rows).map fun j => r.getD j 0 from rfl, h1]
  unfold wtC turnR comeS
  rw [List.map_map, List.map_map]
  exact sum_filter (f := fun j => wt1 k (colI rows j)) fun j _ hj => by
    unfold wt1
    rw [if_neg]
    rintro ⟨h, _⟩
    rw [decide_eq_true h] at hj; cases hj
theorem wt_low {u : Int} {rows : List (List Int)} {s m : Nat} (R : RowsOk u rows s m) (k : List Int) : wtK m rows k = (gcdR u rows : Int) * wtK m (low2 u rows) k := by
  have R' := low_rows R
  have e := rows_mul R.hu rows
  rw [wtK_C, wtK_C]
  conv => lhs; rw [e]
  unfold wtC turnR
  rw [List.map_map, List.map_map, ← sum_mul2]
  refine congrArg _ (List.map_congr_left fun j _ => ?_)
  show wt1 k (colI ((low2 u rows).map fun r => r.map fun n => (gcdR u rows : Int) * n) j) = (gcdR u rows : Int) * wt1 k (colI (low2 u rows) j)
  have e2 : colI ((low2 u rows).map fun r => r.map fun n => (gcdR u rows : Int) * n) j = (colI (low2 u rows) j).map fun n => n * (gcdR u rows : Int) := by
    unfold colI
    rw [List.map_map, List.map_map]
    refine List.map_congr_left fun r _ => ?_
    show (r.map fun n => (gcdR u rows : Int) * n).getD j 0 = r.getD j 0 * (gcdR u rows : Int)
    rw [getD_scale, Int.mul_comm]
  rw [e2, wt1_scale (by omega) (colI_nn2 R' j)]
/-- lowest terms don't matter: two tables that weigh the same -/
theorem std_same2 {u v : Int} {rows M : List (List Int)} {s m m2 : Nat} (R : RowsOk u rows s m) (RM : RowsOk v M s m2) (h : ∀ k, v * wtK m rows k = u * wtK m2 M k) :
    low1 u (stdR m rows) = low1 (low1 v M) (stdR m2 (low2 v M)) ∧ low2 u (stdR m rows) = low2 (low1 v M) (stdR m2 (low2 v M)) := by
  refine std_same R (low_rows RM) fun k => ?_
  have g := (gcdR_le RM.hu M).1
  have e := (low1_mul RM.hu M).1
  have hk := h k
  rw [wt_low RM k] at hk
  refine Int.eq_of_mul_eq_mul_left (a := (gcdR v M : Int)) (by omega) ?_
  rw [← Int.mul_assoc, ← e, hk]
  ac_rfl
theorem sp_scale (g : Int) (i : Nat) (ws r : List Int) : spRow i ws (r.map fun n => g * n) = (spRow i ws r).map fun n => g * n := by
  unfold spRow
  rw [List.length_map, List.map_flatMap]
  refine congrArg (fun f => (List.range r.length).flatMap f) (funext fun j => ?_)
  rw [List.map_map]
  refine List.map_congr_left fun f _ => ?_
  show (r.map fun n => g * n).getD j 0 * f = g * (r.getD j 0 * f)
  rw [getD_scale, Int.mul_assoc]
theorem sp_low {u : Int} {rows : List (List Int)} {s m : Nat} (R : RowsOk u rows s m) (i : Nat) (ws : List Int) :
    low1 (low1 u rows * ws.sum) ((low2 u rows).map (spRow i ws)) = low1 (u * ws.sum) (rows.map (spRow i ws)) ∧ low2 (low1 u rows * ws.sum) ((low2 u rows).map (spRow i ws)) = low2 (u * ws.sum) (rows.map (spRow i ws)) := by
  have p1 := (gcdR_le R.hu rows).1
  have e1 := (low1_mul R.hu rows).1
  have f1 := rows_mul R.hu rows
  obtain ⟨z1, z2⟩ := low_scale (k := gcdR u rows) p1 (low1 u rows * ws.sum) ((low2 u rows).map (spRow i ws))
  have e2 : rows.map (spRow i ws) = ((low2 u rows).map (spRow i ws)).map fun r => r.map fun n => (gcdR u rows : Int) * n := by
    conv => lhs; rw [f1]
    rw [List.map_map, List.map_map]
    exact List.map_congr_left fun r _ => sp_scale _ _ _ _
  have e3 : u * ws.sum = (gcdR u rows : Int) * (low1 u rows * ws.sum) := by rw [← Int.mul_assoc, ← e1]
  rw [← e2, ← e3] at z1 z2
  exact ⟨z1.symm, z2.symm⟩
theorem sp_ok {u : Int} {rows : List (List Int)} {s m i : Nat} {ws : List Int} (R : RowsOk u rows s m) (m6 : m ≤ 6) (u1 : u ≤ 1000) (him : i < m) (w8 : ws.length ≤ 8) (w0 : 0 < ws.sum) (wsb : ws.sum ≤ 8000) (wn : ∀ w ∈ ws, 0 ≤ w) :
    RowsOk (u * ws.sum) (rows.map (spRow i ws)) s ((List.range m).flatMap (spCol i ws rows)).length := by
  have W1 : 1 ≤ u * ws.sum := by have := Int.mul_pos (show 0 < u by have := R.hu; omega) w0; omega
  have Ws : Sm 200 (u * ws.sum) := by
    have : u * ws.sum ≤ 1000 * 8000 := Int.mul_le_mul u1 wsb (by omega) (by decide)
    have e30 : (2 : Nat) ^ 30 = 1073741824 := by decide
    have l30 : (u * ws.sum).natAbs < 2 ^ 30 := by omega
    exact Nat.lt_of_lt_of_le l30 (Nat.pow_le_pow_right (by decide) (by decide))
  have ne : 1 ≤ ((List.range m).flatMap (spCol i ws rows)).length := by
    have wl0 : ws ≠ [] := fun z => by rw [z] at w0; simp at w0
    have hm0 : ((spCol i ws rows 0)).length ≤ ((List.range m).flatMap (spCol i ws rows)).length := by
      rw [flatMap_len]
      obtain ⟨m', rfl⟩ : ∃ m', m = m' + 1 := ⟨m - 1, by omega⟩
      rw [List.range_succ_eq_map, List.map_cons, List.sum_cons]; omega
    have : 1 ≤ (spCol i ws rows 0).length := by
      unfold spCol
      rw [List.length_map]
      split
      · cases ws with | nil => exact absurd rfl wl0 | cons a b => simp
      · simp
    omega
  have cm := spCol_len (i := i) (ws := ws) (rows := rows) w8 m
  refine ⟨W1, Ws, R.s1, R.s4, ne, by omega, by rw [List.length_map]; exact R.len, fun r hr => ?_⟩
  obtain ⟨q, hq, rfl⟩ := List.mem_map.mp hr
  exact ⟨sp_len (R.row q hq).1, (sp_row (R.row q hq) wn).1, (sp_row (i := i) (R.row q hq) wn).2⟩
theorem wtsD_ints {ws : List Int} (w8 : ws.length ≤ 8) (wb : ∀ w ∈ ws, -1000 ≤ w ∧ w ≤ 1000) : WtsD (.lst (ws.map .int)) := by
  refine ⟨⟨trivial, fun l q => ?_⟩, fun l q => ?_⟩
  · cases q
    refine ⟨by rw [List.length_map]; omega, fun x hx => ?_⟩
    obtain ⟨n, _, rfl⟩ := List.mem_map.mp hx
    trivial
  · cases q
    refine ⟨by rw [List.length_map]; exact w8, fun x hx => ?_⟩
    obtain ⟨n, hn, rfl⟩ := List.mem_map.mp hx
    exact wb n hn
theorem d_law_splits_again : ∀ ds c xe rt, fAgain74 xe ds c rt → ds.length = 2 ∧ b_law_splits_again (fun _ _ _ => False) { nx := fun _ c' => rt .non c', rt := rt, rtN := rt } (ro0 ["_law_e", "_law_table_here", "_law_at", "_law_given"] ds) c := by
  rintro _ c xe rt ⟨u, rows, s, m, rfl, R, ⟨m6, u1⟩, h⟩
  refine ⟨rfl, ?_⟩
  have s1 := R.s1
  have m1 := R.m1
  obtain ⟨p0, g0⟩ : ∃ p, rows[0]? = some p := ⟨_, List.getElem?_eq_getElem (by rw [R.len]; omega)⟩
  have w0 := (R.row _ (List.mem_of_getElem? g0)).1
  have g0r : (rowsD rows)[0]? = some (.lst (p0.map .int)) := by unfold rowsD; rw [List.getElem?_map, g0]; rfl
  have R' := low_rows R
  have lu : low1 u rows ≤ 1000 := by
    have e1 := (low1_mul R.hu rows).1
    have e2 := (low1_mul R.hu rows).2
    have p1 := (gcdR_le R.hu rows).1
    have : 1 * low1 u rows ≤ (gcdR u rows : Int) * low1 u rows := Int.mul_le_mul_of_nonneg_right (by omega) (by omega)
    omega
  have go : ∀ (i : Nat) (ws : List Int), i < m → areWts (.lst (ws.map .int)) = true → rowOf (.lst (ws.map .int)) = ws → ws.length ≤ 8 → (∀ w ∈ ws, 0 ≤ w ∧ w ≤ 1000) → 0 < ws.sum → ws.sum ≤ 8000 →
      ∀ (post : D → Nat → Prop), post (.bl true) c → mCall0 fShows (mCons (mCall fSplitE (mCons (mVar 0) (mCons (mVar 2) (mCons (mVar 3) mNil)))) (mCons (mCall0 fDue74 (mCons (mVar 1) (mCons (mVar 2) (mCons (mVar 3) mNil)))) mNil)) (fun _ _ _ => False) [.sh (expD (low1 u rows) (low2 u rows)), .sh (tblD u rows), .sh (.int i), .sh (.lst (ws.map .int))] c post := by
    intro i ws him aw ro w8 wb ws0 wsb post hp
    have bl := below_lt him
    have W := wtsD_ints w8 (fun w hw => by have := wb w hw; omega)
    simp only [zDL, mDcNew, mDcApp, mFreezeDc, mItDz, mZipDz, mValsDz, mListZip, mExt]
    refine ⟨low1 u rows, low2 u rows, s, m, .int i, .lst (ws.map .int), rfl, R', ⟨m6, lu⟩, trivial, W, fun z => ?_, fun _ z => ?_, fun _ _ => ?_⟩
    · rw [bl] at z; cases z
    · rw [aw] at z; cases z
    · refine ⟨u, rows, s, m, .int i, ws.map .int, rfl, R, ⟨m6, u1⟩, trivial, W, ?_⟩
      unfold tellD
      rw [if_neg (by rw [bl]; decide), if_neg (by rw [aw]; decide), ro]
      obtain ⟨z1, z2⟩ := sp_low R i ws
      refine ⟨u * ws.sum, rows.map (spRow i ws), s, _, ?_, (sp_ok R m6 u1 him w8 ws0 wsb fun w hw => (wb w hw).1).gar, hp⟩
      show [expD (low1 (low1 u rows * ws.sum) ((low2 u rows).map (spRow i ws))) (low2 (low1 u rows * ws.sum) ((low2 u rows).map (spRow i ws))), tblD (u * ws.sum) (rows.map (spRow i ws))] = _
      rw [z1, z2]
  simp only [zDL, b_law_splits_again, mDcNew, mDcApp, mFreezeDc, mItDz, mZipDz, mValsDz, mListZip, mExt]
  refine forS [.tup [.int 0, .lst [.int 1, .int 1]], .tup [.int ((m : Int) - 1), .lst [.int 2, .int 0, .int 1]], .tup [.int 0, .lst [.int 1, .int 1]]]
    (fun _ ρ c' => c' = c ∧ ∃ s2 s3 : S, ρ = [.sh (expD (low1 u rows) (low2 u rows)), .sh (tblD u rows), s2, s3]) (fun P q => by
      simp only [zDL, tblD, mDcNew, mDcApp, mFreezeDc, mItDz, mZipDz, mValsDz, mListZip, mExt]
      repeat' first | (refine ⟨by first | trivial | decide, ?_⟩) | (refine dIx_it (k := 1) rfl rfl (dIx_it (k := 0) rfl g0r (dLen_it rfl ?_)); rw [List.length_map, w0]) | exact q) ⟨rfl, _, _, rfl⟩ ?_ ?_
  · rintro k x ρ c' hx ⟨rfl, s2, s3, rfl⟩
    have : (∃ i : Nat, i < m ∧ x = .tup [.int i, .lst [.int 1, .int 1]]) ∨ (∃ i : Nat, i < m ∧ x = .tup [.int i, .lst [.int 2, .int 0, .int 1]]) := by
      have hm := List.mem_of_getElem? hx
      simp only [List.mem_cons, List.not_mem_nil, or_false] at hm
      rcases hm with rfl | rfl | rfl
      · exact .inl ⟨0, by omega, rfl⟩
      · exact .inr ⟨m - 1, by omega, by rw [show ((m - 1 : Nat) : Int) = (m : Int) - 1 by omega]⟩
      · exact .inl ⟨0, by omega, rfl⟩
    rcases this with ⟨i, him, rfl⟩ | ⟨i, him, rfl⟩
    · have g := go i [1, 1] him (by decide) rfl (by decide) (by decide) (by decide) (by decide)
      simp only [zDL, mDcNew, mDcApp, mFreezeDc, mItDz, mZipDz, mValsDz, mListZip, mExt] at g ⊢
      refine ⟨trivial, g _ ?_⟩
      simp only [zDL, mDcNew, mDcApp, mFreezeDc, mItDz, mZipDz, mValsDz, mListZip, mExt]
      exact ⟨trivial, _, _, rfl⟩
    · have g := go i [2, 0, 1] him (by decide) rfl (by decide) (by decide) (by decide) (by decide)
      simp only [zDL, mDcNew, mDcApp, mFreezeDc, mItDz, mZipDz, mValsDz, mListZip, mExt] at g ⊢
      refine ⟨trivial, g _ ?_⟩
      simp only [zDL, mDcNew, mDcApp, mFreezeDc, mItDz, mZipDz, mValsDz, mListZip, mExt]
      exact ⟨trivial, _, _, rfl⟩
  · rintro ρ c' ⟨rfl, s2, s3, rfl⟩
    simp only [zDL, mDcNew, mDcApp, mFreezeDc, mItDz, mZipDz, mValsDz, mListZip, mExt]
    exact h
theorem come_low {u : Int} {rows : List (List Int)} {s m : Nat} (R : RowsOk u rows s m) : comeS m (low2 u rows) = comeS m rows := by
  have g := (gcdR_le R.hu rows).1
  unfold comeS
  refine List.filter_congr fun j _ => ?_
  have e : colI rows j = (colI (low2 u rows) j).map fun n => (gcdR u rows : Int) * n := by
    conv => lhs; rw [rows_mul R.hu rows]
    unfold colI
    rw [List.map_map, List.map_map]
    exact List.map_congr_left fun r _ => getD_scale _ _ _
  rw [e, sum_mul]
  refine decide_eq_decide.mpr ⟨fun h => Int.mul_pos (by omega) h, fun h => ?_⟩
  by_cases q : 0 < (colI (low2 u rows) j).sum
  · exact q
  · have := Int.mul_le_mul_of_nonneg_left (c := (gcdR u rows : Int)) (show (colI (low2 u rows) j).sum ≤ 0 by omega) (by omega)
    omega
theorem wo_scale (g : Int) (cs : List Nat) (r : List Int) : (cs.map fun j => (r.map fun n => g * n).getD j 0) = (cs.map fun j => r.getD j 0).map fun n => g * n := by
  rw [List.map_map]
  exact List.map_congr_left fun j _ => getD_scale _ _ _
theorem wo_low {u : Int} {rows : List (List Int)} {s m : Nat} (R : RowsOk u rows s m) :
    low1 (low1 u rows) (woE m (low2 u rows)) = low1 u (woE m rows) ∧ low2 (low1 u rows) (woE m (low2 u rows)) = low2 u (woE m rows) := by
  have p1 := (gcdR_le R.hu rows).1
  have e1 := (low1_mul R.hu rows).1
  obtain ⟨z1, z2⟩ := low_scale (k := gcdR u rows) p1 (low1 u rows) (woE m (low2 u rows))
  have e2 : woE m rows = (woE m (low2 u rows)).map fun r => r.map fun n => (gcdR u rows : Int) * n := by
    unfold woE
    rw [come_low R]
    conv => lhs; arg 2; rw [rows_mul R.hu rows]
    rw [List.map_map, List.map_map]
    exact List.map_congr_left fun r _ => wo_scale _ _ _
  rw [← e2, ← e1] at z1 z2
  exact ⟨z1.symm, z2.symm⟩
theorem wo_come {u : Int} {rows : List (List Int)} {s m : Nat} : ∀ j, j < (comeS m rows).length → 0 < (colI (woE m rows) j).sum := fun j hj => by
  have e : colI (woE m rows) j = colI rows (comeS m rows)[j] := by
    unfold colI woE
    rw [List.map_map]
    refine List.map_congr_left fun r _ => ?_
    show ((comeS m rows).map fun j => r.getD j 0).getD j 0 = _
    rw [List.getD_eq_getElem?_getD, List.getElem?_map, List.getElem?_eq_getElem hj]; rfl
  rw [e]
  have h := List.getElem_mem hj
  unfold comeS at h
  exact of_decide_eq_true (List.mem_filter.mp h).2
theorem wo_all {v : Int} {M : List (List Int)} {s m : Nat} (R : RowsOk v M s m) (h : ∀ j, j < m → 0 < (colI M j).sum) : comeS m M = List.range m ∧ woE m M = M := by
  have e : comeS m M = List.range m := by
    unfold comeS
    exact List.filter_eq_self.mpr fun j hj => decide_eq_true (h j (List.mem_range.mp hj))
  refine ⟨e, ?_⟩
  unfold woE
  rw [e]
  conv => rhs; rw [← List.map_id M]
  refine List.map_congr_left fun r hr => ?_
  apply List.ext_getElem?
  intro i
  rw [List.getElem?_map]
  by_cases hi : i < m
  · rw [List.getElem?_range hi]
    show some (r.getD i 0) = r[i]?
    rw [List.getD_eq_getElem?_getD, List.getElem?_eq_getElem (by rw [(R.row r hr).1]; exact hi)]; rfl
  · rw [List.getElem?_eq_none (l := List.range m) (by rw [List.length_range]; omega)]
    show none = r[i]?
    rw [List.getElem?_eq_none (by rw [(R.row r hr).1]; omega)]
theorem wo_idem {u : Int} {rows : List (List Int)} {s m : Nat} (R : RowsOk u rows s m) :
    low1 (low1 u (woE m rows)) (woE (comeS m rows).length (low2 u (woE m rows))) = low1 u (woE m rows) ∧ low2 (low1 u (woE m rows)) (woE (comeS m rows).length (low2 u (woE m rows))) = low2 u (woE m rows) := by
  have W := wo_ok R
  have h := wo_low W
  rw [(wo_all W (wo_come (s := s) (u := u))).2] at h
  exact h
theorem alike_wo {u : Int} {rows : List (List Int)} {s m : Nat} (R : RowsOk u rows s m) :
    low1 u (stdR m rows) = low1 (low1 u (woE m rows)) (stdR (comeS m rows).length (low2 u (woE m rows))) ∧ low2 u (stdR m rows) = low2 (low1 u (woE m rows)) (stdR (comeS m rows).length (low2 u (woE m rows))) :=
  std_same2 R (wo_ok R) fun k => by rw [wt_come R]
theorem alike_sp {u : Int} {rows : List (List Int)} {s m i : Nat} {ws : List Int} (R : RowsOk u rows s m) (m6 : m ≤ 6) (u1 : u ≤ 1000) (him : i < m) (w8 : ws.length ≤ 8) (w0 : 0 < ws.sum) (wsb : ws.sum ≤ 8000) (wn : ∀ w ∈ ws, 0 ≤ w) :
    low1 u (stdR m rows) = low1 (low1 (u * ws.sum) (rows.map (spRow i ws))) (stdR ((List.range m).flatMap (spCol i ws rows)).length (low2 (u * ws.sum) (rows.map (spRow i ws)))) ∧
    low2 u (stdR m rows) = low2 (low1 (u * ws.sum) (rows.map (spRow i ws))) (stdR ((List.range m).flatMap (spCol i ws rows)).length (low2 (u * ws.sum) (rows.map (spRow i ws)))) :=
  std_same2 R (sp_ok R m6 u1 him w8 w0 wsb wn) fun k => by rw [wt_split R wn]; ac_rfl
theorem nodup_le {α : Type} [DecidableEq α] : ∀ (A B : List α), A.Nodup → (∀ k ∈ A, k ∈ B) → A.length ≤ B.length
  | [], _, _, _ => Nat.zero_le _
  | a :: A, B, nd, h => by
    have ha := h a (by simp)
    have nd' := List.nodup_cons.mp nd
    have := nodup_le A (B.erase a) nd'.2 fun k hk => (List.mem_erase_of_ne (by intro z; subst z; exact nd'.1 hk)).mpr (h k (by simp [hk]))
    rw [List.length_erase_of_mem ha] at this
    have := List.length_pos_of_mem ha
    simp only [List.length_cons]; omega
theorem keys_cols {m : Nat} {rows : List (List Int)} {k : List Int} (h : k ∈ keysV (enV (turnR m rows))) : ∃ j, j < m ∧ 0 < (colI rows j).sum ∧ lowL (colI rows j) = k := by
  obtain ⟨p, hp, h1, h2⟩ := keysV_mem.mp h
  have hc : p.2 ∈ turnR m rows := by
    unfold enV at hp
    obtain ⟨j, hj, rfl⟩ := List.mem_map.mp hp
    have hj := List.mem_range.mp hj
    show (turnR m rows).getD j [] ∈ turnR m rows
    rw [List.getD_eq_getElem?_getD, List.getElem?_eq_getElem hj]
    exact List.getElem_mem hj
  unfold turnR at hc
  obtain ⟨j, hj, e⟩ := List.mem_map.mp hc
  have e : colI rows j = p.2 := e
  refine ⟨j, List.mem_range.mp hj, ?_, by rw [e]; exact h2⟩
  rw [e]
  unfold posB at h1
  exact of_decide_eq_true h1
theorem keys_few {u v : Int} {rows M : List (List Int)} {s m m2 : Nat} (R : RowsOk u rows s m) (RM : RowsOk v M s m2) (h : ∀ k, v * wtK m rows k = u * wtK m2 M k) : (keysV (enV (turnR m2 M))).length ≤ m := by
  obtain ⟨ks, nd, hk, hl, _⟩ := grp_keys m rows
  refine Nat.le_trans (nodup_le _ ks (keysV_nodup _) fun k hm => (hk k).mpr ?_) hl
  have p := wtK_pos.2.mpr (keys_cols hm)
  refine wtK_pos.2.mp ?_
  have hu := R.hu
  have hv := RM.hu
  have e := h k
  have := Int.mul_pos (show 0 < u by omega) p
  rw [← e] at this
  exact Int.pos_of_mul_pos_right this (by omega)
theorem low1_le {u : Int} (hu : 1 ≤ u) (rows : List (List Int)) : low1 u rows ≤ u := by
  obtain ⟨e1, e2⟩ := low1_mul hu rows
  have p1 := (gcdR_le hu rows).1
  have : 1 * low1 u rows ≤ (gcdR u rows : Int) * low1 u rows := Int.mul_le_mul_of_nonneg_right (by omega) (by omega)
  omega
theorem stdG_of {u : Int} {rows : List (List Int)} {s m : Nat} (R : RowsOk u rows s m) (m6 : m ≤ 6) (u1 : u ≤ 1000000) : StdG u rows s m := ⟨R, by omega, Nat.le_trans (keys_few R R fun _ => rfl) m6, u1⟩
theorem l20 {u : Int} {rows : List (List Int)} {s m : Nat} (R : RowsOk u rows s m) (m6 : m ≤ 6) (u1 : u ≤ 1000) (s2 s4 s5 s6 s7 s9 s10 s11 s13 s14 s15 s16 : S) (c : Nat) :
    b_law_20 (fun _ _ _ => False) { nx := fun _ _ => False, rt := fun d _ => d = .bl true } [.no, .sh .pool, s2, .sh (tblD u rows), s4, s5, s6, s7, .sh (expD (low1 u rows) (low2 u rows)), s9, s10, s11, .sh (.lst ((comeS m rows).map fun (j : Nat) => D.int (j : Int))), s13, s14, s15, s16] c := by
  have R' := low_rows R
  have W := wo_ok R
  have W' := wo_ok R'
  have cl := come_len m (low2 u rows)
  have cl0 := come_len m rows
  have lu := low1_le R.hu rows
  have lw := low1_le R'.hu (woE m (low2 u rows))
  have rl := R.len
  have s4' := R.s4
  simp only [zDL, b_law_20, tblD, mDcNew, mDcApp, mFreezeDc, mItDz, mZipDz, mValsDz, mListZip, mExt]
  refine ⟨low1 u rows, low2 u rows, s, m, rfl, R', by omega, ?_⟩
  simp only [zDL, b_law_21, mDcNew, mDcApp, mFreezeDc, mItDz, mZipDz, mValsDz, mListZip, mExt]
  refine dIx_it (k := 0) rfl rfl ?_
  refine lcS (rowsD rows) (fun d => .lst (((comeS m rows).map fun j => (rowOf d).getD j 0).map .int)) (fun P q => by simp only [zDL, mDcNew, mDcApp, mFreezeDc, mItDz, mZipDz, mValsDz, mListZip, mExt]; exact dIx_it (k := 1) rfl rfl q) (by rw [rowsD_len']; omega) (fun d hd post hq => ?_) ?_
  · unfold rowsD at hd
    obtain ⟨r, hr, rfl⟩ := List.mem_map.mp hd
    rw [rowOf_ints] at hq
    simp only [zDL, mDcNew, mDcApp, mFreezeDc, mItDz, mZipDz, mValsDz, mListZip, mExt, wipeR]
    refine lcS ((comeS m rows).map fun (j : Nat) => D.int (j : Int)) (fun x => .int (r.getD (intOf x).toNat 0)) (fun P q => by simp only [zDL, mDcNew, mDcApp, mFreezeDc, mItDz, mZipDz, mValsDz, mListZip, mExt]; exact q) (by rw [List.length_map]; omega) (fun x hx post hq => ?_) ?_
    · obtain ⟨j, hj, rfl⟩ := List.mem_map.mp hx
      have hjm : j < m := by unfold comeS at hj; simpa using (List.mem_filter.mp hj).1
      have rj := (getD_mem (r := r) (k := j) (by rw [(R.row r hr).1]; exact hjm)).2
      simp only [zDL, mDcNew, mDcApp, mFreezeDc, mItDz, mZipDz, mValsDz, mListZip, mExt, wipeR]
      exact dIx_it (k := j) (x := .int (r.getD j 0)) rfl (by rw [List.getElem?_map, rj]; rfl) hq
    · have e : (((comeS m rows).map fun (j : Nat) => D.int (j : Int)).map fun x => D.int (r.getD (intOf x).toNat 0)) = ((comeS m rows).map fun j => r.getD j 0).map .int := by
        rw [List.map_map, List.map_map]; rfl
      rw [e]; exact hq
  · have e : (rowsD rows).map (fun d => D.lst (((comeS m rows).map fun j => (rowOf d).getD j 0).map .int)) = rowsD (woE m rows) := by
      unfold rowsD woE
      rw [List.map_map, List.map_map]
      refine List.map_congr_left fun r _ => ?_
      show D.lst (((comeS m rows).map fun j => (rowOf (.lst (r.map .int))).getD j 0).map .int) = _
      rw [rowOf_ints]; rfl
    rw [e]
    obtain ⟨z1, z2⟩ := wo_low R
    refine ⟨by decide, u, woE m rows, s, _, by rw [z1, z2]; rfl, W.gar, ?_⟩
    refine iteN (by decide) ?_
    simp only [zDL, b_law_22, mDcNew, mDcApp, mFreezeDc, mItDz, mZipDz, mValsDz, mListZip, mExt]
    refine ⟨_, low1 u rows, _, low2 u rows, s, s, (comeS m (low2 u rows)).length, m, rfl, stdG_of (low_rows W') (by omega) (by omega), stdG_of R' m6 (by omega), fun z => absurd rfl z, fun _ => ?_⟩
    obtain ⟨a1, a2⟩ := alike_wo R'
    refine ⟨_, true, rfl, ?_⟩
    rw [decide_eq_true ⟨a1.symm, a2.symm⟩]
    refine ⟨_, _, s, (comeS m (low2 u rows)).length, rfl, low_rows W', by omega, ?_⟩
    obtain ⟨i1, i2⟩ := wo_idem R'
    rw [i1, i2]
    exact ⟨⟨rfl, by rfl, by decide⟩, fun c => ⟨_, _, _, true, rfl, .inl ⟨_, _, rfl, by simp⟩, rfl, ⟨true, rfl⟩, rfl⟩⟩
theorem l19 {u : Int} {rows : List (List Int)} {s m : Nat} (R : RowsOk u rows s m) (m6 : m ≤ 6) (u1 : u ≤ 1000) (s2 s4 s5 s6 s7 s9 s10 s11 s12 s13 s14 s15 s16 : S) (c : Nat) :
    b_law_19 (fun _ _ _ => False) { nx := fun _ _ => False, rt := fun d _ => d = .bl true } [.no, .sh .pool, s2, .sh (tblD u rows), s4, s5, s6, s7, .sh (expD (low1 u rows) (low2 u rows)), s9, s10, s11, s12, s13, s14, s15, s16] c := by
  have rl := R.len
  have s4' := R.s4
  have s1 := R.s1
  have cl0 := come_len m rows
  obtain ⟨p0, g0⟩ : ∃ p, rows[0]? = some p := ⟨_, List.getElem?_eq_getElem (by rw [R.len]; omega)⟩
  have w0 := (R.row _ (List.mem_of_getElem? g0)).1
  have g0r : (rowsD rows)[0]? = some (.lst (p0.map .int)) := by unfold rowsD; rw [List.getElem?_map, g0]; rfl
  simp only [zDL, b_law_19, mDcNew, mDcApp, mFreezeDc, mItDz, mZipDz, mValsDz, mListZip, mExt]
  refine lc_it ?_
  simp only [zDL, tblD, mDcNew, mDcApp, mFreezeDc, mItDz, mZipDz, mValsDz, mListZip, mExt]
  refine dIx_it (k := 1) rfl rfl (dIx_it (k := 0) rfl g0r (dLen_it rfl ?_))
  rw [List.length_map, w0]
  refine ⟨by omega, ?_⟩
  rw [Int.toNat_natCast]
  refine LcOk.filter (fun d => decide (0 < (colI rows (intOf d).toNat).sum)) (fun d => d) (by rw [rng_len]; omega) (fun d hd post q1 q2 => ?_) ?_
  · obtain ⟨k, hk⟩ := List.mem_iff_getElem?.mp hd
    obtain ⟨hkm, rfl⟩ := rng_get hk
    simp only [zDL, mDcNew, mDcApp, mFreezeDc, mItDz, mZipDz, mValsDz, mListZip, mExt, wipeR]
    refine lcS (rowsD rows) (fun d => .int ((rowOf d).getD k 0)) (fun P q => by simp only [zDL, mDcNew, mDcApp, mFreezeDc, mItDz, mZipDz, mValsDz, mListZip, mExt]; exact dIx_it (k := 1) rfl rfl q) (by rw [rowsD_len']; omega) (fun d hd post hq => ?_) ?_
    · unfold rowsD at hd
      obtain ⟨r, hr, rfl⟩ := List.mem_map.mp hd
      rw [rowOf_ints] at hq
      have rj := (getD_mem (r := r) (k := k) (by rw [(R.row r hr).1]; exact hkm)).2
      simp only [zDL, mDcNew, mDcApp, mFreezeDc, mItDz, mZipDz, mValsDz, mListZip, mExt, wipeR]
      exact dIx_it (k := k) (x := .int (r.getD k 0)) rfl (by rw [List.getElem?_map, rj]; rfl) hq
    · have e : (rowsD rows).map (fun d => D.int ((rowOf d).getD k 0)) = (colI rows k).map .int := by
        unfold rowsD colI
        rw [List.map_map, List.map_map]
        refine List.map_congr_left fun r _ => ?_
        show D.int ((rowOf (.lst (r.map .int))).getD k 0) = _
        rw [rowOf_ints]; rfl
      rw [e]
      refine ⟨_, rfl, ?_⟩
      dsimp only
      have e2 : (intOf (D.int (k : Int))).toNat = k := Int.toNat_natCast k
      rw [e2] at q1 q2
      by_cases z : 0 < (colI rows k).sum
      · rw [if_pos (show decide (0 < (colI rows k).sum) = true from decide_eq_true z)]; exact q1 (decide_eq_true z)
      · rw [if_neg (show ¬ decide (0 < (colI rows k).sum) = true from by simpa using z)]; exact q2 (decide_eq_false z)
  · have e : ((rng 0 m).filter fun d => decide (0 < (colI rows (intOf d).toNat).sum)).map (fun d => d) = (comeS m rows).map fun (j : Nat) => D.int (j : Int) := by
      rw [List.map_id']
      unfold comeS
      rw [show rng 0 m = (List.range m).map fun (j : Nat) => D.int (j : Int) from by unfold rng; simp, List.filter_map]
      rfl
    rw [e]
    exact l20 R m6 u1 s2 s4 s5 s6 s7 s9 s10 s11 s13 s14 s15 s16 c
theorem l18s {u : Int} {rows : List (List Int)} {s m i : Nat} {ws : List Int} (R : RowsOk u rows s m) (m6 : m ≤ 6) (u1 : u ≤ 100) (him : i < m) (w5 : ws.length ≤ 8) (ws0 : 0 < ws.sum) (wsb : ws.sum ≤ 8000) (wn : ∀ w ∈ ws, 0 ≤ w) (s2 s4 s5 s6 s7 s11 s12 s13 s14 s15 s16 : S) (c : Nat) :
    b_law_18 (fun _ _ _ => False) { nx := fun _ _ => False, rt := fun d _ => d = .bl true } [.no, .sh .pool, s2, .sh (tblD u rows), s4, s5, s6, s7, .sh (expD (low1 u rows) (low2 u rows)), .sh (tblD (u * ws.sum) (rows.map (spRow i ws))), .sh (expD (low1 (low1 u rows * ws.sum) ((low2 u rows).map (spRow i ws))) (low2 (low1 u rows * ws.sum) ((low2 u rows).map (spRow i ws)))), s11, s12, s13, s14, s15, s16] c := by
  have R' := low_rows R
  have lu := low1_le R.hu rows
  have P := sp_ok R' m6 (by omega) him w5 ws0 wsb wn
  have Q := sp_ok R m6 (by omega) him w5 ws0 wsb wn
  have lp := low1_le P.hu ((low2 u rows).map (spRow i ws))
  have lb : low1 u rows * ws.sum ≤ 100 * 8000 := Int.mul_le_mul (by omega) wsb (by omega) (by decide)
  have cm := spCol_len (i := i) (ws := ws) (rows := low2 u rows) w5 m
  obtain ⟨z1, z2⟩ := sp_low R i ws
  obtain ⟨a1, a2⟩ := alike_sp R' m6 (by omega) him w5 ws0 wsb wn
  have k6 : (keysV (enV (turnR ((List.range m).flatMap (spCol i ws (low2 u rows))).length (low2 (low1 u rows * ws.sum) ((low2 u rows).map (spRow i ws)))))).length ≤ m := by
    refine keys_few R' (low_rows P) fun k => ?_
    have g := (gcdR_le P.hu ((low2 u rows).map (spRow i ws))).1
    have e := (low1_mul P.hu ((low2 u rows).map (spRow i ws))).1
    have hk := wt_low P k
    rw [wt_split R' wn] at hk
    refine Int.eq_of_mul_eq_mul_left (a := (gcdR (low1 u rows * ws.sum) ((low2 u rows).map (spRow i ws)) : Int)) (by omega) ?_
    rw [← Int.mul_assoc, ← e, Int.mul_left_comm, ← hk]
    ac_rfl
  simp only [zDL, b_law_18, mDcNew, mDcApp, mFreezeDc, mItDz, mZipDz, mValsDz, mListZip, mExt]
  refine dIx_it (k := 0) rfl rfl ?_
  refine iteN (show ¬ ((false : Bool) = true) from by decide) ?_
  refine ⟨u * ws.sum, rows.map (spRow i ws), s, _, by rw [z1, z2], Q.gar, ?_⟩
  refine iteN (by decide) ?_
  refine ⟨low1 u rows, _, low2 u rows, _, s, s, m, _, rfl, stdG_of R' m6 (by omega), ⟨low_rows P, by omega, Nat.le_trans k6 m6, by omega⟩, fun z => absurd rfl z, fun _ => ?_⟩
  refine ⟨_, true, rfl, ?_⟩
  rw [decide_eq_true ⟨a1, a2⟩]
  refine iteN (by decide) ?_
  exact l19 R m6 (by omega) s2 s4 s5 s6 s7 _ _ s11 s12 s13 s14 s15 s16 c
theorem l18r {u : Int} {rows : List (List Int)} {s m : Nat} (R : RowsOk u rows s m) (m6 : m ≤ 6) (u1 : u ≤ 100) (q : Str) (d : D) (hd : D.ok 60 (.lst [.str q, d]) = true) (s2 s4 s5 s6 s7 s11 s12 s13 s14 s15 s16 : S) (c : Nat) :
    b_law_18 (fun _ _ _ => False) { nx := fun _ _ => False, rt := fun d _ => d = .bl true } [.no, .sh .pool, s2, .sh (tblD u rows), s4, s5, s6, s7, .sh (expD (low1 u rows) (low2 u rows)), .sh (.lst [.str q, d]), .sh (.lst [.str q, d]), s11, s12, s13, s14, s15, s16] c := by
  simp only [zDL, b_law_18, mDcNew, mDcApp, mFreezeDc, mItDz, mZipDz, mValsDz, mListZip, mExt]
  refine dIx_it (k := 0) rfl rfl ?_
  refine iteY (show ((true : Bool) = true) from rfl) ?_
  rw [eqv_refl 60 _ hd]
  refine ⟨⟨hd, hd⟩, iteN (by decide) ?_⟩
  exact l19 R m6 (by omega) s2 s4 s5 s6 s7 _ _ s11 s12 s13 s14 s15 s16 c
theorem l17 {u : Int} {rows : List (List Int)} {s m : Nat} (R : RowsOk u rows s m) (m6 : m ≤ 6) (u1 : u ≤ 100) (s2 s4 s5 s6 s7 s9 s10 s11 s12 s13 s14 s15 s16 : S) (c : Nat)
    (h : b_law_18 (fun _ _ _ => False) { nx := fun _ _ => False, rt := fun d _ => d = .bl true } [.no, .sh .pool, s2, .sh (tblD u rows), s4, s5, s6, s7, .sh (expD (low1 u rows) (low2 u rows)), s9, s10, s11, s12, s13, s14, s15, s16] c) :
    b_law_17 (fun _ _ _ => False) { nx := fun _ _ => False, rt := fun d _ => d = .bl true } [.no, .sh .pool, s2, .sh (tblD u rows), s4, s5, s6, s7, .sh (expD (low1 u rows) (low2 u rows)), s9, s10, s11, s12, s13, s14, s15, s16] c := by
  simp only [zDL, b_law_17, mDcNew, mDcApp, mFreezeDc, mItDz, mZipDz, mValsDz, mListZip, mExt]
  exact ⟨u, rows, s, m, rfl, R, ⟨m6, by omega⟩, iteN (by decide) h⟩
abbrev XL : XP := fun _ _ _ => False
abbrev EL : DEnds := { nx := fun _ _ => False, rt := fun d _ => d = .bl true }
theorem RowsOk.ofM {u : Int} {rows : List (List Int)} {s m : Nat} (h : RowsM u rows s m) (hu : 1 ≤ u) (hs : u ≤ 100000) (s1 : 1 ≤ s) (s4 : s ≤ 4) (m1 : 1 ≤ m) (m64 : m ≤ 64) : RowsOk u rows s m := ⟨hu, sm_small (by omega) (by omega), s1, s4, m1, m64, h.1, h.2⟩
def WIt (x : D) : Prop := (∃ n : Int, x = .int n ∧ -1 ≤ n ∧ n ≤ 1000) ∨ x = .bl true ∨ x = .non ∨ x = .str "1"
def WlOk (wl : List D) : Prop := wl.length ≤ 4 ∧ ∀ x ∈ wl, WIt x
theorem WIt.facts {x : D} (h : WIt x) : plain x ∧ (-1000 ≤ intOf x ∧ intOf x ≤ 1000) ∧ D.ok 58 x = true := by
  rcases h with ⟨n, rfl, h1, h2⟩ | rfl | rfl | rfl
  · exact ⟨trivial, ⟨by show -1000 ≤ n; omega, h2⟩, ok_int _ _⟩
  · exact ⟨trivial, by decide, by rfl⟩
  · exact ⟨trivial, by decide, by rfl⟩
  · exact ⟨trivial, by decide, by unfold D.ok; decide +kernel⟩
theorem WlOk.facts {wl : List D} (h : WlOk wl) : WtsD (.lst wl) ∧ WtsD (.tup wl) ∧ D.ok 60 (.lst wl) = true := by
  have hl := h.1
  have hp : ∀ x ∈ wl, plain x := fun x hx => (h.2 x hx).facts.1
  have hs : ∀ x ∈ wl, -1000 ≤ intOf x ∧ intOf x ≤ 1000 := fun x hx => (h.2 x hx).facts.2.1
  refine ⟨⟨⟨trivial, fun l q => by cases q; exact ⟨by omega, hp⟩⟩, fun l q => by cases q; exact ⟨by omega, hs⟩⟩, ⟨⟨trivial, fun l q => by cases q; exact ⟨by omega, hp⟩⟩, fun l q => by cases q; exact ⟨by omega, hs⟩⟩, ?_⟩
  rw [ok_lst]
  exact okL_all fun d hd => by
    rcases h.2 d hd with ⟨n, rfl, _⟩ | rfl | rfl | rfl
    · exact ok_int _ _
    · rfl
    · rfl
    · unfold D.ok; decide +kernel
/-- a signal in or out of range, or none at all -/
def SIt (x : D) : Prop := (∃ n : Int, x = .int n) ∨ x = .bl true ∨ x = .non
theorem SIt.facts {x : D} (h : SIt x) : plain x ∧ D.ok 60 (.lst [.str "signal", x]) = true := by
  rcases h with ⟨n, rfl⟩ | rfl | rfl
  · exact ⟨trivial, by unfold D.ok D.okL; rw [show D.ok 59 (.str "signal") = true from by unfold D.ok; decide +kernel]; rfl⟩
  · exact ⟨trivial, by unfold D.ok; decide +kernel⟩
  · exact ⟨trivial, by unfold D.ok; decide +kernel⟩
theorem sum_le_map {l : List D} {b : Int} (h : ∀ x ∈ l, intOf x ≤ b) : (l.map intOf).sum ≤ b * l.length := by
  induction l with
  | nil => simp
  | cons x l ih =>
    have h1 := ih fun y hy => h y (by simp [hy])
    have h2 := h x (by simp)
    rw [List.map_cons, List.sum_cons, List.length_cons]
    rw [show b * ((l.length + 1 : Nat) : Int) = b * l.length + b from by rw [Int.natCast_add, Int.mul_add]; simp]
    omega
theorem WlOk.due {wl : List D} (h : WlOk wl) (a : areWts (.lst wl) = true) : (rowOf (.lst wl)).length ≤ 8 ∧ 0 < (rowOf (.lst wl)).sum ∧ (rowOf (.lst wl)).sum ≤ 8000 ∧ ∀ w ∈ rowOf (.lst wl), 0 ≤ w := by
  have hl := h.1
  unfold areWts areAms at a
  simp only [items, Bool.and_eq_true, decide_eq_true_eq, List.all_eq_true] at a
  obtain ⟨⟨_, a1⟩, a2⟩ := a
  have b := sum_le_map (l := wl) (b := 1000) fun x hx => (h.2 x hx).facts.2.1.2
  refine ⟨by simp only [rowOf, items, List.length_map]; omega, a2, ?_, fun w hw => ?_⟩
  · show (wl.map intOf).sum ≤ 8000
    omega
  · obtain ⟨x, hx, rfl⟩ := List.mem_map.mp (show w ∈ wl.map intOf from hw)
    exact a1 x hx
theorem l16 {u : Int} {rows : List (List Int)} {s m : Nat} (R : RowsOk u rows s m) (m6 : m ≤ 6) (u1 : u ≤ 100) (wl : List D) (hw : WlOk wl) (t : D) (ht : D.ok 60 t = true ∨ ∃ U M, t = expD U M) (s2 s4 s6 s9 s12 s13 s14 s15 s16 : S) (c : Nat)
    (h : b_law_18 XL EL [.no, .sh .pool, s2, .sh (tblD u rows), s4, .sh (.lst wl), s6, .sh (.lst wl), .sh (expD (low1 u rows) (low2 u rows)), s9, .sh t, .sh t, s12, s13, s14, s15, s16] c) :
    b_law_16 XL EL [.no, .sh .pool, s2, .sh (tblD u rows), s4, .sh (.lst wl), s6, .sh (.lst wl), .sh (expD (low1 u rows) (low2 u rows)), s9, .sh t, .sh t, s12, s13, s14, s15, s16] c := by
  have k := hw.facts.2.2
  have h := l17 R m6 u1 _ _ _ _ _ _ _ _ _ _ _ _ _ c h
  simp only [zDL, b_law_16, mDcNew, mDcApp, mFreezeDc, mItDz, mZipDz, mValsDz, mListZip, mExt]
  rw [eqv_refl 60 _ k]
  refine ⟨⟨k, k⟩, iteN (by decide) ⟨u, rows, s, _, rfl, R.gar, iteN (by decide) ?_⟩⟩
  rcases ht with ht | ⟨U, M, rfl⟩
  · refine .inl ⟨⟨ht, ht⟩, ?_⟩
    rw [eqv_refl 60 _ ht]
    exact iteN (by decide) h
  · exact .inr ⟨⟨rfl, by rfl, by decide⟩, fun c => ⟨_, _, _, true, rfl, .inl ⟨_, _, rfl, by simp⟩, rfl, ⟨true, rfl⟩, iteN (by decide) h⟩⟩
theorem l12 {u : Int} {rows : List (List Int)} {s m : Nat} (R : RowsOk u rows s m) (m6 : m ≤ 6) (u1 : u ≤ 100) (wl : List D) (hw : WlOk wl) (sd : D) (hs : SIt sd) (s2 s6 s8 s9 s10 s11 s12 s13 s14 s15 s16 : S) (c : Nat) :
    b_law_12 XL EL [.no, .sh .pool, s2, .sh (tblD u rows), .sh sd, .sh (.lst wl), s6, .sh (.lst wl), s8, s9, s10, s11, s12, s13, s14, s15, s16] c := by
  obtain ⟨W1, W2, k⟩ := hw.facts
  obtain ⟨ps, ks⟩ := hs.facts
  have R' := low_rows R
  have lu := low1_le R.hu rows
  have t2 : tellD (low1 u rows) (low2 u rows) m sd (.tup wl) (fun U M => expD (low1 U M) (low2 U M)) = tellD (low1 u rows) (low2 u rows) m sd (.lst wl) (fun U M => expD (low1 U M) (low2 U M)) := rfl
  simp only [zDL, b_law_12, mDcNew, mDcApp, mFreezeDc, mItDz, mZipDz, mValsDz, mListZip, mExt]
  refine dIx_it (k := 0) rfl rfl (dIx_it (k := 1) rfl rfl (R.make2 ?_))
  simp only [zDL, b_law_13, mDcNew, mDcApp, mFreezeDc, mItDz, mZipDz, mValsDz, mListZip, mExt]
  refine ⟨u, rows, s, m, sd, wl, rfl, R, ⟨m6, by omega⟩, ps, W1, ?_⟩
  simp only [zDL, b_law_14, mDcNew, mDcApp, mFreezeDc, mItDz, mZipDz, mValsDz, mListZip, mExt]
  refine ⟨low1 u rows, low2 u rows, s, m, sd, .lst wl, rfl, R', ⟨m6, by omega⟩, ps, W1, ?_⟩
  simp only [zDL, b_law_15, mDcNew, mDcApp, mFreezeDc, mItDz, mZipDz, mValsDz, mListZip, mExt]
  refine ⟨low1 u rows, low2 u rows, s, m, sd, .tup wl, rfl, R', ⟨m6, by omega⟩, ps, W2, ?_⟩
  rw [t2]
  by_cases z1 : belowB sd m = false
  · have e1 : ∀ f U M, tellD U M m sd (.lst wl) f = .lst [.str "signal", sd] := fun f U M => by unfold tellD; rw [if_pos z1]
    rw [e1, e1]
    exact l16 R m6 u1 wl hw _ (.inl ks) _ _ _ _ _ _ _ _ _ c (l18r R m6 u1 _ _ ks _ _ _ _ _ _ _ _ _ _ _ c)
  · have z1' : belowB sd m = true := by simpa using z1
    by_cases z2 : areWts (.lst wl) = false
    · have kw : D.ok 60 (.lst [.str "weights", .int 0]) = true := by unfold D.ok; decide +kernel
      have e1 : ∀ f U M, tellD U M m sd (.lst wl) f = .lst [.str "weights", .int 0] := fun f U M => by unfold tellD; rw [if_neg z1, if_pos z2]
      rw [e1, e1]
      exact l16 R m6 u1 wl hw _ (.inl kw) _ _ _ _ _ _ _ _ _ c (l18r R m6 u1 _ _ kw _ _ _ _ _ _ _ _ _ _ _ c)
    · have z2' : areWts (.lst wl) = true := by simpa using z2
      have e1 : ∀ f U M, tellD U M m sd (.lst wl) f = f (U * (rowOf (.lst wl)).sum) (M.map (spRow (intOf sd).toNat (rowOf (.lst wl)))) := fun f U M => by unfold tellD; rw [if_neg z1, if_neg z2]
      obtain ⟨w1, w2, w3, w4⟩ := hw.due z2'
      have him : (intOf sd).toNat < m := by
        unfold belowB at z1'
        simp only [Bool.and_eq_true, decide_eq_true_eq] at z1'
        omega
      rw [e1, e1]
      exact l16 R m6 u1 wl hw _ (.inr ⟨_, _, rfl⟩) _ _ _ _ _ _ _ _ _ c (l18s R m6 u1 him w1 w2 w3 w4 _ _ _ _ _ _ _ _ _ _ _ c)
theorem get_mapK {α β : Type} {f : α → β} {l : List α} {i : Nat} {y : β} (h : (l.map f)[i]? = some y) : ∃ x, l[i]? = some x ∧ y = f x := by
  rw [List.getElem?_map] at h
  cases q : l[i]? with
  | none => rw [q] at h; simp at h
  | some x => rw [q] at h; exact ⟨x, rfl, (Option.some.inj h).symm⟩
theorem allSc_ints (l : List Int) : allSc (l.map D.int) = true := by
  unfold allSc
  rw [List.all_eq_true]
  intro x hx
  obtain ⟨n, _, rfl⟩ := List.mem_map.mp hx
  rfl
theorem w_int {n : Int} (h1 : -1 ≤ n) (h2 : n ≤ 1000) : WIt (.int n) := .inl ⟨n, rfl, h1, h2⟩
theorem w_zero {wl : List D} (h : WlOk wl) : WlOk (wl.map fun _ => D.int 0) := ⟨by rw [List.length_map]; exact h.1, fun x hx => by
  obtain ⟨_, _, rfl⟩ := List.mem_map.mp hx
  exact w_int (by decide) (by decide)⟩
theorem sc_zero (wl : List D) : allSc (wl.map fun _ => D.int 0) = true := by
  unfold allSc
  rw [List.all_eq_true]
  intro x hx
  obtain ⟨_, _, rfl⟩ := List.mem_map.mp hx
  rfl
abbrev stA (u : Int) (rows : List (List Int)) (k : Int) (sd : D) (s5 s6 : S) : Ro := [.no, .sh .pool, .sh (.int k), .sh (tblD u rows), .sh sd, s5, s6, .no, .no, .no, .no, .no, .no, .no, .no, .no, .no]
section
variable {u : Int} {rows : List (List Int)} {s m : Nat} {wl : List D} {sd : D} {k : Int} {s6 : S} {c : Nat}
theorem l11 (R : RowsOk u rows s m) (m6 : m ≤ 6) (u1 : u ≤ 100) (hw : WlOk wl) (hs : SIt sd) : b_law_11 XL EL (stA u rows k sd (.own wl) s6) c := by
  simp only [zDL, b_law_11, mDcNew, mDcApp, mFreezeDc, mItDz, mZipDz, mValsDz, mListZip, mExt]
  exact l12 R m6 u1 wl hw sd hs _ _ _ _ _ _ _ _ _ _ _ c
theorem l10 (R : RowsOk u rows s m) (m6 : m ≤ 6) (u1 : u ≤ 100) (hw : WlOk wl) (hs : SIt sd) : b_law_10 XL EL (stA u rows k sd (.own wl) s6) c := by
  have hl := hw.1
  simp only [zDL, b_law_10, mDcNew, mDcApp, mFreezeDc, mItDz, mZipDz, mValsDz, mListZip, mExt]
  by_cases z : 9 < k
  · refine iteY (decide_eq_true z) ?_
    refine lcN wl (wl.map fun _ => D.int 0) (by simp) (fun P q => by simp only [zDL, mItS, mDcNew, mDcApp, mFreezeDc, mItDz, mZipDz, mValsDz, mListZip, mExt]; exact q) (by omega) (fun i x y hx hy post hq => ?_) ?_
    · obtain ⟨_, _, rfl⟩ := get_mapK hy
      exact hq
    · exact ⟨sc_zero wl, l11 R m6 u1 (w_zero hw) hs⟩
  · exact iteN (by simpa using z) (l11 R m6 u1 hw hs)
theorem l9 (R : RowsOk u rows s m) (m6 : m ≤ 6) (u1 : u ≤ 100) (hw : WlOk wl) (hs : SIt sd) (k12 : k < 12) : b_law_9 XL EL (stA u rows k sd (.own wl) s6) c := by
  obtain ⟨p0, g0⟩ : ∃ p, rows[0]? = some p := ⟨_, List.getElem?_eq_getElem (by rw [R.len]; have := R.s1; omega)⟩
  have w0 := (R.row _ (List.mem_of_getElem? g0)).1
  have g0r : (rowsD rows)[0]? = some (.lst (p0.map .int)) := by unfold rowsD; rw [List.getElem?_map, g0]; rfl
  simp only [zDL, b_law_9, tblD, mDcNew, mDcApp, mFreezeDc, mItDz, mZipDz, mValsDz, mListZip, mExt]
  by_cases z : 7 < k
  · refine iteY (decide_eq_true z) ?_
    refine dIx_it (k := 1) rfl rfl (dIx_it (k := 0) rfl g0r (dLen_it rfl ?_))
    rw [List.length_map, w0]
    have : k = 8 ∨ k = 9 ∨ k = 10 ∨ k = 11 := by omega
    rcases this with rfl | rfl | rfl | rfl
    · refine ⟨by decide, dIx_it (k := 0) rfl rfl ?_⟩
      exact l10 R m6 u1 hw (.inl ⟨_, rfl⟩)
    · refine ⟨by decide, dIx_it (k := 1) rfl rfl ?_⟩
      exact l10 R m6 u1 hw (.inl ⟨_, rfl⟩)
    · refine ⟨by decide, dIx_it (k := 2) rfl rfl ?_⟩
      exact l10 R m6 u1 hw (.inr (.inl rfl))
    · refine ⟨by decide, dIx_it (k := 3) rfl rfl ?_⟩
      exact l10 R m6 u1 hw (.inr (.inr rfl))
  · exact iteN (by simpa using z) (l10 R m6 u1 hw hs)
theorem l8 (R : RowsOk u rows s m) (m6 : m ≤ 6) (u1 : u ≤ 100) (hw : WlOk wl) (hs : SIt sd) (k12 : k < 12) : b_law_8 XL EL (stA u rows k sd (.own wl) s6) c := by
  simp only [zDL, b_law_8, mDcNew, mDcApp, mFreezeDc, mItDz, mZipDz, mValsDz, mListZip, mExt]
  refine ⟨⟨ok_int _ _, ok_int _ _⟩, ?_⟩
  rw [eqv_int]
  by_cases z : k = 3
  · refine iteY (by simpa using z) ?_
    exact ⟨by decide, l9 R m6 u1 (show WlOk [] from ⟨by decide, (fun _ h => (nomatch h))⟩) hs k12⟩
  · exact iteN (by simpa using z) (l9 R m6 u1 hw hs k12)
theorem l7 (R : RowsOk u rows s m) (m6 : m ≤ 6) (u1 : u ≤ 100) (hw : WlOk wl) (hs : SIt sd) (k12 : k < 12) {j : Nat} (hj : j < wl.length) (hc : c < 10000000) : b_law_7 XL EL (stA u rows k sd (.own wl) (.sh (.int j))) c := by
  have hset : ∀ x : D, WIt x → WlOk (wl.set j x) := fun x hx => ⟨by rw [List.length_set]; exact hw.1, fun y hy => by
    rcases List.mem_or_eq_of_mem_set hy with hy | hy
    · exact hw.2 y hy
    · rw [hy]; exact hx⟩
  have hjn : ixN wl.length (j : Int) = some j := by unfold ixN; rw [if_pos (by omega), if_pos (by omega)]; simp
  have hz3 : ∀ y : Int, 0 ≤ y → y < 3 → ∃ z, WIt z ∧ ∀ Q : D → Prop, Q z → dIx (.lst [.bl true, .non, .str "1"]) (.int y) Q := fun y y0 y3 => by
    have : y = 0 ∨ y = 1 ∨ y = 2 := by omega
    rcases this with rfl | rfl | rfl
    · exact ⟨.bl true, .inr (.inl rfl), fun Q q => dIx_it (k := 0) rfl rfl q⟩
    · exact ⟨.non, .inr (.inr (.inl rfl)), fun Q q => dIx_it (k := 1) rfl rfl q⟩
    · exact ⟨.str "1", .inr (.inr (.inr rfl)), fun Q q => dIx_it (k := 2) rfl rfl q⟩
  simp only [zDL, b_law_7, mDcNew, mDcApp, mFreezeDc, mItDz, mZipDz, mValsDz, mListZip, mExt]
  refine ⟨⟨ok_int _ _, ok_int _ _⟩, ?_⟩
  rw [eqv_int]
  by_cases z : k = 1
  · subst z
    refine iteY (by decide) ?_
    refine ⟨by decide, take_ok (by decide) (by decide) (by omega) fun y y0 y3 => ?_⟩
    obtain ⟨z, hz, hzi⟩ := hz3 y y0 y3
    refine hzi _ ⟨by decide, ?_⟩
    refine dIx_it (k := 0) rfl rfl ⟨j, hjn, ?_⟩
    exact l8 R m6 u1 (hset _ (w_int (by decide) (by decide))) hs k12
  · refine iteN (by simpa using z) ?_
    refine ⟨⟨ok_int _ _, ok_int _ _⟩, ?_⟩
    rw [eqv_int]
    by_cases z : k = 2
    · subst z
      refine iteY (by decide) ?_
      refine ⟨by decide, take_ok (by decide) (by decide) (by omega) fun y y0 y3 => ?_⟩
      obtain ⟨z, hz, hzi⟩ := hz3 y y0 y3
      refine hzi _ ⟨by decide, ?_⟩
      refine dIx_it (k := 1) rfl rfl ⟨j, hjn, ?_⟩
      exact l8 R m6 u1 (hset _ hz) hs k12
    · exact iteN (by simpa using z) (l8 R m6 u1 hw hs k12)
theorem l6 (R : RowsOk u rows s m) (m6 : m ≤ 6) (u1 : u ≤ 100) (hw : WlOk wl) (hs : SIt sd) (k12 : k < 12) {j : Nat} (hj : j < wl.length) (hc : c < 10000000) : b_law_6 XL EL (stA u rows k sd (.own wl) (.sh (.int j))) c := by
  have hl := hw.1
  simp only [zDL, b_law_6, mDcNew, mDcApp, mFreezeDc, mItDz, mZipDz, mValsDz, mListZip, mExt]
  refine ⟨⟨ok_int _ _, ok_int _ _⟩, ?_⟩
  rw [eqv_int]
  by_cases z : k = 0
  · refine iteY (by simpa using z) ?_
    refine lcN wl (wl.map fun _ => D.int 0) (by simp) (fun P q => by simp only [zDL, mItS, mDcNew, mDcApp, mFreezeDc, mItDz, mZipDz, mValsDz, mListZip, mExt]; exact q) (by omega) (fun i x y hx hy post hq => ?_) ?_
    · obtain ⟨_, _, rfl⟩ := get_mapK hy
      exact hq
    · exact ⟨sc_zero wl, l7 R m6 u1 (w_zero hw) hs k12 (by rw [List.length_map]; exact hj) hc⟩
  · exact iteN (by simpa using z) (l7 R m6 u1 hw hs k12 hj hc)
theorem l3 (R : RowsOk u rows s m) (m6 : m ≤ 6) (u1 : u ≤ 100) (k12 : k < 12) (hc : c < 1000000) {s4 : S} : b_law_3 XL EL [.no, .sh .pool, .sh (.int k), .sh (tblD u rows), s4, .no, .no, .no, .no, .no, .no, .no, .no, .no, .no, .no, .no] c := by
  obtain ⟨p0, g0⟩ : ∃ p, rows[0]? = some p := ⟨_, List.getElem?_eq_getElem (by rw [R.len]; have := R.s1; omega)⟩
  have w0 := (R.row _ (List.mem_of_getElem? g0)).1
  have g0r : (rowsD rows)[0]? = some (.lst (p0.map .int)) := by unfold rowsD; rw [List.getElem?_map, g0]; rfl
  have m1 := R.m1
  simp only [zDL, b_law_3, tblD, mDcNew, mDcApp, mFreezeDc, mItDz, mZipDz, mValsDz, mListZip, mExt]
  refine dIx_it (k := 1) rfl rfl (dIx_it (k := 0) rfl g0r (dLen_it rfl ?_))
  rw [List.length_map, w0]
  refine take_ok (by omega) (by omega) (by omega) fun sg _ _ => ?_
  simp only [zDL, b_law_4, mDcNew, mDcApp, mFreezeDc, mItDz, mZipDz, mValsDz, mListZip, mExt]
  refine take_ok (by decide) (by decide) (by omega) fun n n0 n4 => ?_
  obtain ⟨n, rfl⟩ : ∃ j : Nat, n = j := ⟨n.toNat, by omega⟩
  have en : ((1 : Int) + (n : Int)) = ((1 + n : Nat) : Int) := by rw [Int.natCast_add]; rfl
  refine ⟨by decide, take_ok (by decide) (by decide) (by omega) fun z2 z20 z21 => ?_⟩
  obtain ⟨mx, m1, m2, hix⟩ : ∃ mx : Nat, 1 ≤ mx ∧ mx ≤ 1000 ∧ ∀ Q : D → Prop, Q (.int mx) → dIx (.lst [.int 3, .int 1000]) (.int z2) Q := by
    have : z2 = 0 ∨ z2 = 1 := by omega
    rcases this with rfl | rfl
    · exact ⟨3, by decide, by decide, fun Q q => dIx_it (k := 0) rfl rfl q⟩
    · exact ⟨1000, by decide, by decide, fun Q q => dIx_it (k := 1) rfl rfl q⟩
  refine hix _ ?_
  rw [en]
  refine ⟨1 + n, mx, rfl, by omega, by omega, by omega, fun ns c2 q1 q2 q3 q4 => ?_⟩
  have hw : WlOk (ns.map .int) := ⟨by rw [List.length_map]; omega, fun x hx => by
    obtain ⟨n, hn, rfl⟩ := List.mem_map.mp hx
    have := q2 n hn
    exact w_int (by omega) (by omega)⟩
  refine ⟨allSc_ints ns, ?_⟩
  simp only [zDL, b_law_5, mDcNew, mDcApp, mFreezeDc, mItDz, mZipDz, mValsDz, mListZip, mExt]
  refine dLen_it rfl ⟨rfl, ?_⟩
  rw [List.length_map, q1]
  refine take_ok (by omega) (by omega) (by omega) fun at0 a0 a1 => ?_
  obtain ⟨j, rfl⟩ : ∃ j : Nat, at0 = j := ⟨at0.toNat, by omega⟩
  exact l6 R m6 u1 hw (.inl ⟨_, rfl⟩) k12 (by rw [List.length_map, q1]; omega) (by omega)
end
theorem d_law : b_law (fun _ _ _ => False) { nx := fun _ _ => False, rt := fun d _ => d = .bl true } (.no :: .sh .pool :: List.replicate 15 .no) 0 := by
  simp only [zDL, b_law, mDcNew, mDcApp, mFreezeDc, mItDz, mZipDz, mValsDz, mListZip, mExt]
  refine take_ok (by decide) (by decide) (by decide) fun k k0 k12 => ?_
  simp only [zDL, b_law_1, mDcNew, mDcApp, mFreezeDc, mItDz, mZipDz, mValsDz, mListZip, mExt]
  refine take_ok (by decide) (by decide) (by decide) fun n n0 n4 => ?_
  obtain ⟨n, rfl⟩ : ∃ j : Nat, n = j := ⟨n.toNat, by omega⟩
  have en : ((1 : Int) + (n : Int)) = ((1 + n : Nat) : Int) := by rw [Int.natCast_add]; rfl
  dsimp only
  rw [en]
  refine ⟨1 + n, 5, 60, rfl, by decide, by decide, by omega, by decide, fun u rows m c1 a1 a2 a3 a4 a5 a6 a7 => ?_⟩
  have c1b : c1 ≤ 30 := by
    have := Nat.mul_le_mul_left 5 (show 1 + n ≤ 4 by omega)
    omega
  have RM : RowsM u rows (1 + n) m := ⟨a5, a6⟩
  simp only [zDL, b_law_2, mDcNew, mDcApp, mFreezeDc, mItDz, mZipDz, mValsDz, mListZip, mExt]
  refine take_ok (by decide) (by decide) (by omega) fun z _ _ => ⟨⟨ok_int _ _, ok_int _ _⟩, ?_⟩
  rw [eqv_int]
  by_cases hz : z = 0
  · refine iteY (by simpa using hz) ?_
    refine ⟨u, rows, 1 + n, m, rfl, RM, by omega, by omega, by omega, fun rows' c' RM' hc' => ?_⟩
    exact l3 (RowsOk.ofM RM' a1 (by omega) (by omega) (by omega) (by omega) (by omega)) (by omega) (by omega) k12 (by omega)
  · exact iteN (by simpa using hz) (l3 (RowsOk.ofM RM a1 (by omega) (by omega) (by omega) (by omega) (by omega)) (by omega) (by omega) k12 (by omega))
theorem d_law_is : ∀ ds c xe rt, fIsB xe ds c rt → ds.length = 2 ∧ b_law_is (fun _ _ _ => False) { nx := fun _ c' => rt .non c', rt := rt, rtN := rt } (ro0 ["_law_told_here", "_law_due_here"] ds) c := by
  rintro _ c xe rt ⟨a, b, rfl, h⟩
  refine ⟨rfl, ?_⟩
  simp only [zDL, b_law_is, mDcNew, mDcApp, mFreezeDc, mItDz, mZipDz, mValsDz, mListZip, mExt]
  have ob : ∀ b : Bool, D.ok 60 (.bl b) = true := fun b => by cases b <;> rfl
  refine ⟨⟨ob a, ob b⟩, ?_⟩
  have : D.eqv (.bl a) (.bl b) = (a == b) := by cases a <;> cases b <;> rfl
  rw [this]; exact h
section
variable {P : Program} {w : World} {K : PySem.W.Frag} {mg : Str → Option Value} {base : Heap}
theorem ok_law_pool {f : Addr} {fd : FuncData} (F : Fun K "_law_pool" "_law_pool" s_law_pool f fd) (hm : mg "_law_pool" = some (.ref f)) (hb : Binds K fd ["_law_script"] []) (g_list : mg "list" = none) :
    OkS (spPool K) P w K mg base 1 "_law_pool" ["_law_script"] := by
  refine ⟨f, fd, hm, F.kp, hb, F.ok sc_law_pool (fun vs H Q E h => ?_) (fun cdv A outer s H vs Q E hr h => ?_)⟩
  · obtain ⟨a, ns, rfl, _⟩ := h
    rfl
  · obtain ⟨a, ns, rfl, hS, k⟩ := h
    refine ⟨_, (pss_one (ps_ret (pe_lst (pa_cons pe_int (pa_cons pe_int (pa_cons (pe_callTy call_list_of (by rfl) g_list (by decide +kernel) (pa_cons (pv 0) pa_nil)) pa_nil)))))), ?_⟩
    refine ⟨_, rfl, _, _, rfl, .inl hS, fun l hl => ⟨by show 3 ≤ sizeLine; decide, fun p hp => ?_⟩⟩
    have hlp : l ≠ p := fun z => by
      subst z
      rw [upd_same] at hp
      cases hp
    exact k p l _ hlp upd_same (by rw [upd_ne hlp]; exact upd_same)
theorem ok_law_take {f : Addr} {fd : FuncData} (F : Fun K "_law_take" "_law_take" s_law_take f fd) (hm : mg "_law_take" = some (.ref f)) (hb : Binds K fd ["_law_pool_here", "_law_many"] []) (g_int : mg "int" = none) (g_max : mg "max" = none) (g_len : mg "len" = none) :
    Ok0 P w K mg base 1 "_law_take" ["_law_pool_here", "_law_many"] fTake := by
  refine ⟨f, fd, hm, F.kp, hb, F.ok sc_law_take (fun vs H Q E h => ?_) (fun cdv A outer s H vs Q E hr h => ?_)⟩
  · obtain ⟨p, G, c, ds, xe, rt, wd, r, ⟨n, rfl, _⟩, _⟩ := h
    exact r.len
  · obtain ⟨p, G, c, ds, xe, rt, wd, r, ⟨n, rfl, hn, hlog, hc, hk⟩, k1, k2⟩ := h
    obtain ⟨v, u, rfl, r1, r2⟩ := r.two
    cases r1; cases r2
    obtain ⟨t, rs, cs, ns, q1, q2, q3, q4, q5⟩ := wd.pl
    have hcs : H cs = some (.lst (ns.map V.int)) := wd.sub _ _ q2
    have ncs : cs ≠ p := fun z => by subst z; rw [wd.gp] at q2; cases q2
    -- every way out: a number below many, the pool as it may stand
    have fin : ∀ (k t' r' : Int) (H' : Hp), 0 ≤ k → k < n → 0 ≤ t' → t' ≤ ((c + 1 : Nat) : Int) → H' p = some (.lst [.int t', .int r', .ref cs]) → (∀ a o, a ≠ p → H a = some o → H' a = some o) → Q (.int k) H' := fun k t' r' H' a1 a2 a3 a4 a5 a6 => by
      refine k1 (.int k) (c + 1) (.int k) G H' (hk k a1 a2) ⟨Ex.refl _, fun _ _ z => .inl z, a6, fun xs z => ?_⟩ ⟨fun a o z => a6 a o (fun y => by subst y; rw [wd.gp] at z; cases z) (wd.sub a o z), wd.gp, ?_⟩ (.int k)
      · rw [q1] at z; cases z; exact ⟨_, a5, rfl⟩
      · exact ⟨t', r', cs, ns, a5, q2, q3, a3, a4⟩
    have md : ∀ x : Int, 0 ≤ x.fmod n ∧ x.fmod n < n := fun x => by
      rw [Int.fmod_eq_emod_of_nonneg _ (Int.le_of_lt hn)]
      exact ⟨Int.emod_nonneg _ (by omega), Int.emod_lt_of_pos _ hn⟩
    have ix0 : ∀ z0 z1 z2 : V, atI [z0, z1, z2] 0 = some z0 := fun _ _ _ => rfl
    have ix1 : ∀ z0 z1 z2 : V, atI [z0, z1, z2] 1 = some z1 := fun _ _ _ => rfl
    have ix2 : ∀ z0 z1 z2 : V, atI [z0, z1, z2] 2 = some z2 := fun _ _ _ => rfl
    have lg : ∀ k : Int, 0 ≤ k → k < 1000000000000 → k.natAbs.log2 < 60 := fun k h0 h1 => by
      by_cases z : k.natAbs = 0
      · rw [z]; decide
      · exact (Nat.log2_lt z).mpr (by omega)
    refine ⟨_, (pss_cons (ps_if (pt_cmpR (op_eqD hr.units) (pe_ix ix_seq (pv 0) pe_int (fun _ _ => rfl)) pe_int (nomark _)) (pss_cons (ps_set (i := 3) sc_law_take.nd rfl (by first | exact Or.inl rfl | exact Or.inr rfl) (pe_ix ix_seq (pv 0) pe_int (fun _ _ => rfl)))
      (pss_cons (ps_asg (pe_op op_addG (pv 3) pe_int) (pg_sub (pv 0) pe_int set_list))
      (pss_cons (ps_set (i := 4) sc_law_take.nd rfl (by first | exact Or.inl rfl | exact Or.inr rfl) (pe_ix ix_seq (pe_op op_addG (pe_ix ix_seq (pv 0) pe_int (fun _ _ => rfl)) (pe_lst (pa_cons pe_int pa_nil))) (pe_op op_modN (pe_callTy call_int1 (by rfl) g_int (by decide +kernel) (pa_cons (pv 3) pa_nil)) (pe_callB (call_max2 rfl) (by rfl) g_max (by decide +kernel) (pa_cons pe_int (pa_cons (pe_callB call_len (by rfl) g_len PySem.boot_len (pa_cons (pe_ix ix_seq (pv 0) pe_int (fun _ _ => rfl)) pa_nil)) pa_nil)))) (fun _ _ => rfl)))
      (pss_cons (ps_set (i := 5) sc_law_take.nd rfl (by first | exact Or.inl rfl | exact Or.inr rfl) (pe_op op_modN (pe_op op_pow (pe_op op_addG (pe_op op_addG (pe_op op_modN (pe_callTy call_int1 (by rfl) g_int (by decide +kernel) (pa_cons (pv 4) pa_nil)) pe_int) (pe_op op_mulW pe_int (pv 3))) pe_int) pe_int) pe_int))
      (pss_cons (ps_set (i := 5) sc_law_take.nd rfl (by first | exact Or.inl rfl | exact Or.inr rfl) (pe_op op_modN (pe_op op_pow (pe_op op_addG (pe_op op_addG (pv 5) (pe_op op_mulW pe_int (pv 3))) pe_int) pe_int) pe_int))
      (pss_cons (ps_if (pt_cmpR op_lt (pv 4) (pe_op op_pow pe_int pe_int) (nomark _)) (pss_one (ps_ret (pe_op op_modN (pe_op op_fdivG (pv 5) pe_int) (pv 1)))) pss_nil)
      (pss_one (ps_asg (pv 4) (pg_sub (pv 0) pe_int set_list))))))))) pss_nil)
      (pss_cons (ps_set (i := 2) sc_law_take.nd rfl (by first | exact Or.inl rfl | exact Or.inr rfl) (pe_op op_modN (pe_callTy call_int1 (by rfl) g_int (by decide +kernel) (pa_cons (pe_ix ix_seq (pv 0) pe_int (fun _ _ => rfl)) pa_nil)) (pv 1)))
      (pss_cons (ps_asg (pe_op op_fdivG (pe_ix ix_seq (pv 0) pe_int (fun _ _ => rfl)) (pv 1)) (pg_sub (pv 0) pe_int set_list))
      (pss_one (ps_ret (pv 2)))))), ?_⟩
    -- the draw out of what is left of a great number
    have rest : ∀ (t' r' : Int) (H' : Hp) (o3 o4 o5 : Option V), 0 ≤ t' → t' ≤ ((c + 1 : Nat) : Int) → H' p = some (.lst [.int t', .int r', .ref cs]) → (∀ a o, a ≠ p → H a = some o → H' a = some o) →
        (tSeq (tAsg (tOp (rI (fun _ j => j ≠ 0) fun i j => .int (i.fmod j)) (tCB (fun xs H Q => (∃ i, xs = [.int i] ∧ Q (.int i) H) ∨ ∃ k, xs = [.bl k] ∧ Q (.int (if k then 1 else 0)) H) (tCons (tOp (rIx K) (tVar 0) (tC (.int 1))) tNil)) (tVar 1)) (gName 2))
          (tSeq (tAsg (tOp (rI CDivG fun i j => .int (i.fdiv j)) (tOp (rIx K) (tVar 0) (tC (.int 1))) (tVar 1)) (gSub (tVar 0) (tC (.int 1)) rSetL)) (tRet (tVar 2))))
          { nx := fun _ H' => Q .non H', rt := Q } [some (.ref p), some (.int n), none, o3, o4, o5] H' := fun t' r' H' o3 o4 o5 a3 a4 a5 a6 => by
      refine ⟨_, rfl, .inl ⟨p, _, _, _, rfl, rfl, SqL.of a5, ix1 _ _ _, .inl ⟨_, rfl, ⟨_, rfl, _, _, rfl, rfl, by omega, ?_⟩⟩⟩⟩
      refine ⟨_, rfl, .inl ⟨p, _, _, _, rfl, rfl, SqL.of a5, ix1 _ _ _, ⟨_, rfl, _, _, rfl, rfl, ⟨by omega, hlog⟩, ⟨_, rfl, p, _, _, 1, rfl, rfl, a5, rfl, ⟨_, rfl, ?_⟩⟩⟩⟩⟩
      exact fin _ t' _ _ (md r').1 (md r').2 a3 a4 upd_same fun a o z y => by rw [upd_ne z]; exact a6 a o z y
    refine ⟨_, rfl, .inl ⟨p, _, _, _, rfl, rfl, SqL.of q1, ix1 _ _ _, ⟨_, _, Dp.int _, Dp.int _, rfl, rfl, _, rfl, ?_⟩⟩⟩
    refine ite2 (fun _ => ?_) (fun _ => ?_)
    · refine ⟨_, rfl, .inl ⟨p, _, _, _, rfl, rfl, SqL.of q1, ix0 _ _ _, ?_⟩⟩
      refine ⟨_, rfl, .inl ⟨_, _, rfl, rfl, ⟨_, rfl, p, _, _, 0, rfl, rfl, q1, rfl, ?_⟩⟩⟩
      have p1 : upd H p (.lst [.int (t + 1), .int rs, .ref cs]) p = some (.lst [.int (t + 1), .int rs, .ref cs]) := upd_same
      have c1 : upd H p (.lst [.int (t + 1), .int rs, .ref cs]) cs = some (.lst (ns.map V.int)) := by rw [upd_ne ncs]; exact hcs
      -- cell
      refine ⟨_, rfl, .inl ⟨p, _, _, _, rfl, rfl, SqL.of p1, ix2 _ _ _, ⟨by show 1 ≤ sizeLine; decide, fun l1 hl1 => .inr (.inr ⟨cs, l1, ns.map V.int, [.int 0], rfl, rfl, ?_, upd_same, ?_, fun l2 hl2 => ?_⟩)⟩⟩⟩
      · rw [upd_ne (ne_of_none c1 hl1)]; exact c1
      · show (ns.map V.int).length + 1 ≤ sizeLine
        rw [List.length_map]
        exact Nat.le_trans (by omega : ns.length + 1 ≤ 1000000) Grow.sz
      have np1 : p ≠ l1 := ne_of_none p1 hl1
      have nc1 : cs ≠ l1 := ne_of_none c1 hl1
      have p2 : upd (upd H p (.lst [.int (t + 1), .int rs, .ref cs])) l1 (.lst [.int 0]) p = some (.lst [.int (t + 1), .int rs, .ref cs]) := by rw [upd_ne np1]; exact p1
      have c2 : upd (upd H p (.lst [.int (t + 1), .int rs, .ref cs])) l1 (.lst [.int 0]) cs = some (.lst (ns.map V.int)) := by rw [upd_ne nc1]; exact c1
      have np2 : p ≠ l2 := ne_of_none p2 hl2
      have nc2 : cs ≠ l2 := ne_of_none c2 hl2
      have keep : ∀ a o, a ≠ p → H a = some o → upd (upd (upd H p (.lst [.int (t + 1), .int rs, .ref cs])) l1 (.lst [.int 0])) l2 (.lst (ns.map V.int ++ [.int 0])) a = some o := fun a o z y => by
        have y1 : upd H p (.lst [.int (t + 1), .int rs, .ref cs]) a = some o := by rw [upd_ne z]; exact y
        have y2 : upd (upd H p (.lst [.int (t + 1), .int rs, .ref cs])) l1 (.lst [.int 0]) a = some o := by rw [upd_ne (ne_of_none y1 hl1)]; exact y1
        rw [upd_ne (ne_of_none y2 hl2)]; exact y2
      have p3 : upd (upd (upd H p (.lst [.int (t + 1), .int rs, .ref cs])) l1 (.lst [.int 0])) l2 (.lst (ns.map V.int ++ [.int 0])) p = some (.lst [.int (t + 1), .int rs, .ref cs]) := by rw [upd_ne np2]; exact p2
      have c3 : upd (upd (upd H p (.lst [.int (t + 1), .int rs, .ref cs])) l1 (.lst [.int 0])) l2 (.lst (ns.map V.int ++ [.int 0])) cs = some (.lst (ns.map V.int)) := by rw [upd_ne nc2]; exact c2
      have l3 : upd (upd (upd H p (.lst [.int (t + 1), .int rs, .ref cs])) l1 (.lst [.int 0])) l2 (.lst (ns.map V.int ++ [.int 0])) l2 = some (.lst (ns.map V.int ++ [.int 0])) := upd_same
      -- the place
      let L : Int := if ((ns.map V.int).length : Int) > 1 then ((ns.map V.int).length : Int) else 1
      have hL : 1 ≤ L ∧ L ≤ (ns.length : Int) + 1 := by
        show 1 ≤ (if ((ns.map V.int).length : Int) > 1 then ((ns.map V.int).length : Int) else 1) ∧ (if ((ns.map V.int).length : Int) > 1 then ((ns.map V.int).length : Int) else 1) ≤ (ns.length : Int) + 1
        rw [List.length_map]
        split <;> omega
      have hj : 0 ≤ t.fmod L ∧ t.fmod L < L := by
        rw [Int.fmod_eq_emod_of_nonneg _ (by omega)]
        exact ⟨Int.emod_nonneg _ (by omega), Int.emod_lt_of_pos _ (by omega)⟩
      obtain ⟨cell, hcell⟩ : ∃ cell : Int, atI (ns.map V.int ++ [.int 0]) (t.fmod L) = some (.int cell) := by
        have e : (ns.map V.int ++ [V.int 0]) = (ns ++ [0]).map V.int := by simp
        have hlt : (t.fmod L).toNat < (ns ++ [0]).length := by simp; omega
        refine ⟨(ns ++ [0])[(t.fmod L).toNat], ?_⟩
        have ej : t.fmod L = (((t.fmod L).toNat : Nat) : Int) := by omega
        rw [e]
        exact at_of ej (by rw [List.getElem?_map, List.getElem?_eq_getElem hlt]; rfl)
      refine ⟨_, rfl, .inl ⟨_, rfl, ⟨_, rfl, .inl ⟨p, _, _, _, rfl, rfl, SqL.of p3, ix2 _ _ _, ⟨_, _, rfl, .inl ⟨_, SqL.of c3, rfl⟩, ⟨_, _, rfl, ⟨_, _, rfl, rfl, ?_, .inl ⟨l2, _, _, _, rfl, rfl, SqL.of l3, hcell, ?_⟩⟩⟩⟩⟩⟩⟩⟩
      · show L ≠ 0
        omega
      -- mixed
      have m1 : 0 ≤ cell.fmod 2147483647 ∧ cell.fmod 2147483647 < 2147483647 := by
        rw [Int.fmod_eq_emod_of_nonneg _ (by decide)]
        exact ⟨Int.emod_nonneg _ (by decide), Int.emod_lt_of_pos _ (by decide)⟩
      have m2 : ∀ x : Int, 0 ≤ x.fmod 2147483647 ∧ x.fmod 2147483647 < 2147483647 := fun x => by
        rw [Int.fmod_eq_emod_of_nonneg _ (by decide)]
        exact ⟨Int.emod_nonneg _ (by decide), Int.emod_lt_of_pos _ (by decide)⟩
      have tl : t ≤ 1000000000 := by omega
      refine ⟨_, rfl, .inl ⟨_, rfl, ⟨_, _, rfl, rfl, (by show (2147483647 : Int) ≠ 0; decide), ⟨_, rfl, ⟨_, _, rfl, rfl, ?_, .inl ⟨_, _, rfl, rfl, .inl ⟨_, _, rfl, rfl, ⟨_, _, rfl, rfl, ⟨by decide, by decide, ?_⟩, ⟨_, _, rfl, rfl, (by show (2147483647 : Int) ≠ 0; decide), ?_⟩⟩⟩⟩⟩⟩⟩⟩⟩
      · show (7919 : Int).natAbs.log2 + t.natAbs.log2 < 1000000
        have := lg t q4 (by omega)
        have : (7919 : Int).natAbs.log2 = 12 := by decide
        omega
      · show (cell.fmod 2147483647 + 7919 * t + 13).natAbs < 2 ^ 64
        omega
      have b1 := m2 ((cell.fmod 2147483647 + 7919 * t + 13) ^ (5 : Int).toNat)
      refine ⟨_, rfl, ⟨_, rfl, ⟨_, _, rfl, rfl, ?_, .inl ⟨_, _, rfl, rfl, .inl ⟨_, _, rfl, rfl, ⟨_, _, rfl, rfl, ⟨by decide, by decide, ?_⟩, ⟨_, _, rfl, rfl, (by show (2147483629 : Int) ≠ 0; decide), ?_⟩⟩⟩⟩⟩⟩⟩
      · show (104729 : Int).natAbs.log2 + t.natAbs.log2 < 1000000
        have := lg t q4 (by omega)
        have : (104729 : Int).natAbs.log2 = 16 := by decide
        omega
      · show (((cell.fmod 2147483647 + 7919 * t + 13) ^ (5 : Int).toNat).fmod 2147483647 + 104729 * t + 29).natAbs < 2 ^ 64
        generalize ((cell.fmod 2147483647 + 7919 * t + 13) ^ (5 : Int).toNat).fmod 2147483647 = x1 at b1
        omega
      refine ⟨_, rfl, _, _, rfl, rfl, ⟨by decide, by decide, by decide⟩, _, _, rfl, rfl, _, rfl, ?_⟩
      refine ite2 (fun _ => ?_) (fun _ => ?_)
      · refine ⟨_, rfl, _, _, rfl, rfl, ⟨by decide, by decide⟩, ⟨_, rfl, _, _, rfl, rfl, by omega, ?_⟩⟩
        exact fin _ (t + 1) rs _ (md _).1 (md _).2 (by omega) (by omega) p3 keep
      · refine ⟨_, rfl, ⟨_, rfl, p, _, _, 1, rfl, rfl, p3, rfl, ?_⟩⟩
        exact rest (t + 1) cell _ _ _ _ (by omega) (by omega) upd_same fun a o z y => by rw [upd_ne z]; exact keep a o z y
    · exact rest t rs H _ _ _ q4 (by omega) q1 fun a o _ y => y
theorem ok_is_integer {f : Addr} {fd : FuncData} (F : Fun K "is_integer" "is_integer" s_is_integer f fd) (hm : mg "is_integer" = some (.ref f)) (hb : Binds K fd ["value"] []) (g_isinstance : mg "isinstance" = none) (g_int : mg "int" = none) (g_bool : mg "bool" = none) :
    Ok0 P w K mg base 1 "is_integer" ["value"] fIsInt :=
  ⟨f, fd, hm, F.kp, hb, fnS0 (mb := b_is_integer) F sc_is_integer (fun cdv A outer s H E hr => ⟨_, (pss_one (ps_ret (pe_and (pe_callB call_isi (by rfl) g_isinstance (by decide +kernel) (pa_cons (pv 0) (pa_cons (pe_bltn (v := .ty "int") (by rfl) g_int (by decide +kernel) rfl) pa_nil))) (pe_one (pe_not (pe_callB call_isi (by rfl) g_isinstance (by decide +kernel) (pa_cons (pv 0) (pa_cons (pe_bltn (v := .ty "bool") (by rfl) g_bool (by decide +kernel) rfl) pa_nil)))))))),
    (sim_ret (sim_andV (sim_isi (T := "int") (by decide +kernel) sim_var) (sim_notV (sim_isi (T := "bool") (by decide +kernel) sim_var))))⟩) d_is_integer⟩
theorem ok_is_number_below {f : Addr} {fd : FuncData} (F : Fun K "is_number_below" "is_number_below" s_is_number_below f fd) (hm : mg "is_number_below" = some (.ref f)) (hb : Binds K fd ["value", "count"] []) (o_is_integer : Ok0 P w K mg base 1 "is_integer" ["value"] fIsInt) :
    Ok0 P w K mg base 2 "is_number_below" ["value", "count"] fBelow :=
  ⟨f, fd, hm, F.kp, hb, fnS0 (mb := b_is_number_below) F sc_is_number_below (fun cdv A outer s H E hr => ⟨_, (pss_one (ps_ret (pe_and (pe_callO o_is_integer hr (by decide) (pa_cons (pv 0) pa_nil)) (pe_one (pe_chain op_le op_lt pe_int (pv 0) (pv 1)))))),
    (sim_ret (sim_andV (sim_call0 (sim_cons sim_var sim_nil)) (sim_chain sr_B0 sr_B0 sim_int sim_var sim_var)))⟩) d_is_number_below⟩
theorem ok_are_integers {f : Addr} {fd : FuncData} (F : Fun K "are_integers" "are_integers" s_are_integers f fd) (hm : mg "are_integers" = some (.ref f)) (hb : Binds K fd ["values"] []) (g_isinstance : mg "isinstance" = none) (g_list : mg "list" = none) (g_tuple : mg "tuple" = none) (g_all : mg "all" = none) (o_is_integer : Ok0 P w K mg base 1 "is_integer" ["value"] fIsInt) :
    Ok0 P w K mg base 2 "are_integers" ["values"] fAreInts :=
  ⟨f, fd, hm, F.kp, hb, fnS0 (mb := b_are_integers) F sc_are_integers (fun cdv A outer s H E hr => ⟨_, (pss_one (ps_ret (pe_and (pe_callB call_isiT (by rfl) g_isinstance (by decide +kernel) (pa_cons (pv 0) (pa_cons (pe_tup (pa_cons (pe_bltn (v := .ty "list") (by rfl) g_list (by decide +kernel) rfl) (pa_cons (pe_bltn (v := .ty "tuple") (by rfl) g_tuple (by decide +kernel) rfl) pa_nil))) pa_nil))) (pe_one (pe_callB (cr_all rfl) (by rfl) g_all (by decide +kernel) (pa_cons (pe_lc (own := [("value", 1)]) rfl sc_are_integers.nd (pi_seq (pv 0)) (blkOk_by (own := [("value", 1)]) (N := ["values", "value"]) (sc := defScope s_are_integers) (by decide +kernel)) (fun _ _ _ _ _ => (pg_name (i := 1) sc_are_integers.nd rfl (by first | exact Or.inl rfl | exact Or.inr rfl))) (fun _ _ _ _ _ => pts_nil) (fun _ _ _ _ _ => (pe_callO o_is_integer hr (by decide) (pa_cons (pv 1) pa_nil)))) pa_nil)))))),
    (sim_ret (sim_andV (sim_isi2 (T := "list") (U := "tuple") (by decide +kernel) (by decide +kernel) sim_var) (sim_cb srl_all (sim_cons (sim_frz (sim_lc (sim_itS sim_var) (sim_gnw (i := 1) (vs := [1])) sim_yes (sim_call0 (sim_cons sim_var sim_nil)))) sim_nil))))⟩) d_are_integers⟩
theorem ok_are_amounts {f : Addr} {fd : FuncData} (F : Fun K "are_amounts" "are_amounts" s_are_amounts f fd) (hm : mg "are_amounts" = some (.ref f)) (hb : Binds K fd ["values"] []) (o_are_integers : Ok0 P w K mg base 2 "are_integers" ["values"] fAreInts) (g_all : mg "all" = none) :
    Ok0 P w K mg base 3 "are_amounts" ["values"] fAreAms :=
  ⟨f, fd, hm, F.kp, hb, fnS0 (mb := b_are_amounts) F sc_are_amounts (fun cdv A outer s H E hr => ⟨_, (pss_one (ps_ret (pe_and (pe_callO o_are_integers hr (by decide) (pa_cons (pv 0) pa_nil)) (pe_one (pe_callB (cr_all rfl) (by rfl) g_all (by decide +kernel) (pa_cons (pe_lc (own := [("value", 1)]) rfl sc_are_amounts.nd (pi_seq (pv 0)) (blkOk_by (own := [("value", 1)]) (N := ["values", "value"]) (sc := defScope s_are_amounts) (by decide +kernel)) (fun _ _ _ _ _ => (pg_name (i := 1) sc_are_amounts.nd rfl (by first | exact Or.inl rfl | exact Or.inr rfl))) (fun _ _ _ _ _ => pts_nil) (fun _ _ _ _ _ => (pe_cmpR op_ge (pv 1) pe_int (nomark _)))) pa_nil)))))),
    (sim_ret (sim_andV (sim_call0 (sim_cons sim_var sim_nil)) (sim_cb srl_all (sim_cons (sim_frz (sim_lc (sim_itS sim_var) (sim_gnw (i := 1) (vs := [1])) sim_yes (sim_op sr_B0 sim_var sim_int))) sim_nil))))⟩) d_are_amounts⟩
theorem ok_are_weights {f : Addr} {fd : FuncData} (F : Fun K "are_weights" "are_weights" s_are_weights f fd) (hm : mg "are_weights" = some (.ref f)) (hb : Binds K fd ["values"] []) (o_are_amounts : Ok0 P w K mg base 3 "are_amounts" ["values"] fAreAms) (g_sum : mg "sum" = none) :
    Ok0 P w K mg base 4 "are_weights" ["values"] fAreWts :=
  ⟨f, fd, hm, F.kp, hb, fnS0 (mb := b_are_weights) F sc_are_weights (fun cdv A outer s H E hr => ⟨_, (pss_one (ps_ret (pe_and (pe_callO o_are_amounts hr (by decide) (pa_cons (pv 0) pa_nil)) (pe_one (pe_cmpR op_gt (pe_callB (cr_sumS rfl) (by rfl) g_sum (by decide +kernel) (pa_cons (pv 0) pa_nil)) pe_int (nomark _)))))),
    (sim_ret (sim_andV (sim_call0 (sim_cons sim_var sim_nil)) (sim_op sr_B0 (sim_cb srl_sum (sim_cons sim_var sim_nil)) sim_int)))⟩) d_are_weights⟩
theorem ok_check_same_states {f : Addr} {fd : FuncData} (F : Fun K "check_same_states" "check_same_states" s_check_same_states f fd) (hm : mg "check_same_states" = some (.ref f)) (hb : Binds K fd ["one", "other"] []) (cok : CTab.Ok ⟨K, mg, P, w⟩ ctab) (e_Mismatch : OkErr0 P w K mg base "Mismatch") :
    OkX (spS ⟨K, mg, P, w⟩ fSame) P w K mg base 1 "check_same_states" ["one", "other"] :=
  ⟨f, fd, hm, F.kp, hb, fnSX (mb := b_check_same_states) F sc_check_same_states (fun cdv A outer s H E hr => ⟨_, (pss_one (ps_if (pt_cmpR (op_neD hr.units) (pe_fld (pv 0) (by rfl)) (pe_fld (pv 1) (by rfl)) (nomark _)) (pss_one (ps_raise rfl (takes_of rfl rfl rfl rfl) (pmk_0 e_Mismatch))) pss_nil)),
    (sim_ifS (sim_test (sim_op sr_ne (sim_fldT cok sim_var) (sim_fldT cok sim_var))) (sim_raise sim_mk0) sim_next)⟩) d_check_same_states⟩
theorem ok_check_states {f : Addr} {fd : FuncData} (F : Fun K "check_states" "check_states" s_check_states f fd) (hm : mg "check_states" = some (.ref f)) (hb : Binds K fd ["states"] []) (o_is_integer : Ok0 P w K mg base 1 "is_integer" ["value"] fIsInt) {tk_MOST_STATES : Tok} (g_MOST_STATES : mg "_MOST_STATES" = some (.int 4 tk_MOST_STATES)) (e_BadSize : OkErr P w K mg base "BadSize" "size") :
    OkX (spS ⟨K, mg, P, w⟩ fCheckStates) P w K mg base 3 "check_states" ["states"] :=
  ⟨f, fd, hm, F.kp, hb, fnSX (mb := b_check_states) F sc_check_states (fun cdv A outer s H E hr => ⟨_, (pss_one (ps_if (PW.pt (pw_or (pt_not (pt_val (pe_callO o_is_integer hr (by decide) (pa_cons (pv 0) pa_nil)))) (pw_or1 (pt_not (pt_chain op_le op_le pe_int (pv 0) (pe_glob (v := (.int 4)) (by rfl) g_MOST_STATES ⟨_, rfl⟩)))))) (pss_one (ps_raise rfl (takes_of rfl rfl rfl rfl) (pmk_E e_BadSize hr (by decide) (pv 0)))) pss_nil)),
    (sim_ifS (sim_or (sim_not (sim_testB (sim_call0 (sim_cons sim_var sim_nil)))) (sim_not (sim_test (sim_chain sr_B0 sr_B0 sim_int sim_var sim_int)))) (sim_raise (sim_mkE sim_var)) sim_next)⟩) d_check_states⟩
theorem ok_common {f : Addr} {fd : FuncData} (F : Fun K "common" "common" s_common f fd) (hm : mg "common" = some (.ref f)) (hb : Binds K fd ["ratios"] []) (g_lcm : mg "lcm" = some (.builtin "math.lcm")) :
    Ok0 P w K mg base 1 "common" ["ratios"] fCommon :=
  ⟨f, fd, hm, F.kp, hb, fnS0 (mb := b_common) F sc_common (fun cdv A outer s H E hr => ⟨_, (pss_cons (ps_set (i := 1) sc_common.nd rfl (by first | exact Or.inl rfl | exact Or.inr rfl) pe_int)
      (pss_cons (ps_for PassesOwn.never rfl (pi_seq (pv 0)) (pg_tup rfl (pgs_cons (pg_name (i := 2) sc_common.nd rfl (by first | exact Or.inl rfl | exact Or.inr rfl)) (pgs_cons (pg_name (i := 3) sc_common.nd rfl (by first | exact Or.inl rfl | exact Or.inr rfl)) pgs_nil))) (pss_one (ps_set (i := 1) sc_common.nd rfl (by first | exact Or.inl rfl | exact Or.inr rfl) (pe_callBfun cr_lcm (by rfl) g_lcm (pa_cons (pv 1) (pa_cons (pv 3) pa_nil))))))
      (pss_one (ps_ret (pe_tup (pa_cons (pv 1) (pa_cons (pe_lc (own := [("top", 4), ("bottom", 3)]) rfl sc_common.nd (pi_seq (pv 0)) (blkOk_by (own := [("top", 4), ("bottom", 3)]) (N := ["ratios", "unit", "_", "bottom", "top"]) (sc := defScope s_common) (by decide +kernel)) (fun _ _ _ _ _ => (pg_tup rfl (pgs_cons (pg_name (i := 4) sc_common.nd rfl (by first | exact Or.inl rfl | exact Or.inr rfl)) (pgs_cons (pg_name (i := 3) sc_common.nd rfl (by first | exact Or.inl rfl | exact Or.inr rfl)) pgs_nil)))) (fun _ _ _ _ _ => pts_nil) (fun _ _ _ _ _ => (pe_op op_mulW (pv 4) (pe_op op_fdivG (pv 1) (pv 3))))) pa_nil))))))),
    (sim_seq (sim_asg sim_int sim_gn)
      (sim_seq (sim_for (sim_itS sim_var) (sim_gt (sim_gsc sim_gn (sim_gsc sim_gn sim_gsn))) (sim_asg (sim_cb srl_lcm (sim_cons sim_var (sim_cons sim_var sim_nil))) sim_gn))
      (sim_ret (sim_tup (sim_cons sim_var (sim_cons (sim_frz (sim_lc (sim_itS sim_var) (sim_gtw (sim_gscw (sim_gnw (i := 4) (vs := [4, 3])) (sim_gscw (sim_gnw (i := 3) (vs := [4, 3])) sim_gsnw))) sim_yes (sim_op sr_I sim_var (sim_op sr_I sim_var sim_var)))) sim_nil))))))⟩) d_common⟩
theorem ok_lowest {f : Addr} {fd : FuncData} (F : Fun K "lowest" "lowest" s_lowest f fd) (hm : mg "lowest" = some (.ref f)) (hb : Binds K fd ["numbers"] []) (g_gcd : mg "gcd" = some (.builtin "math.gcd")) (g_list : mg "list" = none) :
    Ok0 P w K mg base 1 "lowest" ["numbers"] fLowest :=
  ⟨f, fd, hm, F.kp, hb, fnS0 (mb := b_lowest) F sc_lowest (fun cdv A outer s H E hr => ⟨_, (pss_cons (ps_set (i := 1) sc_lowest.nd rfl (by first | exact Or.inl rfl | exact Or.inr rfl) pe_int)
      (pss_cons (ps_for PassesOwn.never rfl (pi_seq (pv 0)) (pg_name (i := 2) sc_lowest.nd rfl (by first | exact Or.inl rfl | exact Or.inr rfl)) (pss_one (ps_set (i := 1) sc_lowest.nd rfl (by first | exact Or.inl rfl | exact Or.inr rfl) (pe_callBfun cr_gcd (by rfl) g_gcd (pa_cons (pv 1) (pa_cons (pv 2) pa_nil))))))
      (pss_cons (ps_if (pt_cmpR (op_eqD hr.units) (pv 1) pe_int (nomark _)) (pss_one (ps_ret (pe_callTy call_list_of (by rfl) g_list (by decide +kernel) (pa_cons (pv 0) pa_nil)))) pss_nil)
      (pss_one (ps_ret (pe_lc (own := [("number", 2)]) rfl sc_lowest.nd (pi_seq (pv 0)) (blkOk_by (own := [("number", 2)]) (N := ["numbers", "divisor", "number"]) (sc := defScope s_lowest) (by decide +kernel)) (fun _ _ _ _ _ => (pg_name (i := 2) sc_lowest.nd rfl (by first | exact Or.inl rfl | exact Or.inr rfl))) (fun _ _ _ _ _ => pts_nil) (fun _ _ _ _ _ => (pe_op op_fdivG (pv 2) (pv 1))))))))),
    (sim_seq (sim_asg sim_int sim_gn)
      (sim_seq (sim_for (sim_itS sim_var) sim_gn (sim_asg (sim_cb srl_gcd (sim_cons sim_var (sim_cons sim_var sim_nil))) sim_gn))
      (sim_seq (sim_ifS (sim_test (sim_op sr_eq sim_var sim_int)) (sim_ret (sim_cb srl_list (sim_cons sim_var sim_nil))) sim_next)
      (sim_ret (sim_frz (sim_lc (sim_itS sim_var) (sim_gnw (i := 2) (vs := [2])) sim_yes (sim_op sr_I sim_var sim_var)))))))⟩) d_lowest⟩
theorem ok_check_unit {f : Addr} {fd : FuncData} (F : Fun K "check_unit" "check_unit" s_check_unit f fd) (hm : mg "check_unit" = some (.ref f)) (hb : Binds K fd ["unit"] []) (o_is_integer : Ok0 P w K mg base 1 "is_integer" ["value"] fIsInt) (e_BadUnit : OkErr P w K mg base "BadUnit" "unit") :
    OkX (spS ⟨K, mg, P, w⟩ fCheckUnit) P w K mg base 3 "check_unit" ["unit"] :=
  ⟨f, fd, hm, F.kp, hb, fnSX (mb := b_check_unit) F sc_check_unit (fun cdv A outer s H E hr => ⟨_, (pss_one (ps_if (PW.pt (pw_or (pt_not (pt_val (pe_callO o_is_integer hr (by decide) (pa_cons (pv 0) pa_nil)))) (pw_or1 (pt_cmpR op_lt (pv 0) pe_int (nomark _))))) (pss_one (ps_raise rfl (takes_of rfl rfl rfl rfl) (pmk_E e_BadUnit hr (by decide) (pv 0)))) pss_nil)),
    (sim_ifS (sim_or (sim_not (sim_testB (sim_call0 (sim_cons sim_var sim_nil)))) (sim_test (sim_op sr_B0 sim_var sim_int))) (sim_raise (sim_mkE sim_var)) sim_next)⟩) d_check_unit⟩
theorem ok_check_rows {f : Addr} {fd : FuncData} (F : Fun K "check_rows" "check_rows" s_check_rows f fd) (hm : mg "check_rows" = some (.ref f)) (hb : Binds K fd ["unit", "rows"] []) (g_enumerate : mg "enumerate" = none) (o_are_amounts : Ok0 P w K mg base 3 "are_amounts" ["values"] fAreAms) (g_len : mg "len" = none) (g_sum : mg "sum" = none) (e_BadRow : OkErr P w K mg base "BadRow" "index") :
    OkX (spS ⟨K, mg, P, w⟩ fCheckRows) P w K mg base 4 "check_rows" ["unit", "rows"] :=
  ⟨f, fd, hm, F.kp, hb, fnSX (mb := b_check_rows) F sc_check_rows (fun cdv A outer s H E hr => ⟨_, (pss_one (ps_for (passes_of rfl) rfl (pi_enumS (by rfl) g_enumerate (pa_cons (pv 1) pa_nil)) (pg_tup rfl (pgs_cons (pg_name (i := 2) sc_check_rows.nd rfl (by first | exact Or.inl rfl | exact Or.inr rfl)) (pgs_cons (pg_name (i := 3) sc_check_rows.nd rfl (by first | exact Or.inl rfl | exact Or.inr rfl)) pgs_nil))) (pss_one (ps_if (PW.pt (pw_or (pt_not (pt_val (pe_callO o_are_amounts hr (by decide) (pa_cons (pv 3) pa_nil)))) (pw_or (pt_cmpR (op_neD hr.units) (pe_callB call_len (by rfl) g_len PySem.boot_len (pa_cons (pv 3) pa_nil)) (pe_callB call_len (by rfl) g_len PySem.boot_len (pa_cons (pe_ix ix_seq (pv 1) pe_int (fun _ _ => rfl)) pa_nil)) (nomark _)) (pw_or1 (pt_cmpR (op_neD hr.units) (pe_callB (cr_sumS rfl) (by rfl) g_sum (by decide +kernel) (pa_cons (pv 3) pa_nil)) (pv 0) (nomark _)))))) (pss_one (ps_raise rfl (takes_of rfl rfl rfl rfl) (pmk_E e_BadRow hr (by decide) (pv 2)))) pss_nil)))),
    (sim_for (sim_enumS (sim_cons sim_var sim_nil)) (sim_gt (sim_gsc sim_gn (sim_gsc sim_gn sim_gsn))) (sim_ifS (sim_or (sim_not (sim_testB (sim_call0 (sim_cons sim_var sim_nil)))) (sim_or (sim_test (sim_op sr_ne (sim_cb srl_len (sim_cons sim_var sim_nil)) (sim_cb srl_len (sim_cons (sim_op sr_ix sim_var sim_int) sim_nil)))) (sim_test (sim_op sr_ne (sim_cb srl_sum (sim_cons sim_var sim_nil)) sim_var)))) (sim_raise (sim_mkE sim_var)) sim_next))⟩) d_check_rows⟩
theorem ok_lowest_rows {f : Addr} {fd : FuncData} (F : Fun K "lowest_rows" "lowest_rows" s_lowest_rows f fd) (hm : mg "lowest_rows" = some (.ref f)) (hb : Binds K fd ["unit", "rows"] []) (g_gcd : mg "gcd" = some (.builtin "math.gcd")) (g_tuple : mg "tuple" = none) :
    Ok0 P w K mg base 1 "lowest_rows" ["unit", "rows"] fLowestRows :=
  ⟨f, fd, hm, F.kp, hb, fnS0 (mb := b_lowest_rows) F sc_lowest_rows (fun cdv A outer s H E hr => ⟨_, (pss_cons (ps_set (i := 2) sc_lowest_rows.nd rfl (by first | exact Or.inl rfl | exact Or.inr rfl) (pv 0))
      (pss_cons (ps_for PassesOwn.never rfl (pi_seq (pv 1)) (pg_name (i := 3) sc_lowest_rows.nd rfl (by first | exact Or.inl rfl | exact Or.inr rfl)) (pss_one (ps_for PassesOwn.never rfl (pi_seq (pv 3)) (pg_name (i := 5) sc_lowest_rows.nd rfl (by first | exact Or.inl rfl | exact Or.inr rfl)) (pss_one (ps_set (i := 2) sc_lowest_rows.nd rfl (by first | exact Or.inl rfl | exact Or.inr rfl) (pe_callBfun cr_gcd (by rfl) g_gcd (pa_cons (pv 2) (pa_cons (pv 5) pa_nil))))))))
      (pss_cons (ps_setLc (i := 4) (own := [("row", 3)]) rfl sc_lowest_rows.nd rfl rfl (sw_true rfl rfl rfl (by decide +kernel)) (pi_seq (pv 1)) (blkOk_by (own := [("row", 3)]) (N := ["unit", "rows", "divisor", "row", "kept", "number"]) (sc := defScope s_lowest_rows) (by decide +kernel)) (fun _ _ _ _ _ => (pg_name (i := 3) sc_lowest_rows.nd rfl (by first | exact Or.inl rfl | exact Or.inr rfl))) (fun _ _ _ _ _ => pts_nil) (fun _ _ _ _ _ => (pe_callTy call_tuple_of (by rfl) g_tuple (by decide +kernel) (pa_cons (pe_lc (own := [("number", 5)]) rfl sc_lowest_rows.nd (pi_seq (pv 3)) (blkOk_by (own := [("number", 5)]) (N := ["unit", "rows", "divisor", "row", "kept", "number"]) (by rfl)) (fun _ _ _ _ _ => (pg_name (i := 5) sc_lowest_rows.nd rfl (by first | exact Or.inl rfl | exact Or.inr rfl))) (fun _ _ _ _ _ => pts_nil) (fun _ _ _ _ _ => (pe_op op_fdivG (pv 5) (pv 2)))) pa_nil))))
      (pss_one (ps_ret (pe_tup (pa_cons (pe_op op_fdivG (pv 0) (pv 2)) (pa_cons (pe_callTy call_tuple_of (by rfl) g_tuple (by decide +kernel) (pa_cons (pv 4) pa_nil)) pa_nil)))))))),
    (sim_seq (sim_asg sim_var sim_gn)
      (sim_seq (sim_for (sim_itS sim_var) sim_gn (sim_for (sim_itS sim_var) sim_gn (sim_asg (sim_cb srl_gcd (sim_cons sim_var (sim_cons sim_var sim_nil))) sim_gn)))
      (sim_seq (sim_asg (sim_frz (sim_lc (sim_itS sim_var) (sim_gnw (i := 3) (vs := [3])) sim_yes (sim_cb srl_tuple (sim_cons (sim_frz (sim_lc (sim_itS sim_var) (sim_gnw (i := 5) (vs := [5])) sim_yes (sim_op sr_I sim_var sim_var))) sim_nil)))) sim_gn)
      (sim_ret (sim_tup (sim_cons (sim_op sr_I sim_var sim_var) (sim_cons (sim_cb srl_tuple (sim_cons sim_var sim_nil)) sim_nil)))))))⟩) d_lowest_rows⟩
theorem ok_turned {f : Addr} {fd : FuncData} (F : Fun K "turned" "turned" s_turned f fd) (hm : mg "turned" = some (.ref f)) (hb : Binds K fd ["rows"] []) (g_zip : mg "zip" = none) (g_list : mg "list" = none) :
    Ok0 P w K mg base 1 "turned" ["rows"] fTurned :=
  ⟨f, fd, hm, F.kp, hb, fnS0 (mb := b_turned) F sc_turned (fun cdv A outer s H E hr => ⟨_, (pss_one (ps_ret (pe_lc (own := [("column", 1)]) rfl sc_turned.nd (pi_zipSt (by rfl) g_zip (pv 0)) (blkOk_by (own := [("column", 1)]) (N := ["rows", "column"]) (sc := defScope s_turned) (by decide +kernel)) (fun _ _ _ _ _ => (pg_name (i := 1) sc_turned.nd rfl (by first | exact Or.inl rfl | exact Or.inr rfl))) (fun _ _ _ _ _ => pts_nil) (fun _ _ _ _ _ => (pe_callTy call_list_of (by rfl) g_list (by decide +kernel) (pa_cons (pv 1) pa_nil)))))),
    (sim_ret (sim_frz (sim_lc (sim_zipSt sim_var) (sim_gnw (i := 1) (vs := [1])) sim_yes (sim_cb srl_list (sim_cons sim_var sim_nil)))))⟩) d_turned⟩
theorem ok_Experiment___init {f : Addr} {fd : FuncData} (F : Fun K "__init__" "Experiment.__init__" s_Experiment___init f fd) {C : Addr} (hm : mg "Experiment" = some (.ref C)) (hM : Mk K C f) (hb : Binds K fd ["self", "unit", "rows"] []) (o_check_unit : OkX (spS ⟨K, mg, P, w⟩ fCheckUnit) P w K mg base 3 "check_unit" ["unit"]) (g_len : mg "len" = none) (o_check_states : OkX (spS ⟨K, mg, P, w⟩ fCheckStates) P w K mg base 3 "check_states" ["states"]) (o_check_rows : OkX (spS ⟨K, mg, P, w⟩ fCheckRows) P w K mg base 4 "check_rows" ["unit", "rows"]) (o_lowest_rows : Ok0 P w K mg base 1 "lowest_rows" ["unit", "rows"] fLowestRows) (cok : CTab.Ok ⟨K, mg, P, w⟩ ctab) {A_Experiment : Addr} (c_Experiment : ClsAt ⟨K, mg, P, w⟩ "Experiment" A_Experiment) (n_Experiment_states : NoAttr K A_Experiment "states") (n_Experiment_signals : NoAttr K A_Experiment "signals") (n_Experiment_unit : NoAttr K A_Experiment "unit") (n_Experiment_rows : NoAttr K A_Experiment "_rows") :
    OkM P w K mg base 5 "Experiment" ["self", "unit", "rows"] fExpInit :=
  ⟨C, f, fd, hm, hM, hb, fnIX (nm := "Experiment") (mb := b_Experiment___init) F sc_Experiment___init (by decide) (fun cdv A outer s H E hr => ⟨_, (pss_cons (ps_expr (pe_callX o_check_unit hr (by decide) (takes_of rfl rfl rfl rfl) (pa_cons (pv 1) pa_nil)))
      (pss_cons (ps_expr (pe_callX o_check_states hr (by decide) (takes_of rfl rfl rfl rfl) (pa_cons (pe_callB call_len (by rfl) g_len PySem.boot_len (pa_cons (pv 2) pa_nil)) pa_nil)))
      (pss_cons (ps_expr (pe_callX o_check_rows hr (by decide) (takes_of rfl rfl rfl rfl) (pa_cons (pv 1) (pa_cons (pv 2) pa_nil))))
      (pss_cons (ps_asg (pe_callO o_lowest_rows hr (by decide) (pa_cons (pv 1) (pa_cons (pv 2) pa_nil))) (pg_tup rfl (pgs_cons (pg_fld (pv 0)) (pgs_cons (pg_fld (pv 0)) pgs_nil))))
      (pss_cons (ps_fld (pv 0) (pe_callB call_len (by rfl) g_len PySem.boot_len (pa_cons (pv 2) pa_nil)) (by rfl))
      (pss_one (ps_fld (pv 0) (pe_callB call_len (by rfl) g_len PySem.boot_len (pa_cons (pe_ix ix_seq (pv 2) pe_int (fun _ _ => rfl)) pa_nil)) (by rfl)))))))),
    (sim_seq (sim_drop (sim_callX (sim_cons sim_var sim_nil)))
      (sim_seq (sim_drop (sim_callX (sim_cons (sim_cb srl_len (sim_cons sim_var sim_nil)) sim_nil)))
      (sim_seq (sim_drop (sim_callX (sim_cons sim_var (sim_cons sim_var sim_nil))))
      (sim_seq (sim_asgH (sim_call0 (sim_cons sim_var (sim_cons sim_var sim_nil))) (sim_gth (sim_gsch (sim_gf c_Experiment n_Experiment_unit) (sim_gsch (sim_gf c_Experiment n_Experiment_rows) sim_gsnh))))
      (sim_seq (sim_setF c_Experiment n_Experiment_states (sim_cb srl_len (sim_cons sim_var sim_nil)))
      (sim_setF c_Experiment n_Experiment_signals (sim_cb srl_len (sim_cons (sim_op sr_ix sim_var sim_int) sim_nil))))))))⟩) d_Experiment___init⟩
theorem ok_Experiment_rows {f : Addr} {fd : FuncData} (F : Fun K "rows" "Experiment.rows" s_Experiment_rows f fd) {C : Addr} (hm : mg "Experiment" = some (.ref C)) (hc : Cls K C) (hM : Meth K C "rows" f) (hF : PySem.W.fnIn K f = true) (hb : Binds K fd ["self"] []) (cok : CTab.Ok ⟨K, mg, P, w⟩ ctab) (g_list : mg "list" = none) :
    OkMX (spS ⟨K, mg, P, w⟩ fExpRows) P w K mg base 1 "Experiment" "rows" ["self"] :=
  ⟨C, f, fd, hm, hc, hM, hF, hb, fnSX (mb := b_Experiment_rows) F sc_Experiment_rows (fun cdv A outer s H E hr => ⟨_, (pss_one (ps_ret (pe_lc (own := [("row", 1)]) rfl sc_Experiment_rows.nd (pi_seq (pe_fld (pv 0) (by rfl))) (blkOk_by (own := [("row", 1)]) (N := ["self", "row"]) (sc := defScope s_Experiment_rows) (by decide +kernel)) (fun _ _ _ _ _ => (pg_name (i := 1) sc_Experiment_rows.nd rfl (by first | exact Or.inl rfl | exact Or.inr rfl))) (fun _ _ _ _ _ => pts_nil) (fun _ _ _ _ _ => (pe_callTy call_list_of (by rfl) g_list (by decide +kernel) (pa_cons (pv 1) pa_nil)))))),
    (sim_ret (sim_frz (sim_lc (sim_itS (sim_fldT cok sim_var)) (sim_gnw (i := 1) (vs := [1])) sim_yes (sim_cb srl_list (sim_cons sim_var sim_nil)))))⟩) d_Experiment_rows⟩
theorem ok_Experiment___eq {f : Addr} {fd : FuncData} (F : Fun K "__eq__" "Experiment.__eq__" s_Experiment___eq f fd) {C : Addr} (hm : mg "Experiment" = some (.ref C)) (hc : Cls K C) (hM : Meth K C "__eq__" f) (hF : PySem.W.fnIn K f = true) (hb : Binds K fd ["self", "other"] []) (g_isinstance : mg "isinstance" = none) (cok : CTab.Ok ⟨K, mg, P, w⟩ ctab) {C_Experiment : Addr} (m_Experiment : mg "Experiment" = some (.ref C_Experiment)) :
    OkMX (spS ⟨K, mg, P, w⟩ fExpEqX) P w K mg base 1 "Experiment" "__eq__" ["self", "other"] :=
  ⟨C, f, fd, hm, hc, hM, hF, hb, fnSX (mb := b_Experiment___eq) F sc_Experiment___eq (fun cdv A outer s H E hr => ⟨_, (pss_one (ps_ret (pe_and (pe_callB call_isi (by rfl) g_isinstance (by decide +kernel) (pa_cons (pv 1) (pa_cons (pe_glob (v := .ref C_Experiment) (by rfl) m_Experiment rfl) pa_nil))) (pe_and (pe_cmpR (op_eqD hr.units) (pe_fld (pv 0) (by rfl)) (pe_fld (pv 1) (by rfl)) (nomark _)) (pe_one (pe_cmpR (op_eqD hr.units) (pe_fld (pv 0) (by rfl)) (pe_fld (pv 1) (by rfl)) (nomark _))))))),
    (sim_ret (sim_andV (sim_isiC cok m_Experiment (by decide) sim_var) (sim_andV (sim_op sr_eq (sim_fldT cok sim_var) (sim_fldT cok sim_var)) (sim_op sr_eq (sim_fldT cok sim_var) (sim_fldT cok sim_var)))))⟩) d_Experiment___eq⟩
theorem ok_split {f : Addr} {fd : FuncData} (F : Fun K "split" "split" s_split f fd) (hm : mg "split" = some (.ref f)) (hb : Binds K fd ["e", "signal", "weights"] []) (o_is_number_below : Ok0 P w K mg base 2 "is_number_below" ["value", "count"] fBelow) (cok : CTab.Ok ⟨K, mg, P, w⟩ ctab) (e_NoSignal : OkErr P w K mg base "NoSignal" "signal") (o_are_weights : Ok0 P w K mg base 4 "are_weights" ["values"] fAreWts) (e_BadWeights : OkErr0 P w K mg base "BadWeights") (g_sum : mg "sum" = none) (g_enumerate : mg "enumerate" = none) (o_turned : Ok0 P w K mg base 1 "turned" ["rows"] fTurned) (o_Experiment_rows : OkMX (spS ⟨K, mg, P, w⟩ fExpRows) P w K mg base 1 "Experiment" "rows" ["self"]) (o_Experiment : OkM P w K mg base 5 "Experiment" ["self", "unit", "rows"] fExpInit) :
    OkX (spS ⟨K, mg, P, w⟩ fSplitE) P w K mg base 7 "split" ["e", "signal", "weights"] :=
  ⟨f, fd, hm, F.kp, hb, fnSX (mb := b_split) F sc_split (fun cdv A outer s H E hr => ⟨_, (pss_cons (ps_if (pt_not (pt_val (pe_callO o_is_number_below hr (by decide) (pa_cons (pv 1) (pa_cons (pe_fld (pv 0) (by rfl)) pa_nil))))) (pss_one (ps_raise rfl (takes_of rfl rfl rfl rfl) (pmk_E e_NoSignal hr (by decide) (pv 1)))) pss_nil)
      (pss_cons (ps_if (pt_not (pt_val (pe_callO o_are_weights hr (by decide) (pa_cons (pv 2) pa_nil)))) (pss_one (ps_raise rfl (takes_of rfl rfl rfl rfl) (pmk_0 e_BadWeights))) pss_nil)
      (pss_cons (ps_set (i := 3) sc_split.nd rfl (by first | exact Or.inl rfl | exact Or.inr rfl) (pe_callB (cr_sumS rfl) (by rfl) g_sum (by decide +kernel) (pa_cons (pv 2) pa_nil)))
      (pss_cons (ps_set (i := 4) sc_split.nd rfl (by first | exact Or.inl rfl | exact Or.inr rfl) (pe_lst pa_nil))
      (pss_cons (ps_for (passes_of rfl) rfl (pi_enumS (by rfl) g_enumerate (pa_cons (pe_callO o_turned hr (by decide) (pa_cons (pe_methX0 o_Experiment_rows hr (by decide) (takes_of rfl rfl rfl rfl) (pv 0)) pa_nil)) pa_nil)) (pg_tup rfl (pgs_cons (pg_name (i := 5) sc_split.nd rfl (by first | exact Or.inl rfl | exact Or.inr rfl)) (pgs_cons (pg_name (i := 6) sc_split.nd rfl (by first | exact Or.inl rfl | exact Or.inr rfl)) pgs_nil))) (pss_cons (ps_set (i := 7) sc_split.nd rfl (by first | exact Or.inl rfl | exact Or.inr rfl) (pe_ifExp (pt_cmpR (op_eqD hr.units) (pv 5) (pv 1) (nomark _)) (pv 2) (pe_lst (pa_cons (pv 3) pa_nil))))
      (pss_one (ps_expr (pe_bm PySem.F.plainAttrs_list PySem.F.slot_list_extend PySem.F.type_list_extend mt_extend (pv 4) (pa_cons (pe_lc (own := [("factor", 8)]) rfl sc_split.nd (pi_seq (pv 7)) (blkOk_by (own := [("factor", 8)]) (N := ["e", "signal", "weights", "whole", "columns", "at", "column", "factors", "factor", "number"]) (sc := defScope s_split) (by decide +kernel)) (fun _ _ _ _ _ => (pg_name (i := 8) sc_split.nd rfl (by first | exact Or.inl rfl | exact Or.inr rfl))) (fun _ _ _ _ _ => pts_nil) (fun _ _ _ _ _ => (pe_lc (own := [("number", 9)]) rfl sc_split.nd (pi_seq (pv 6)) (blkOk_by (own := [("number", 9)]) (N := ["e", "signal", "weights", "whole", "columns", "at", "column", "factors", "factor", "number"]) (by rfl)) (fun _ _ _ _ _ => (pg_name (i := 9) sc_split.nd rfl (by first | exact Or.inl rfl | exact Or.inr rfl))) (fun _ _ _ _ _ => pts_nil) (fun _ _ _ _ _ => (pe_op op_mulW (pv 9) (pv 8)))))) pa_nil))))))
      (pss_one (ps_ret (pe_makeX o_Experiment hr (by decide) (takes_of rfl rfl rfl rfl) (pa_cons (pe_op op_mulW (pe_fld (pv 0) (by rfl)) (pv 3)) (pa_cons (pe_callO o_turned hr (by decide) (pa_cons (pv 4) pa_nil)) pa_nil)))))))))),
    (sim_seq (sim_ifS (sim_not (sim_testB (sim_call0 (sim_cons sim_var (sim_cons (sim_fldT cok sim_var) sim_nil))))) (sim_raise (sim_mkE sim_var)) sim_next)
      (sim_seq (sim_ifS (sim_not (sim_testB (sim_call0 (sim_cons sim_var sim_nil)))) (sim_raise sim_mk0) sim_next)
      (sim_seq (sim_asg (sim_cb srl_sum (sim_cons sim_var sim_nil)) sim_gn)
      (sim_seq (sim_asgO (sim_lstO sim_nil))
      (sim_seq (sim_for (sim_enumS (sim_cons (sim_call0 (sim_cons (sim_methX sim_var sim_nil) sim_nil)) sim_nil)) (sim_gt (sim_gsc sim_gn (sim_gsc sim_gn sim_gsn))) (sim_seq (sim_asg (sim_if (sim_test (sim_op sr_eq sim_var sim_var)) sim_var (sim_frz (sim_lstO (sim_cons sim_var sim_nil)))) sim_gn)
      (sim_ext (sim_frz (sim_lc (sim_itS sim_var) (sim_gnw (i := 8) (vs := [8])) sim_yes (sim_frz (sim_lc (sim_itS sim_var) (sim_gnw (i := 9) (vs := [9])) sim_yes (sim_op sr_I sim_var sim_var))))))))
      (sim_freeze (i := 4) (sim_ret (sim_makeX (sim_cons (sim_op sr_I (sim_fldT cok sim_var) sim_var) (sim_cons (sim_call0 (sim_cons sim_var sim_nil)) sim_nil))))))))))⟩) d_split⟩
theorem ok_without_empty {f : Addr} {fd : FuncData} (F : Fun K "without_empty" "without_empty" s_without_empty f fd) (hm : mg "without_empty" = some (.ref f)) (hb : Binds K fd ["e"] []) (o_Experiment : OkM P w K mg base 5 "Experiment" ["self", "unit", "rows"] fExpInit) (o_turned : Ok0 P w K mg base 1 "turned" ["rows"] fTurned) (o_Experiment_rows : OkMX (spS ⟨K, mg, P, w⟩ fExpRows) P w K mg base 1 "Experiment" "rows" ["self"]) (g_sum : mg "sum" = none) (cok : CTab.Ok ⟨K, mg, P, w⟩ ctab) :
    Ok0 P w K mg base 7 "without_empty" ["e"] fWithout :=
  ⟨f, fd, hm, F.kp, hb, fnS0 (mb := b_without_empty) F sc_without_empty (fun cdv A outer s H E hr => ⟨_, (pss_one (ps_ret (pe_makeX o_Experiment hr (by decide) takes0 (pa_cons (pe_fld (pv 0) (by rfl)) (pa_cons (pe_callO o_turned hr (by decide) (pa_cons (pe_lc (own := [("column", 1)]) rfl sc_without_empty.nd (pi_seq (pe_callO o_turned hr (by decide) (pa_cons (pe_methX0 o_Experiment_rows hr (by decide) takes0 (pv 0)) pa_nil))) (blkOk_by (own := [("column", 1)]) (N := ["e", "column"]) (sc := defScope s_without_empty) (by decide +kernel)) (fun _ _ _ _ _ => (pg_name (i := 1) sc_without_empty.nd rfl (by first | exact Or.inl rfl | exact Or.inr rfl))) (fun _ _ _ _ _ => pts_one (pt_cmpR op_gt (pe_callB (cr_sumS rfl) (by rfl) g_sum (by decide +kernel) (pa_cons (pv 1) pa_nil)) pe_int (nomark _))) (fun _ _ _ _ _ => (pv 1))) pa_nil)) pa_nil))))),
    (sim_ret (sim_makeX (sim_cons (sim_fldT cok sim_var) (sim_cons (sim_call0 (sim_cons (sim_frz (sim_lc (sim_itS (sim_call0 (sim_cons (sim_methX sim_var sim_nil) sim_nil))) (sim_gnw (i := 1) (vs := [1])) (sim_test (sim_op sr_B0 (sim_cb srl_sum (sim_cons sim_var sim_nil)) sim_int)) sim_var)) sim_nil)) sim_nil))))⟩) d_without_empty⟩
theorem ok_groups {f : Addr} {fd : FuncData} (F : Fun K "_groups" "_groups" s_groups f fd) (hm : mg "_groups" = some (.ref f)) (hb : Binds K fd ["columns"] []) (g_enumerate : mg "enumerate" = none) (g_sum : mg "sum" = none) (g_tuple : mg "tuple" = none) (o_lowest : Ok0 P w K mg base 1 "lowest" ["numbers"] fLowest) (o_common : Ok0 P w K mg base 1 "common" ["ratios"] fCommon) (g_zip : mg "zip" = none) (g_sorted : mg "sorted" = none) (g_list : mg "list" = none) :
    Ok0 P w K mg base 2 "_groups" ["columns"] fGroups :=
  ⟨f, fd, hm, F.kp, hb, fnS0 (mb := b_groups) F sc_groups (fun cdv A outer s H E hr => ⟨_, (pss_cons (ps_set (i := 1) sc_groups.nd rfl (by first | exact Or.inl rfl | exact Or.inr rfl) (pe_dnewE (K := ⟨K, mg, P, w⟩)))
      (pss_cons (ps_for PassesOwn.never rfl (pi_enumS (by rfl) g_enumerate (pa_cons (pv 0) pa_nil)) (pg_tup rfl (pgs_cons (pg_name (i := 4) sc_groups.nd rfl (by first | exact Or.inl rfl | exact Or.inr rfl)) (pgs_cons (pg_name (i := 5) sc_groups.nd rfl (by first | exact Or.inl rfl | exact Or.inr rfl)) pgs_nil))) (pss_one (ps_if (pt_cmpR op_gt (pe_callB (cr_sumS rfl) (by rfl) g_sum (by decide +kernel) (pa_cons (pv 5) pa_nil)) pe_int (nomark _)) (pss_one (ps_expr (pe_bm PySem.F.plainAttrs_list PySem.F.slot_list_append PySem.F.type_list_append mt_append (pe_dsetE (Kz := ⟨K, mg, P, w⟩) rfl rfl (units1 hr) (pv 1) (pe_callTy call_tuple_of (by rfl) g_tuple (by decide +kernel) (pa_cons (pe_callO o_lowest hr (by decide) (pa_cons (pv 5) pa_nil)) pa_nil)) (pe_lst pa_nil) ⟨by rfl, by rfl, by rfl, by rfl⟩) (pa_cons (pv 4) pa_nil)))) pss_nil)))
      (pss_cons (ps_asg (pe_callO o_common hr (by decide) (pa_cons (pe_lc (own := [("column", 5)]) rfl sc_groups.nd (pi_keysQ (pv 1)) (blkOk_by (own := [("column", 5)]) (N := ["columns", "groups", "posteriors", "pairs", "signal", "column", "_", "factors", "number", "factor", "group"]) (sc := defScope s_groups) (by decide +kernel)) (fun _ _ _ _ _ => (pg_name (i := 5) sc_groups.nd rfl (by first | exact Or.inl rfl | exact Or.inr rfl))) (fun _ _ _ _ _ => pts_nil) (fun _ _ _ _ _ => (pe_tup (pa_cons pe_int (pa_cons (pe_callB (cr_sumS rfl) (by rfl) g_sum (by decide +kernel) (pa_cons (pv 5) pa_nil)) pa_nil))))) pa_nil)) (pg_ei (pg_tup rfl (pgs_cons (pg_name (i := 6) sc_groups.nd rfl (by first | exact Or.inl rfl | exact Or.inr rfl)) (pgs_cons (pg_name (i := 7) sc_groups.nd rfl (by first | exact Or.inl rfl | exact Or.inr rfl)) pgs_nil))) (pg_lst rfl (pgs_cons (pg_name (i := 6) sc_groups.nd rfl (by first | exact Or.inl rfl | exact Or.inr rfl)) (pgs_cons (pg_name (i := 7) sc_groups.nd rfl (by first | exact Or.inl rfl | exact Or.inr rfl)) pgs_nil)))))
      (pss_cons (ps_setLc (i := 2) (own := [("column", 5), ("factor", 9)]) rfl sc_groups.nd rfl rfl (sw_true rfl rfl rfl (by decide +kernel)) (pi_zipZ (by rfl) g_zip (pa_cons (pv 1) (pa_cons (pv 7) pa_nil))) (blkOk_by (own := [("column", 5), ("factor", 9)]) (N := ["columns", "groups", "posteriors", "pairs", "signal", "column", "_", "factors", "number", "factor", "group"]) (sc := defScope s_groups) (by decide +kernel)) (fun _ _ _ _ _ => (pg_tup rfl (pgs_cons (pg_name (i := 5) sc_groups.nd rfl (by first | exact Or.inl rfl | exact Or.inr rfl)) (pgs_cons (pg_name (i := 9) sc_groups.nd rfl (by first | exact Or.inl rfl | exact Or.inr rfl)) pgs_nil)))) (fun _ _ _ _ _ => pts_nil) (fun _ _ _ _ _ => (pe_lc (own := [("number", 8)]) rfl sc_groups.nd (pi_seq (pv 5)) (blkOk_by (own := [("number", 8)]) (N := ["columns", "groups", "posteriors", "pairs", "signal", "column", "_", "factors", "number", "factor", "group"]) (by rfl)) (fun _ _ _ _ _ => (pg_name (i := 8) sc_groups.nd rfl (by first | exact Or.inl rfl | exact Or.inr rfl))) (fun _ _ _ _ _ => pts_nil) (fun _ _ _ _ _ => (pe_op op_mulW (pv 8) (pv 9))))))
      (pss_cons (ps_set (i := 3) sc_groups.nd rfl (by first | exact Or.inl rfl | exact Or.inr rfl) (pe_callB (cr_sortD hr.units) (by rfl) g_sorted (by decide +kernel) (pa_cons (pe_listZip rfl (by rfl) g_list (by rfl) g_zip (pa_cons (pv 2) (pa_cons (pe_callTy (call_list_valsR rfl) (by rfl) g_list (by decide +kernel) (pa_cons (pe_valsQ (pv 1)) pa_nil)) pa_nil))) pa_nil)))
      (pss_one (ps_ret (pe_lc (own := [("_", 6), ("group", 10)]) rfl sc_groups.nd (pi_seq (pv 3)) (blkOk_by (own := [("_", 6), ("group", 10)]) (N := ["columns", "groups", "posteriors", "pairs", "signal", "column", "_", "factors", "number", "factor", "group"]) (sc := defScope s_groups) (by decide +kernel)) (fun _ _ _ _ _ => (pg_tup rfl (pgs_cons (pg_name (i := 6) sc_groups.nd rfl (by first | exact Or.inl rfl | exact Or.inr rfl)) (pgs_cons (pg_name (i := 10) sc_groups.nd rfl (by first | exact Or.inl rfl | exact Or.inr rfl)) pgs_nil)))) (fun _ _ _ _ _ => pts_nil) (fun _ _ _ _ _ => (pv 10)))))))))),
    (sim_seq (sim_dcNew (i := 1))
      (sim_seq (sim_for (sim_enumS (sim_cons sim_var sim_nil)) (sim_gt (sim_gsc sim_gn (sim_gsc sim_gn sim_gsn))) (sim_ifS (sim_test (sim_op sr_B0 (sim_cb srl_sum (sim_cons sim_var sim_nil)) sim_int)) (sim_dcApp (i := 1) (sim_cb srl_tuple (sim_cons (sim_call0 (sim_cons sim_var sim_nil)) sim_nil)) sim_var) sim_next))
      (sim_seq (sim_freezeDc (i := 1) (sim_asg (sim_call0 (sim_cons (sim_frz (sim_lc (sim_itDz (i := 1)) (sim_gnw (i := 5) (vs := [5])) sim_yes (sim_tup (sim_cons sim_int (sim_cons (sim_cb srl_sum (sim_cons sim_var sim_nil)) sim_nil))))) sim_nil)) (sim_gt2 (sim_gsc sim_gn (sim_gsc sim_gn sim_gsn)))))
      (sim_seq (sim_asg (sim_frz (sim_lc (sim_zipDz (i := 1) sim_var) (sim_gtw (sim_gscw (sim_gnw (i := 5) (vs := [5, 9])) (sim_gscw (sim_gnw (i := 9) (vs := [5, 9])) sim_gsnw))) sim_yes (sim_frz (sim_lc (sim_itS sim_var) (sim_gnw (i := 8) (vs := [8])) sim_yes (sim_op sr_I sim_var sim_var))))) sim_gn)
      (sim_seq (sim_asg (sim_cb srl_sortD (sim_cons (sim_frz (sim_listZip (sim_cons sim_var (sim_cons (sim_frz (sim_valsDz (i := 1))) sim_nil)))) sim_nil)) sim_gn)
      (sim_ret (sim_frz (sim_lc (sim_itS sim_var) (sim_gtw (sim_gscw (sim_gnw (i := 6) (vs := [6, 10])) (sim_gscw (sim_gnw (i := 10) (vs := [6, 10])) sim_gsnw))) sim_yes sim_var))))))))⟩) d_groups⟩
theorem ok_standard {f : Addr} {fd : FuncData} (F : Fun K "standard" "standard" s_standard f fd) (hm : mg "standard" = some (.ref f)) (hb : Binds K fd ["e"] []) (o_turned : Ok0 P w K mg base 1 "turned" ["rows"] fTurned) (o_Experiment_rows : OkMX (spS ⟨K, mg, P, w⟩ fExpRows) P w K mg base 1 "Experiment" "rows" ["self"]) (o_groups : Ok0 P w K mg base 2 "_groups" ["columns"] fGroups) (g_sum : mg "sum" = none) (o_Experiment : OkM P w K mg base 5 "Experiment" ["self", "unit", "rows"] fExpInit) (cok : CTab.Ok ⟨K, mg, P, w⟩ ctab) :
    Ok0 P w K mg base 7 "standard" ["e"] fStandard :=
  ⟨f, fd, hm, F.kp, hb, fnS0 (mb := b_standard) F sc_standard (fun cdv A outer s H E hr => ⟨_, (pss_cons (ps_set (i := 1) sc_standard.nd rfl (by first | exact Or.inl rfl | exact Or.inr rfl) (pe_callO o_turned hr (by decide) (pa_cons (pe_methX0 o_Experiment_rows hr (by decide) takes0 (pv 0)) pa_nil)))
      (pss_cons (ps_set (i := 2) sc_standard.nd rfl (by first | exact Or.inl rfl | exact Or.inr rfl) (pe_lst pa_nil))
      (pss_cons (ps_for PassesOwn.never rfl (pi_seq (pe_callO o_groups hr (by decide) (pa_cons (pv 1) pa_nil))) (pg_name (i := 3) sc_standard.nd rfl (by first | exact Or.inl rfl | exact Or.inr rfl)) (pss_cons (ps_set (i := 4) sc_standard.nd rfl (by first | exact Or.inl rfl | exact Or.inr rfl) (pe_callO o_turned hr (by decide) (pa_cons (pe_lc (own := [("signal", 5)]) rfl sc_standard.nd (pi_seq (pv 3)) (blkOk_by (own := [("signal", 5)]) (N := ["e", "columns", "sums", "group", "rows", "signal", "row"]) (sc := defScope s_standard) (by decide +kernel)) (fun _ _ _ _ _ => (pg_name (i := 5) sc_standard.nd rfl (by first | exact Or.inl rfl | exact Or.inr rfl))) (fun _ _ _ _ _ => pts_nil) (fun _ _ _ _ _ => (pe_ix ix_seq (pv 1) (pv 5) (fun _ _ => rfl)))) pa_nil)))
      (pss_one (ps_expr (pe_bm PySem.F.plainAttrs_list PySem.F.slot_list_append PySem.F.type_list_append mt_append (pv 2) (pa_cons (pe_lc (own := [("row", 6)]) rfl sc_standard.nd (pi_seq (pv 4)) (blkOk_by (own := [("row", 6)]) (N := ["e", "columns", "sums", "group", "rows", "signal", "row"]) (sc := defScope s_standard) (by decide +kernel)) (fun _ _ _ _ _ => (pg_name (i := 6) sc_standard.nd rfl (by first | exact Or.inl rfl | exact Or.inr rfl))) (fun _ _ _ _ _ => pts_nil) (fun _ _ _ _ _ => (pe_callB (cr_sumS rfl) (by rfl) g_sum (by decide +kernel) (pa_cons (pv 6) pa_nil)))) pa_nil))))))
      (pss_one (ps_ret (pe_makeX o_Experiment hr (by decide) takes0 (pa_cons (pe_fld (pv 0) (by rfl)) (pa_cons (pe_callO o_turned hr (by decide) (pa_cons (pv 2) pa_nil)) pa_nil)))))))),
    (sim_seq (sim_asg (sim_call0 (sim_cons (sim_methX sim_var sim_nil) sim_nil)) sim_gn)
      (sim_seq (sim_asgO (sim_lstO sim_nil))
      (sim_seq (sim_for (sim_itS (sim_call0 (sim_cons sim_var sim_nil))) sim_gn (sim_seq (sim_asg (sim_call0 (sim_cons (sim_frz (sim_lc (sim_itS sim_var) (sim_gnw (i := 5) (vs := [5])) sim_yes (sim_op sr_ix sim_var sim_var))) sim_nil)) sim_gn)
      (sim_app (sim_frz (sim_lc (sim_itS sim_var) (sim_gnw (i := 6) (vs := [6])) sim_yes (sim_cb srl_sum (sim_cons sim_var sim_nil)))))))
      (sim_freeze (i := 2) (sim_ret (sim_makeX (sim_cons (sim_fldT cok sim_var) (sim_cons (sim_call0 (sim_cons sim_var sim_nil)) sim_nil))))))))⟩) d_standard⟩
theorem ok_alike {f : Addr} {fd : FuncData} (F : Fun K "alike" "alike" s_alike f fd) (hm : mg "alike" = some (.ref f)) (hb : Binds K fd ["one", "other"] []) (o_check_same_states : OkX (spS ⟨K, mg, P, w⟩ fSame) P w K mg base 1 "check_same_states" ["one", "other"]) (o_standard : Ok0 P w K mg base 7 "standard" ["e"] fStandard) (o_Experiment___eq : OkMX (spS ⟨K, mg, P, w⟩ fExpEqX) P w K mg base 1 "Experiment" "__eq__" ["self", "other"]) (cok : CTab.Ok ⟨K, mg, P, w⟩ ctab) :
    OkX (spS ⟨K, mg, P, w⟩ fAlike) P w K mg base 8 "alike" ["one", "other"] :=
  ⟨f, fd, hm, F.kp, hb, fnSX (mb := b_alike) F sc_alike (fun cdv A outer s H E hr => ⟨_, (pss_cons (ps_expr (pe_callX o_check_same_states hr (by decide) (takes_of rfl rfl rfl rfl) (pa_cons (pv 0) (pa_cons (pv 1) pa_nil))))
      (pss_one (ps_ret (pe_cmpR (op_eqX o_Experiment___eq hr (by decide)) (pe_callO o_standard hr (by decide) (pa_cons (pv 0) pa_nil)) (pe_callO o_standard hr (by decide) (pa_cons (pv 1) pa_nil)) (nomark _))))),
    (sim_seq (sim_drop (sim_callX (sim_cons sim_var (sim_cons sim_var sim_nil))))
      (sim_ret (sim_op (sr_eqX cok) (sim_call0 (sim_cons sim_var sim_nil)) (sim_call0 (sim_cons sim_var sim_nil)))))⟩) d_alike⟩
theorem ok_law_is {f : Addr} {fd : FuncData} (F : Fun K "_law_is" "_law_is" s_law_is f fd) (hm : mg "_law_is" = some (.ref f)) (hb : Binds K fd ["_law_told_here", "_law_due_here"] []) (g_isinstance : mg "isinstance" = none) (g_bool : mg "bool" = none) :
    Ok0 P w K mg base 1 "_law_is" ["_law_told_here", "_law_due_here"] fIsB :=
  ⟨f, fd, hm, F.kp, hb, fnS0 (mb := b_law_is) F sc_law_is (fun cdv A outer s H E hr => ⟨_, (pss_one (ps_ret (pe_and (pe_callB call_isi (by rfl) g_isinstance (by decide +kernel) (pa_cons (pv 0) (pa_cons (pe_bltn (v := .ty "bool") (by rfl) g_bool (by decide +kernel) rfl) pa_nil))) (pe_one (pe_cmpR (op_eqD hr.units) (pv 0) (pv 1) (nomark _)))))),
    (sim_ret (sim_andV (sim_isi (T := "bool") (by decide +kernel) sim_var) (sim_op sr_eq sim_var sim_var)))⟩) d_law_is⟩
theorem ok_law_is_number {f : Addr} {fd : FuncData} (F : Fun K "_law_is_number" "_law_is_number" s_law_is_number f fd) (hm : mg "_law_is_number" = some (.ref f)) (hb : Binds K fd ["_law_thing"] []) (g_isinstance : mg "isinstance" = none) (g_int : mg "int" = none) (g_bool : mg "bool" = none) :
    Ok0 P w K mg base 1 "_law_is_number" ["_law_thing"] fIsInt :=
  ⟨f, fd, hm, F.kp, hb, fnS0 (mb := b_law_is_number) F sc_law_is_number (fun cdv A outer s H E hr => ⟨_, (pss_one (ps_ret (pe_and (pe_callB call_isi (by rfl) g_isinstance (by decide +kernel) (pa_cons (pv 0) (pa_cons (pe_bltn (v := .ty "int") (by rfl) g_int (by decide +kernel) rfl) pa_nil))) (pe_one (pe_not (pe_callB call_isi (by rfl) g_isinstance (by decide +kernel) (pa_cons (pv 0) (pa_cons (pe_bltn (v := .ty "bool") (by rfl) g_bool (by decide +kernel) rfl) pa_nil)))))))),
    (sim_ret (sim_andV (sim_isi (T := "int") (by decide +kernel) sim_var) (sim_notV (sim_isi (T := "bool") (by decide +kernel) sim_var))))⟩) d_law_is_number⟩
theorem ok_law_divisor {f : Addr} {fd : FuncData} (F : Fun K "_law_divisor" "_law_divisor" s_law_divisor f fd) (hm : mg "_law_divisor" = some (.ref f)) (hb : Binds K fd ["_law_numbers"] []) (g_abs : mg "abs" = none) (g_int : mg "int" = none) :
    Ok0 P w K mg base 1 "_law_divisor" ["_law_numbers"] fGcd :=
  ⟨f, fd, hm, F.kp, hb, fnS0 (mb := b_law_divisor) F sc_law_divisor (fun cdv A outer s H E hr => ⟨_, (pss_cons (ps_set (i := 1) sc_law_divisor.nd rfl (by first | exact Or.inl rfl | exact Or.inr rfl) pe_int)
      (pss_cons (ps_for PassesOwn.never rfl (pi_seq (pv 0)) (pg_name (i := 2) sc_law_divisor.nd rfl (by first | exact Or.inl rfl | exact Or.inr rfl)) (pss_cons (ps_set (i := 3) sc_law_divisor.nd rfl (by first | exact Or.inl rfl | exact Or.inr rfl) (pe_callB call_abs (by rfl) g_abs (by decide +kernel) (pa_cons (pv 2) pa_nil)))
      (pss_cons (ps_set (i := 4) sc_law_divisor.nd rfl (by first | exact Or.inl rfl | exact Or.inr rfl) (pv 1))
      (pss_cons (ps_while PassesOwn.never (pt_cmpR (op_neD hr.units) (pv 4) pe_int (nomark _)) (pss_one (ps_par (i := 3) (j := 4) (by rfl) sc_law_divisor.nd rfl rfl (by decide) rfl rfl (pa_cons (pv 4) (pa_cons (pe_op op_modN (pe_callTy call_int1 (by rfl) g_int (by decide +kernel) (pa_cons (pv 3) pa_nil)) (pv 4)) pa_nil)) (by rfl))))
      (pss_one (ps_set (i := 1) sc_law_divisor.nd rfl (by first | exact Or.inl rfl | exact Or.inr rfl) (pv 3)))))))
      (pss_one (ps_ret (pv 1))))),
    (sim_seq (sim_asg sim_int sim_gn)
      (sim_seq (sim_for (sim_itS sim_var) sim_gn (sim_seq (sim_asg (sim_cb srl_abs (sim_cons sim_var sim_nil)) sim_gn)
      (sim_seq (sim_asg sim_var sim_gn)
      (sim_seq (sim_while (sim_test (sim_op sr_ne sim_var sim_int)) (sim_par (sim_cons sim_var (sim_cons (sim_op sr_I (sim_cb srl_int1 (sim_cons sim_var sim_nil)) sim_var) sim_nil))))
      (sim_asg sim_var sim_gn)))))
      (sim_ret sim_var)))⟩) d_law_divisor⟩
theorem ok_law_lowest {f : Addr} {fd : FuncData} (F : Fun K "_law_lowest" "_law_lowest" s_law_lowest f fd) (hm : mg "_law_lowest" = some (.ref f)) (hb : Binds K fd ["_law_unit", "_law_rows_here"] []) (o_law_divisor : Ok0 P w K mg base 1 "_law_divisor" ["_law_numbers"] fGcd) :
    Ok0 P w K mg base 2 "_law_lowest" ["_law_unit", "_law_rows_here"] fLLow :=
  ⟨f, fd, hm, F.kp, hb, fnS0 (mb := b_law_lowest) F sc_law_lowest (fun cdv A outer s H E hr => ⟨_, (pss_cons (ps_set (i := 2) sc_law_lowest.nd rfl (by first | exact Or.inl rfl | exact Or.inr rfl) (pe_lst (pa_cons (pv 0) pa_nil)))
      (pss_cons (ps_for PassesOwn.never rfl (pi_seq (pv 1)) (pg_name (i := 3) sc_law_lowest.nd rfl (by first | exact Or.inl rfl | exact Or.inr rfl)) (pss_one (ps_set (i := 2) sc_law_lowest.nd rfl (by first | exact Or.inl rfl | exact Or.inr rfl) (pe_op op_addG (pv 2) (pv 3)))))
      (pss_cons (ps_set (i := 4) sc_law_lowest.nd rfl (by first | exact Or.inl rfl | exact Or.inr rfl) (pe_callO o_law_divisor hr (by decide) (pa_cons (pv 2) pa_nil)))
      (pss_one (ps_ret (pe_lst (pa_cons (pe_op op_fdivG (pv 0) (pv 4)) (pa_cons (pe_lc (own := [("_law_row_here", 3)]) rfl sc_law_lowest.nd (pi_seq (pv 1)) (blkOk_by (own := [("_law_row_here", 3)]) (N := ["_law_unit", "_law_rows_here", "_law_numbers", "_law_row_here", "_law_part", "_law_item"]) (sc := defScope s_law_lowest) (by decide +kernel)) (fun _ _ _ _ _ => (pg_name (i := 3) sc_law_lowest.nd rfl (by first | exact Or.inl rfl | exact Or.inr rfl))) (fun _ _ _ _ _ => pts_nil) (fun _ _ _ _ _ => (pe_lc (own := [("_law_item", 5)]) rfl sc_law_lowest.nd (pi_seq (pv 3)) (blkOk_by (own := [("_law_item", 5)]) (N := ["_law_unit", "_law_rows_here", "_law_numbers", "_law_row_here", "_law_part", "_law_item"]) (by rfl)) (fun _ _ _ _ _ => (pg_name (i := 5) sc_law_lowest.nd rfl (by first | exact Or.inl rfl | exact Or.inr rfl))) (fun _ _ _ _ _ => pts_nil) (fun _ _ _ _ _ => (pe_op op_fdivG (pv 5) (pv 4)))))) pa_nil)))))))),
    (sim_seq (sim_asg (sim_frz (sim_lstO (sim_cons sim_var sim_nil))) sim_gn)
      (sim_seq (sim_for (sim_itS sim_var) sim_gn (sim_asg (sim_op sr_add sim_var sim_var) sim_gn))
      (sim_seq (sim_asg (sim_call0 (sim_cons sim_var sim_nil)) sim_gn)
      (sim_ret (sim_frz (sim_lstO (sim_cons (sim_op sr_I sim_var sim_var) (sim_cons (sim_frz (sim_lc (sim_itS sim_var) (sim_gnw (i := 3) (vs := [3])) sim_yes (sim_frz (sim_lc (sim_itS sim_var) (sim_gnw (i := 5) (vs := [5])) sim_yes (sim_op sr_I sim_var sim_var))))) sim_nil))))))))⟩) d_law_lowest⟩
theorem ok_law_row {f : Addr} {fd : FuncData} (F : Fun K "_law_row" "_law_row" s_law_row f fd) (hm : mg "_law_row" = some (.ref f)) (hb : Binds K fd ["_law_pool_here", "_law_unit", "_law_many"] []) (g_range : mg "range" = none) (o_law_take : Ok0 P w K mg base 1 "_law_take" ["_law_pool_here", "_law_many"] fTake) :
    Ok0 P w K mg base 2 "_law_row" ["_law_pool_here", "_law_unit", "_law_many"] fLRow :=
  ⟨f, fd, hm, F.kp, hb, fnS0 (mb := b_law_row) F sc_law_row (fun cdv A outer s H E hr => ⟨_, (pss_cons (ps_set (i := 3) sc_law_row.nd rfl (by first | exact Or.inl rfl | exact Or.inr rfl) (pe_lst pa_nil))
      (pss_cons (ps_set (i := 4) sc_law_row.nd rfl (by first | exact Or.inl rfl | exact Or.inr rfl) (pv 1))
      (pss_cons (ps_for PassesOwn.never rfl (pi_range1 (by rfl) g_range (pa_cons (pe_op op_sub (pv 2) pe_int) pa_nil)) (pg_name (i := 5) sc_law_row.nd rfl (by first | exact Or.inl rfl | exact Or.inr rfl)) (pss_cons (ps_set (i := 7) sc_law_row.nd rfl (by first | exact Or.inl rfl | exact Or.inr rfl) (pe_callO o_law_take hr (by decide) (pa_cons (pv 0) (pa_cons (pe_op op_addG (pv 4) pe_int) pa_nil))))
      (pss_cons (ps_expr (pe_bm PySem.F.plainAttrs_list PySem.F.slot_list_append PySem.F.type_list_append mt_append (pv 3) (pa_cons (pv 7) pa_nil)))
      (pss_one (ps_set (i := 4) sc_law_row.nd rfl (by first | exact Or.inl rfl | exact Or.inr rfl) (pe_op op_sub (pv 4) (pv 7)))))))
      (pss_cons (ps_expr (pe_bm PySem.F.plainAttrs_list PySem.F.slot_list_append PySem.F.type_list_append mt_append (pv 3) (pa_cons (pv 4) pa_nil)))
      (pss_cons (ps_set (i := 6) sc_law_row.nd rfl (by first | exact Or.inl rfl | exact Or.inr rfl) (pe_callO o_law_take hr (by decide) (pa_cons (pv 0) (pa_cons (pv 2) pa_nil))))
      (pss_one (ps_ret (pe_op op_addG (pe_slice sl_list (pv 3) (po_some (pv 6)) po_none) (pe_slice sl_list (pv 3) po_none (po_some (pv 6))))))))))),
    (sim_seq (sim_asgO (sim_lstO sim_nil))
      (sim_seq (sim_asg sim_var sim_gn)
      (sim_seq (sim_for (sim_rng1 (sim_cons (sim_op sr_I0 sim_var sim_int) sim_nil)) sim_gn (sim_seq (sim_asg (sim_call0 (sim_cons sim_var (sim_cons (sim_op sr_add sim_var sim_int) sim_nil))) sim_gn)
      (sim_seq (sim_app sim_var)
      (sim_asg (sim_op sr_I0 sim_var sim_var) sim_gn))))
      (sim_seq (sim_app sim_var)
      (sim_seq (sim_asg (sim_call0 (sim_cons sim_var (sim_cons sim_var sim_nil))) sim_gn)
      (sim_freeze (i := 3) (sim_ret (sim_op sr_add (sim_sl sim_var (sim_P sim_var) sim_noP) (sim_sl sim_var sim_noP (sim_P sim_var))))))))))⟩) d_law_row⟩
theorem ok_law_rows {f : Addr} {fd : FuncData} (F : Fun K "_law_rows" "_law_rows" s_law_rows f fd) (hm : mg "_law_rows" = some (.ref f)) (hb : Binds K fd ["_law_pool_here", "_law_lines", "_law_many", "_law_unit"] []) (g_range : mg "range" = none) (o_law_row : Ok0 P w K mg base 2 "_law_row" ["_law_pool_here", "_law_unit", "_law_many"] fLRow) :
    Ok0 P w K mg base 3 "_law_rows" ["_law_pool_here", "_law_lines", "_law_many", "_law_unit"] fLRows :=
  ⟨f, fd, hm, F.kp, hb, fnS0 (mb := b_law_rows) F sc_law_rows (fun cdv A outer s H E hr => ⟨_, (pss_one (ps_ret (pe_lc (own := [("_law_k", 4)]) rfl sc_law_rows.nd (pi_range1 (by rfl) g_range (pa_cons (pv 1) pa_nil)) (blkOk_by (own := [("_law_k", 4)]) (N := ["_law_pool_here", "_law_lines", "_law_many", "_law_unit", "_law_k"]) (sc := defScope s_law_rows) (by decide +kernel)) (fun _ _ _ _ _ => (pg_name (i := 4) sc_law_rows.nd rfl (by first | exact Or.inl rfl | exact Or.inr rfl))) (fun _ _ _ _ _ => pts_nil) (fun _ _ _ _ _ => (pe_callO o_law_row hr (by decide) (pa_cons (pv 0) (pa_cons (pv 3) (pa_cons (pv 2) pa_nil)))))))),
    (sim_ret (sim_frz (sim_lc (sim_rng1 (sim_cons sim_var sim_nil)) (sim_gnw (i := 4) (vs := [4])) sim_yes (sim_call0 (sim_cons sim_var (sim_cons sim_var (sim_cons sim_var sim_nil)))))))⟩) d_law_rows⟩
theorem ok_law_table {f : Addr} {fd : FuncData} (F : Fun K "_law_table" "_law_table" s_law_table f fd) (hm : mg "_law_table" = some (.ref f)) (hb : Binds K fd ["_law_pool_here", "_law_lines", "_law_most", "_law_unit_most"] []) (o_law_take : Ok0 P w K mg base 1 "_law_take" ["_law_pool_here", "_law_many"] fTake) (o_law_rows : Ok0 P w K mg base 3 "_law_rows" ["_law_pool_here", "_law_lines", "_law_many", "_law_unit"] fLRows) :
    Ok0 P w K mg base 4 "_law_table" ["_law_pool_here", "_law_lines", "_law_most", "_law_unit_most"] fLTable :=
  ⟨f, fd, hm, F.kp, hb, fnS0 (mb := b_law_table) F sc_law_table (fun cdv A outer s H E hr => ⟨_, (pss_cons (ps_set (i := 4) sc_law_table.nd rfl (by first | exact Or.inl rfl | exact Or.inr rfl) (pe_op op_addG pe_int (pe_callO o_law_take hr (by decide) (pa_cons (pv 0) (pa_cons (pv 3) pa_nil)))))
      (pss_one (ps_ret (pe_lst (pa_cons (pv 4) (pa_cons (pe_callO o_law_rows hr (by decide) (pa_cons (pv 0) (pa_cons (pv 1) (pa_cons (pe_op op_addG pe_int (pe_callO o_law_take hr (by decide) (pa_cons (pv 0) (pa_cons (pv 2) pa_nil)))) (pa_cons (pv 4) pa_nil))))) pa_nil)))))),
    (sim_seq (sim_asg (sim_op sr_add sim_int (sim_call0 (sim_cons sim_var (sim_cons sim_var sim_nil)))) sim_gn)
      (sim_ret (sim_frz (sim_lstO (sim_cons sim_var (sim_cons (sim_call0 (sim_cons sim_var (sim_cons sim_var (sim_cons (sim_op sr_add sim_int (sim_call0 (sim_cons sim_var (sim_cons sim_var sim_nil)))) (sim_cons sim_var sim_nil))))) sim_nil))))))⟩) d_law_table⟩
theorem ok_law_prior {f : Addr} {fd : FuncData} (F : Fun K "_law_prior" "_law_prior" s_law_prior f fd) (hm : mg "_law_prior" = some (.ref f)) (hb : Binds K fd ["_law_pool_here", "_law_states", "_law_most"] []) (g_range : mg "range" = none) (o_law_take : Ok0 P w K mg base 1 "_law_take" ["_law_pool_here", "_law_many"] fTake) (g_sum : mg "sum" = none) :
    OkF P w K mg base 2 "_law_prior" ["_law_pool_here", "_law_states", "_law_most"] fLPrior :=
  ⟨f, fd, hm, F.kp, hb, fnF0 (mb := b_law_prior) F sc_law_prior (fun cdv A outer s H E hr => ⟨_, (pss_cons (ps_setLc (i := 3) (own := [("_law_state", 4)]) rfl sc_law_prior.nd rfl rfl (sw_true rfl rfl rfl (by decide +kernel)) (pi_range1 (by rfl) g_range (pa_cons (pv 1) pa_nil)) (blkOk_by (own := [("_law_state", 4)]) (N := ["_law_pool_here", "_law_states", "_law_most", "_law_prior_here", "_law_state"]) (sc := defScope s_law_prior) (by decide +kernel)) (fun _ _ _ _ _ => (pg_name (i := 4) sc_law_prior.nd rfl (by first | exact Or.inl rfl | exact Or.inr rfl))) (fun _ _ _ _ _ => pts_nil) (fun _ _ _ _ _ => (pe_callO o_law_take hr (by decide) (pa_cons (pv 0) (pa_cons (pe_op op_addG (pv 2) pe_int) pa_nil)))))
      (pss_cons (ps_if (pt_cmpR (op_eqD hr.units) (pe_callB (cr_sumS rfl) (by rfl) g_sum (by decide +kernel) (pa_cons (pv 3) pa_nil)) pe_int (nomark _)) (pss_one (ps_asg pe_int (pg_sub (pv 3) (pe_callO o_law_take hr (by decide) (pa_cons (pv 0) (pa_cons (pv 1) pa_nil))) set_list))) pss_nil)
      (pss_one (ps_ret (pv 3))))),
    (sim_seq (sim_asgO (sim_lc (sim_rng1 (sim_cons sim_var sim_nil)) (sim_gnw (i := 4) (vs := [4])) sim_yes (sim_call0 (sim_cons sim_var (sim_cons (sim_op sr_add sim_var sim_int) sim_nil)))))
      (sim_seq (sim_ifS (sim_tmpT (i := 3) (sim_test (sim_op sr_eq (sim_cb srl_sum (sim_cons sim_var sim_nil)) sim_int))) (sim_setI (sim_call0 (sim_cons sim_var (sim_cons sim_var sim_nil))) sim_int) sim_next)
      (sim_retF sim_varO)))⟩) d_law_prior⟩
theorem ok_law_shows {f : Addr} {fd : FuncData} (F : Fun K "_law_shows" "_law_shows" s_law_shows f fd) (hm : mg "_law_shows" = some (.ref f)) (hb : Binds K fd ["_law_thing", "_law_table_here"] []) (o_law_lowest : Ok0 P w K mg base 2 "_law_lowest" ["_law_unit", "_law_rows_here"] fLLow) (cok : CTab.Ok ⟨K, mg, P, w⟩ ctab) (o_Experiment_rows : OkMX (spS ⟨K, mg, P, w⟩ fExpRows) P w K mg base 1 "Experiment" "rows" ["self"]) :
    Ok0 P w K mg base 3 "_law_shows" ["_law_thing", "_law_table_here"] fShows :=
  ⟨f, fd, hm, F.kp, hb, fnS0 (mb := b_law_shows) F sc_law_shows (fun cdv A outer s H E hr => ⟨_, (pss_cons (ps_asg (pe_callO o_law_lowest hr (by decide) (pa_cons (pe_ix ix_seq (pv 1) pe_int (fun _ _ => rfl)) (pa_cons (pe_ix ix_seq (pv 1) pe_int (fun _ _ => rfl)) pa_nil))) (pg_ei (pg_tup rfl (pgs_cons (pg_name (i := 2) sc_law_shows.nd rfl (by first | exact Or.inl rfl | exact Or.inr rfl)) (pgs_cons (pg_name (i := 3) sc_law_shows.nd rfl (by first | exact Or.inl rfl | exact Or.inr rfl)) pgs_nil))) (pg_lst rfl (pgs_cons (pg_name (i := 2) sc_law_shows.nd rfl (by first | exact Or.inl rfl | exact Or.inr rfl)) (pgs_cons (pg_name (i := 3) sc_law_shows.nd rfl (by first | exact Or.inl rfl | exact Or.inr rfl)) pgs_nil)))))
      (pss_one (ps_ret (pe_and (pe_cmpR (op_eqD hr.units) (pe_fld (pv 0) (by rfl)) (pv 2) (nomark _)) (pe_one (pe_cmpR (op_eqD hr.units) (pe_methX0 o_Experiment_rows hr (by decide) takes0 (pv 0)) (pv 3) (nomark _))))))),
    (sim_seq (sim_asg (sim_call0 (sim_cons (sim_op sr_ix sim_var sim_int) (sim_cons (sim_op sr_ix sim_var sim_int) sim_nil))) (sim_gt2 (sim_gsc sim_gn (sim_gsc sim_gn sim_gsn))))
      (sim_ret (sim_andV (sim_op sr_eq (sim_fldT cok sim_var) sim_var) (sim_op sr_eq (sim_methX sim_var sim_nil) sim_var))))⟩) d_law_shows⟩
theorem ok_law_told {f : Addr} {fd : FuncData} (F : Fun K "_law_told" "_law_told" s_law_told f fd) (hm : mg "_law_told" = some (.ref f)) (hb : Binds K fd ["_law_e", "_law_signal", "_law_weights"] []) (o_split : OkX (spS ⟨K, mg, P, w⟩ fSplitE) P w K mg base 7 "split" ["e", "signal", "weights"]) {C_NoSignal : Addr} (m_NoSignal : mg "NoSignal" = some (.ref C_NoSignal)) (t_NoSignal : XfC K C_NoSignal) (n_NoSignal : PySem.W.findIn K (.ref C_NoSignal) "signal" = some none) (tabOk : Tab.Ok ⟨K, mg, P, w⟩ tab) {C_BadWeights : Addr} (m_BadWeights : mg "BadWeights" = some (.ref C_BadWeights)) (tabOk : Tab.Ok ⟨K, mg, P, w⟩ tab) :
    Ok0 P w K mg base 8 "_law_told" ["_law_e", "_law_signal", "_law_weights"] fTold74 :=
  ⟨f, fd, hm, F.kp, hb, fnS0 (mb := b_law_told) F sc_law_told (fun cdv A outer s H E hr => ⟨_, (pss_one (ps_tryH rfl rfl takes0 (fun W pn xe tk po => (pss_one (ps_ret (pe_callX o_split hr (by decide) tk (pa_cons (pv 0) (pa_cons (pv 1) (pa_cons (pv 2) pa_nil))))))) (HdsR.named (i := 3) ⟨by rfl, by decide, .inl m_NoSignal⟩ sc_law_told.nd rfl rfl (fun a o cls d pn hz hf => (pss_one (ps_ret (pe_lst (pa_cons pe_str (pa_cons (pe_xf t_NoSignal n_NoSignal hz hf (pv 3)) pa_nil)))))) (HdsR.plain ⟨by rfl, by decide, .inl m_BadWeights⟩ (fun a o cls d pn hz hf => (pss_one (ps_ret (pe_lst (pa_cons pe_str (pa_cons pe_int pa_nil)))))) HdsR.nil)))),
    (sim_try tabOk (fun W => (sim_ret (sim_callX (sim_cons sim_var (sim_cons sim_var (sim_cons sim_var sim_nil)))))) (HR.named m_NoSignal (fun a cls d => (sim_ret (sim_frz (sim_lstO (sim_cons sim_str (sim_cons (sim_xf m_NoSignal) sim_nil)))))) (HR.plain m_BadWeights (fun a cls d => (sim_ret (sim_frz (sim_lstO (sim_cons sim_str (sim_cons sim_int sim_nil)))))) HR.nil)))⟩) d_law_told⟩
theorem ok_law_due {f : Addr} {fd : FuncData} (F : Fun K "_law_due" "_law_due" s_law_due f fd) (hm : mg "_law_due" = some (.ref f)) (hb : Binds K fd ["_law_table_here", "_law_signal", "_law_weights"] []) (o_law_is_number : Ok0 P w K mg base 1 "_law_is_number" ["_law_thing"] fIsInt) (g_len : mg "len" = none) (g_sum : mg "sum" = none) (g_range : mg "range" = none) (g_int : mg "int" = none) :
    Ok0 P w K mg base 2 "_law_due" ["_law_table_here", "_law_signal", "_law_weights"] fDue74 :=
  ⟨f, fd, hm, F.kp, hb, fnS0 (mb := b_law_due) F sc_law_due (fun cdv A outer s H E hr => ⟨_, (pss_cons (ps_if (PW.pt (pw_or (pt_not (pt_val (pe_callO o_law_is_number hr (by decide) (pa_cons (pv 1) pa_nil)))) (pw_or (pt_cmpR op_lt (pv 1) pe_int (nomark _)) (pw_or1 (pt_cmpR op_ge (pv 1) (pe_callB call_len (by rfl) g_len PySem.boot_len (pa_cons (pe_ix ix_seq (pe_ix ix_seq (pv 0) pe_int (fun _ _ => rfl)) pe_int (fun _ _ => rfl)) pa_nil)) (nomark _)))))) (pss_one (ps_ret (pe_lst (pa_cons pe_str (pa_cons (pv 1) pa_nil))))) pss_nil)
      (pss_cons (ps_for PassesOwn.never rfl (pi_seq (pv 2)) (pg_name (i := 3) sc_law_due.nd rfl (by first | exact Or.inl rfl | exact Or.inr rfl)) (pss_one (ps_if (PW.pt (pw_or (pt_not (pt_val (pe_callO o_law_is_number hr (by decide) (pa_cons (pv 3) pa_nil)))) (pw_or1 (pt_cmpR op_lt (pv 3) pe_int (nomark _))))) (pss_one (ps_ret (pe_lst (pa_cons pe_str (pa_cons pe_int pa_nil))))) pss_nil)))
      (pss_cons (ps_set (i := 4) sc_law_due.nd rfl (by first | exact Or.inl rfl | exact Or.inr rfl) (pe_callB (cr_sumS rfl) (by rfl) g_sum (by decide +kernel) (pa_cons (pv 2) pa_nil)))
      (pss_cons (ps_if (pt_cmpR (op_eqD hr.units) (pv 4) pe_int (nomark _)) (pss_one (ps_ret (pe_lst (pa_cons pe_str (pa_cons pe_int pa_nil))))) pss_nil)
      (pss_cons (ps_set (i := 5) sc_law_due.nd rfl (by first | exact Or.inl rfl | exact Or.inr rfl) (pe_lst pa_nil))
      (pss_cons (ps_for PassesOwn.never rfl (pi_seq (pe_ix ix_seq (pv 0) pe_int (fun _ _ => rfl))) (pg_name (i := 6) sc_law_due.nd rfl (by first | exact Or.inl rfl | exact Or.inr rfl)) (pss_cons (ps_set (i := 7) sc_law_due.nd rfl (by first | exact Or.inl rfl | exact Or.inr rfl) (pe_lst pa_nil))
      (pss_cons (ps_for PassesOwn.never rfl (pi_range1 (by rfl) g_range (pa_cons (pe_callB call_len (by rfl) g_len PySem.boot_len (pa_cons (pv 6) pa_nil)) pa_nil)) (pg_name (i := 8) sc_law_due.nd rfl (by first | exact Or.inl rfl | exact Or.inr rfl)) (pss_one (ps_set (i := 7) sc_law_due.nd rfl (by first | exact Or.inl rfl | exact Or.inr rfl) (pe_op op_addG (pv 7) (pe_lc (own := [("_law_weight", 3)]) rfl sc_law_due.nd (pi_seq (pe_ix ix_seq (pe_lst (pa_cons (pe_lst (pa_cons (pv 4) pa_nil)) (pa_cons (pv 2) pa_nil))) (pe_callTy call_int1 (by rfl) g_int (by decide +kernel) (pa_cons (pe_cmpR (op_eqD hr.units) (pv 8) (pv 1) (nomark _)) pa_nil)) (fun _ _ => rfl))) (blkOk_by (own := [("_law_weight", 3)]) (N := ["_law_table_here", "_law_signal", "_law_weights", "_law_weight", "_law_whole", "_law_rows_here", "_law_row_here", "_law_made", "_law_at"]) (sc := defScope s_law_due) (by decide +kernel)) (fun _ _ _ _ _ => (pg_name (i := 3) sc_law_due.nd rfl (by first | exact Or.inl rfl | exact Or.inr rfl))) (fun _ _ _ _ _ => pts_nil) (fun _ _ _ _ _ => (pe_op op_mulW (pe_ix ix_seq (pv 6) (pv 8) (fun _ _ => rfl)) (pv 3))))))))
      (pss_one (ps_expr (pe_bm PySem.F.plainAttrs_list PySem.F.slot_list_append PySem.F.type_list_append mt_append (pv 5) (pa_cons (pv 7) pa_nil)))))))
      (pss_one (ps_ret (pe_lst (pa_cons (pe_op op_mulW (pe_ix ix_seq (pv 0) pe_int (fun _ _ => rfl)) (pv 4)) (pa_cons (pv 5) pa_nil))))))))))),
    (sim_seq (sim_ifS (sim_or (sim_not (sim_testB (sim_call0 (sim_cons sim_var sim_nil)))) (sim_or (sim_test (sim_op sr_B0 sim_var sim_int)) (sim_test (sim_op sr_B0 sim_var (sim_cb srl_len (sim_cons (sim_op sr_ix (sim_op sr_ix sim_var sim_int) sim_int) sim_nil)))))) (sim_ret (sim_frz (sim_lstO (sim_cons sim_str (sim_cons sim_var sim_nil))))) sim_next)
      (sim_seq (sim_for (sim_itS sim_var) sim_gn (sim_ifS (sim_or (sim_not (sim_testB (sim_call0 (sim_cons sim_var sim_nil)))) (sim_test (sim_op sr_B0 sim_var sim_int))) (sim_ret (sim_frz (sim_lstO (sim_cons sim_str (sim_cons sim_int sim_nil))))) sim_next))
      (sim_seq (sim_asg (sim_cb srl_sum (sim_cons sim_var sim_nil)) sim_gn)
      (sim_seq (sim_ifS (sim_test (sim_op sr_eq sim_var sim_int)) (sim_ret (sim_frz (sim_lstO (sim_cons sim_str (sim_cons sim_int sim_nil))))) sim_next)
      (sim_seq (sim_asgO (sim_lstO sim_nil))
      (sim_seq (sim_for (sim_itS (sim_op sr_ix sim_var sim_int)) sim_gn (sim_seq (sim_asg (sim_frz (sim_lstO sim_nil)) sim_gn)
      (sim_seq (sim_for (sim_rng1 (sim_cons (sim_cb srl_len (sim_cons sim_var sim_nil)) sim_nil)) sim_gn (sim_asg (sim_op sr_add sim_var (sim_frz (sim_lc (sim_itS (sim_op sr_ix (sim_frz (sim_lstO (sim_cons (sim_frz (sim_lstO (sim_cons sim_var sim_nil))) (sim_cons sim_var sim_nil)))) (sim_cb srl_int1 (sim_cons (sim_op sr_eq sim_var sim_var) sim_nil)))) (sim_gnw (i := 3) (vs := [3])) sim_yes (sim_op sr_I (sim_op sr_ix sim_var sim_var) sim_var)))) sim_gn))
      (sim_app sim_var))))
      (sim_freeze (i := 5) (sim_ret (sim_frz (sim_lstO (sim_cons (sim_op sr_I (sim_op sr_ix sim_var sim_int) sim_var) (sim_cons sim_var sim_nil))))))))))))⟩) d_law_due⟩
theorem ok_law_with_empty {f : Addr} {fd : FuncData} (F : Fun K "_law_with_empty" "_law_with_empty" s_law_with_empty f fd) (hm : mg "_law_with_empty" = some (.ref f)) (hb : Binds K fd ["_law_pool_here", "_law_table_here"] []) (o_law_take : Ok0 P w K mg base 1 "_law_take" ["_law_pool_here", "_law_many"] fTake) (g_len : mg "len" = none) :
    Ok0 P w K mg base 2 "_law_with_empty" ["_law_pool_here", "_law_table_here"] fWithE :=
  ⟨f, fd, hm, F.kp, hb, fnS0 (mb := b_law_with_empty) F sc_law_with_empty (fun cdv A outer s H E hr => ⟨_, (pss_cons (ps_set (i := 2) sc_law_with_empty.nd rfl (by first | exact Or.inl rfl | exact Or.inr rfl) (pe_callO o_law_take hr (by decide) (pa_cons (pv 0) (pa_cons (pe_op op_addG (pe_callB call_len (by rfl) g_len PySem.boot_len (pa_cons (pe_ix ix_seq (pe_ix ix_seq (pv 1) pe_int (fun _ _ => rfl)) pe_int (fun _ _ => rfl)) pa_nil)) pe_int) pa_nil))))
      (pss_one (ps_ret (pe_lst (pa_cons (pe_ix ix_seq (pv 1) pe_int (fun _ _ => rfl)) (pa_cons (pe_lc (own := [("_law_row_here", 3)]) rfl sc_law_with_empty.nd (pi_seq (pe_ix ix_seq (pv 1) pe_int (fun _ _ => rfl))) (blkOk_by (own := [("_law_row_here", 3)]) (N := ["_law_pool_here", "_law_table_here", "_law_at", "_law_row_here"]) (sc := defScope s_law_with_empty) (by decide +kernel)) (fun _ _ _ _ _ => (pg_name (i := 3) sc_law_with_empty.nd rfl (by first | exact Or.inl rfl | exact Or.inr rfl))) (fun _ _ _ _ _ => pts_nil) (fun _ _ _ _ _ => (pe_op op_addG (pe_op op_addG (pe_slice sl_list (pv 3) po_none (po_some (pv 2))) (pe_lst (pa_cons pe_int pa_nil))) (pe_slice sl_list (pv 3) (po_some (pv 2)) po_none)))) pa_nil)))))),
    (sim_seq (sim_asg (sim_call0 (sim_cons sim_var (sim_cons (sim_op sr_add (sim_cb srl_len (sim_cons (sim_op sr_ix (sim_op sr_ix sim_var sim_int) sim_int) sim_nil)) sim_int) sim_nil))) sim_gn)
      (sim_ret (sim_frz (sim_lstO (sim_cons (sim_op sr_ix sim_var sim_int) (sim_cons (sim_frz (sim_lc (sim_itS (sim_op sr_ix sim_var sim_int)) (sim_gnw (i := 3) (vs := [3])) sim_yes (sim_op sr_add (sim_op sr_add (sim_sl sim_var sim_noP (sim_P sim_var)) (sim_frz (sim_lstO (sim_cons sim_int sim_nil)))) (sim_sl sim_var (sim_P sim_var) sim_noP)))) sim_nil))))))⟩) d_law_with_empty⟩
theorem ok_law_splits_again {f : Addr} {fd : FuncData} (F : Fun K "_law_splits_again" "_law_splits_again" s_law_splits_again f fd) (hm : mg "_law_splits_again" = some (.ref f)) (hb : Binds K fd ["_law_e", "_law_table_here"] []) (g_len : mg "len" = none) (o_law_shows : Ok0 P w K mg base 3 "_law_shows" ["_law_thing", "_law_table_here"] fShows) (o_law_due : Ok0 P w K mg base 2 "_law_due" ["_law_table_here", "_law_signal", "_law_weights"] fDue74) (o_split : OkX (spS ⟨K, mg, P, w⟩ fSplitE) P w K mg base 7 "split" ["e", "signal", "weights"]) :
    Ok0 P w K mg base 8 "_law_splits_again" ["_law_e", "_law_table_here"] fAgain74 :=
  ⟨f, fd, hm, F.kp, hb, fnS0 (mb := b_law_splits_again) F sc_law_splits_again (fun cdv A outer s H E hr => ⟨_, (pss_cons (ps_for PassesOwn.never rfl (pi_seq (pe_lst (pa_cons (pe_tup (pa_cons pe_int (pa_cons (pe_lst (pa_cons pe_int (pa_cons pe_int pa_nil))) pa_nil))) (pa_cons (pe_tup (pa_cons (pe_op op_sub (pe_callB call_len (by rfl) g_len PySem.boot_len (pa_cons (pe_ix ix_seq (pe_ix ix_seq (pv 1) pe_int (fun _ _ => rfl)) pe_int (fun _ _ => rfl)) pa_nil)) pe_int) (pa_cons (pe_lst (pa_cons pe_int (pa_cons pe_int (pa_cons pe_int pa_nil)))) pa_nil))) (pa_cons (pe_tup (pa_cons pe_int (pa_cons (pe_lst (pa_cons pe_int (pa_cons pe_int pa_nil))) pa_nil))) pa_nil))))) (pg_tup rfl (pgs_cons (pg_name (i := 2) sc_law_splits_again.nd rfl (by first | exact Or.inl rfl | exact Or.inr rfl)) (pgs_cons (pg_name (i := 3) sc_law_splits_again.nd rfl (by first | exact Or.inl rfl | exact Or.inr rfl)) pgs_nil))) (pss_one (ps_if (pt_not (pt_val (pe_callO o_law_shows hr (by decide) (pa_cons (pe_callX o_split hr (by decide) takes0 (pa_cons (pv 0) (pa_cons (pv 2) (pa_cons (pv 3) pa_nil)))) (pa_cons (pe_callO o_law_due hr (by decide) (pa_cons (pv 1) (pa_cons (pv 2) (pa_cons (pv 3) pa_nil)))) pa_nil))))) (pss_one (ps_ret pe_bl)) pss_nil)))
      (pss_one (ps_ret pe_bl))),
    (sim_seq (sim_for (sim_itS (sim_frz (sim_lstO (sim_cons (sim_tup (sim_cons sim_int (sim_cons (sim_frz (sim_lstO (sim_cons sim_int (sim_cons sim_int sim_nil)))) sim_nil))) (sim_cons (sim_tup (sim_cons (sim_op sr_I0 (sim_cb srl_len (sim_cons (sim_op sr_ix (sim_op sr_ix sim_var sim_int) sim_int) sim_nil)) sim_int) (sim_cons (sim_frz (sim_lstO (sim_cons sim_int (sim_cons sim_int (sim_cons sim_int sim_nil))))) sim_nil))) (sim_cons (sim_tup (sim_cons sim_int (sim_cons (sim_frz (sim_lstO (sim_cons sim_int (sim_cons sim_int sim_nil)))) sim_nil))) sim_nil)))))) (sim_gt (sim_gsc sim_gn (sim_gsc sim_gn sim_gsn))) (sim_ifS (sim_not (sim_testB (sim_call0 (sim_cons (sim_callX (sim_cons sim_var (sim_cons sim_var (sim_cons sim_var sim_nil)))) (sim_cons (sim_call0 (sim_cons sim_var (sim_cons sim_var (sim_cons sim_var sim_nil)))) sim_nil))))) (sim_ret sim_bl) sim_next))
      (sim_ret sim_bl))⟩) d_law_splits_again⟩
theorem ok_law {f : Addr} {fd : FuncData} (F : Fun K "law" "law" s_law f fd) (o_law_pool : OkS (spPool K) P w K mg base 1 "_law_pool" ["_law_script"]) (o_law_take : Ok0 P w K mg base 1 "_law_take" ["_law_pool_here", "_law_many"] fTake) (o_law_table : Ok0 P w K mg base 4 "_law_table" ["_law_pool_here", "_law_lines", "_law_most", "_law_unit_most"] fLTable) (o_law_with_empty : Ok0 P w K mg base 2 "_law_with_empty" ["_law_pool_here", "_law_table_here"] fWithE) (g_len : mg "len" = none) (o_law_prior : OkF P w K mg base 2 "_law_prior" ["_law_pool_here", "_law_states", "_law_most"] fLPrior) (g_list : mg "list" = none) (o_Experiment : OkM P w K mg base 5 "Experiment" ["self", "unit", "rows"] fExpInit) (o_law_due : Ok0 P w K mg base 2 "_law_due" ["_law_table_here", "_law_signal", "_law_weights"] fDue74) (o_law_told : Ok0 P w K mg base 8 "_law_told" ["_law_e", "_law_signal", "_law_weights"] fTold74) (g_tuple : mg "tuple" = none) (o_law_shows : Ok0 P w K mg base 3 "_law_shows" ["_law_thing", "_law_table_here"] fShows) (o_Experiment___eq : OkMX (spS ⟨K, mg, P, w⟩ fExpEqX) P w K mg base 1 "Experiment" "__eq__" ["self", "other"]) (cok : CTab.Ok ⟨K, mg, P, w⟩ ctab) (o_law_splits_again : Ok0 P w K mg base 8 "_law_splits_again" ["_law_e", "_law_table_here"] fAgain74) (g_isinstance : mg "isinstance" = none) (g_str : mg "str" = none) (o_law_is : Ok0 P w K mg base 1 "_law_is" ["_law_told_here", "_law_due_here"] fIsB) (o_alike : OkX (spS ⟨K, mg, P, w⟩ fAlike) P w K mg base 8 "alike" ["one", "other"]) (g_range : mg "range" = none) (g_sum : mg "sum" = none) (o_without_empty : Ok0 P w K mg base 7 "without_empty" ["e"] fWithout) : FnOk P w K mg base CX0 9 f fd ["_law_script"] (spLaw K) :=
  fnLaw (n := 15) (m := b_law) F sc_law rfl (fun cdv A outer s H E hr => ⟨_, pss_cons (ps_set (i := 1) sc_law.nd rfl (by first | exact Or.inl rfl | exact Or.inr rfl) (pe_callO o_law_pool hr (by decide) (pa_cons (pv 0) pa_nil)))
      (pss_cons (ps_set (i := 2) sc_law.nd rfl (by first | exact Or.inl rfl | exact Or.inr rfl) (pe_callO o_law_take hr (by decide) (pa_cons (pv 1) (pa_cons pe_int pa_nil))))
      (pss_cons (ps_set (i := 3) sc_law.nd rfl (by first | exact Or.inl rfl | exact Or.inr rfl) (pe_callO o_law_table hr (by decide) (pa_cons (pv 1) (pa_cons (pe_op op_addG pe_int (pe_callO o_law_take hr (by decide) (pa_cons (pv 1) (pa_cons pe_int pa_nil)))) (pa_cons pe_int (pa_cons pe_int pa_nil))))))
      (pss_cons (ps_if (pt_cmpR (op_eqD hr.units) (pe_callO o_law_take hr (by decide) (pa_cons (pv 1) (pa_cons pe_int pa_nil))) pe_int (nomark _)) (pss_one (ps_set (i := 3) sc_law.nd rfl (by first | exact Or.inl rfl | exact Or.inr rfl) (pe_callO o_law_with_empty hr (by decide) (pa_cons (pv 1) (pa_cons (pv 3) pa_nil))))) pss_nil)
      (pss_cons (ps_set (i := 4) sc_law.nd rfl (by first | exact Or.inl rfl | exact Or.inr rfl) (pe_callO o_law_take hr (by decide) (pa_cons (pv 1) (pa_cons (pe_callB call_len (by rfl) g_len PySem.boot_len (pa_cons (pe_ix ix_seq (pe_ix ix_seq (pv 3) pe_int (fun _ _ => rfl)) pe_int (fun _ _ => rfl)) pa_nil)) pa_nil))))
      (pss_cons (ps_set (i := 5) sc_law.nd rfl (by first | exact Or.inl rfl | exact Or.inr rfl) (pe_callO o_law_prior hr (by decide) (pa_cons (pv 1) (pa_cons (pe_op op_addG pe_int (pe_callO o_law_take hr (by decide) (pa_cons (pv 1) (pa_cons pe_int pa_nil)))) (pa_cons (pe_ix ix_seq (pe_lst (pa_cons pe_int (pa_cons pe_int pa_nil))) (pe_callO o_law_take hr (by decide) (pa_cons (pv 1) (pa_cons pe_int pa_nil))) (fun _ _ => rfl)) pa_nil)))))
      (pss_cons (ps_set (i := 6) sc_law.nd rfl (by first | exact Or.inl rfl | exact Or.inr rfl) (pe_callO o_law_take hr (by decide) (pa_cons (pv 1) (pa_cons (pe_callB call_len (by rfl) g_len PySem.boot_len (pa_cons (pv 5) pa_nil)) pa_nil))))
      (pss_cons (ps_if (pt_cmpR (op_eqD hr.units) (pv 2) pe_int (nomark _)) (pss_one (ps_setLc (i := 5) (own := [("_law_weight", 15)]) rfl sc_law.nd rfl rfl (sw_true rfl rfl rfl (by decide +kernel)) (pi_seq (pv 5)) (blkOk_by (own := [("_law_weight", 15)]) (N := ["_law_script", "_law_pool_here", "_law_spoil", "_law_table_here", "_law_signal", "_law_weights", "_law_at", "_law_kept", "_law_e", "_law_due_here", "_law_told_here", "_law_second", "_law_here", "_law_less", "_law_k", "_law_weight", "_law_row_here"]) (sc := defScope s_law) (by decide +kernel)) (fun _ _ _ _ _ => (pg_name (i := 15) sc_law.nd rfl (by first | exact Or.inl rfl | exact Or.inr rfl))) (fun _ _ _ _ _ => pts_nil) (fun _ _ _ _ _ => pe_int))) pss_nil)
      (pss_cons (ps_if (PW.pt (pw_or (pt_cmpR (op_eqD hr.units) (pv 2) pe_int (nomark _)) (pw_or1 (pt_cmpR (op_eqD hr.units) (pv 2) pe_int (nomark _))))) (pss_one (ps_asg (pe_ix ix_seq (pe_lst (pa_cons (pe_un un_neg pe_int) (pa_cons (pe_ix ix_seq (pe_lst (pa_cons pe_bl (pa_cons pe_non (pa_cons pe_str pa_nil)))) (pe_callO o_law_take hr (by decide) (pa_cons (pv 1) (pa_cons pe_int pa_nil))) (fun _ _ => rfl)) pa_nil))) (pe_op op_sub (pv 2) pe_int) (fun _ _ => rfl)) (pg_sub (pv 5) (pv 6) set_list))) pss_nil)
      (pss_cons (ps_if (pt_cmpR (op_eqD hr.units) (pv 2) pe_int (nomark _)) (pss_one (ps_set (i := 5) sc_law.nd rfl (by first | exact Or.inl rfl | exact Or.inr rfl) (pe_lst pa_nil))) pss_nil)
      (pss_cons (ps_if (pt_cmpR op_gt (pv 2) pe_int (nomark _)) (pss_one (ps_set (i := 4) sc_law.nd rfl (by first | exact Or.inl rfl | exact Or.inr rfl) (pe_ix ix_seq (pe_lst (pa_cons (pe_un un_neg pe_int) (pa_cons (pe_callB call_len (by rfl) g_len PySem.boot_len (pa_cons (pe_ix ix_seq (pe_ix ix_seq (pv 3) pe_int (fun _ _ => rfl)) pe_int (fun _ _ => rfl)) pa_nil)) (pa_cons pe_bl (pa_cons pe_non pa_nil))))) (pe_op op_sub (pv 2) pe_int) (fun _ _ => rfl)))) pss_nil)
      (pss_cons (ps_if (pt_cmpR op_gt (pv 2) pe_int (nomark _)) (pss_one (ps_setLc (i := 5) (own := [("_law_weight", 15)]) rfl sc_law.nd rfl rfl (sw_true rfl rfl rfl (by decide +kernel)) (pi_seq (pv 5)) (blkOk_by (own := [("_law_weight", 15)]) (N := ["_law_script", "_law_pool_here", "_law_spoil", "_law_table_here", "_law_signal", "_law_weights", "_law_at", "_law_kept", "_law_e", "_law_due_here", "_law_told_here", "_law_second", "_law_here", "_law_less", "_law_k", "_law_weight", "_law_row_here"]) (sc := defScope s_law) (by decide +kernel)) (fun _ _ _ _ _ => (pg_name (i := 15) sc_law.nd rfl (by first | exact Or.inl rfl | exact Or.inr rfl))) (fun _ _ _ _ _ => pts_nil) (fun _ _ _ _ _ => pe_int))) pss_nil)
      (pss_cons (ps_set (i := 7) sc_law.nd rfl (by first | exact Or.inl rfl | exact Or.inr rfl) (pe_callTy call_list_of (by rfl) g_list (by decide +kernel) (pa_cons (pv 5) pa_nil)))
      (pss_cons (ps_set (i := 8) sc_law.nd rfl (by first | exact Or.inl rfl | exact Or.inr rfl) (pe_makeX o_Experiment hr (by decide) takes0 (pa_cons (pe_ix ix_seq (pv 3) pe_int (fun _ _ => rfl)) (pa_cons (pe_ix ix_seq (pv 3) pe_int (fun _ _ => rfl)) pa_nil))))
      (pss_cons (ps_set (i := 9) sc_law.nd rfl (by first | exact Or.inl rfl | exact Or.inr rfl) (pe_callO o_law_due hr (by decide) (pa_cons (pv 3) (pa_cons (pv 4) (pa_cons (pv 5) pa_nil)))))
      (pss_cons (ps_set (i := 10) sc_law.nd rfl (by first | exact Or.inl rfl | exact Or.inr rfl) (pe_callO o_law_told hr (by decide) (pa_cons (pv 8) (pa_cons (pv 4) (pa_cons (pv 5) pa_nil)))))
      (pss_cons (ps_set (i := 11) sc_law.nd rfl (by first | exact Or.inl rfl | exact Or.inr rfl) (pe_callO o_law_told hr (by decide) (pa_cons (pv 8) (pa_cons (pv 4) (pa_cons (pe_callTy call_tuple_of (by rfl) g_tuple (by decide +kernel) (pa_cons (pv 5) pa_nil)) pa_nil)))))
      (pss_cons (ps_if (PW.pt (pw_or (pt_cmpR (op_neD hr.units) (pv 5) (pv 7) (nomark _)) (pw_or (pt_not (pt_val (pe_callO o_law_shows hr (by decide) (pa_cons (pv 8) (pa_cons (pv 3) pa_nil))))) (pw_or1 (pt_not (pt_cmpR (opr_or (op_eqD hr.units) (op_eqX o_Experiment___eq hr (by decide))) (pv 10) (pv 11) (nomark _))))))) (pss_one (ps_ret pe_bl)) pss_nil)
      (pss_cons (ps_if (pt_not (pt_val (pe_callO o_law_splits_again hr (by decide) (pa_cons (pv 8) (pa_cons (pv 3) pa_nil))))) (pss_one (ps_ret pe_bl)) pss_nil)
      (pss_cons (ps_if (pt_val (pe_callB call_isi (by rfl) g_isinstance (by decide +kernel) (pa_cons (pe_ix ix_seq (pv 9) pe_int (fun _ _ => rfl)) (pa_cons (pe_bltn (v := .ty "str") (by rfl) g_str (by decide +kernel) rfl) pa_nil)))) (pss_one (ps_if (pt_cmpR (op_neD hr.units) (pv 10) (pv 9) (nomark _)) (pss_one (ps_ret pe_bl)) pss_nil)) (pss_one (ps_if (PW.pt (pw_or (pt_not (pt_val (pe_callO o_law_shows hr (by decide) (pa_cons (pv 10) (pa_cons (pv 9) pa_nil))))) (pw_or1 (pt_not (pt_val (pe_callO o_law_is hr (by decide) (pa_cons (pe_callX o_alike hr (by decide) takes0 (pa_cons (pv 8) (pa_cons (pv 10) pa_nil))) (pa_cons pe_bl pa_nil)))))))) (pss_one (ps_ret pe_bl)) pss_nil)))
      (pss_cons (ps_set (i := 12) sc_law.nd rfl (by first | exact Or.inl rfl | exact Or.inr rfl) (pe_lc (own := [("_law_k", 14)]) rfl sc_law.nd (pi_range1 (by rfl) g_range (pa_cons (pe_callB call_len (by rfl) g_len PySem.boot_len (pa_cons (pe_ix ix_seq (pe_ix ix_seq (pv 3) pe_int (fun _ _ => rfl)) pe_int (fun _ _ => rfl)) pa_nil)) pa_nil)) (blkOk_by (own := [("_law_k", 14)]) (N := ["_law_script", "_law_pool_here", "_law_spoil", "_law_table_here", "_law_signal", "_law_weights", "_law_at", "_law_kept", "_law_e", "_law_due_here", "_law_told_here", "_law_second", "_law_here", "_law_less", "_law_k", "_law_weight", "_law_row_here"]) (sc := defScope s_law) (by decide +kernel)) (fun _ _ _ _ _ => (pg_name (i := 14) sc_law.nd rfl (by first | exact Or.inl rfl | exact Or.inr rfl))) (fun _ _ _ _ _ => pts_one (pt_cmpR op_gt (pe_callB (cr_sumS rfl) (by rfl) g_sum (by decide +kernel) (pa_cons (pe_lc (own := [("_law_row_here", 16)]) rfl sc_law.nd (pi_seq (pe_ix ix_seq (pv 3) pe_int (fun _ _ => rfl))) (blkOk_by (own := [("_law_row_here", 16)]) (N := ["_law_script", "_law_pool_here", "_law_spoil", "_law_table_here", "_law_signal", "_law_weights", "_law_at", "_law_kept", "_law_e", "_law_due_here", "_law_told_here", "_law_second", "_law_here", "_law_less", "_law_k", "_law_weight", "_law_row_here"]) (by rfl)) (fun _ _ _ _ _ => (pg_name (i := 16) sc_law.nd rfl (by first | exact Or.inl rfl | exact Or.inr rfl))) (fun _ _ _ _ _ => pts_nil) (fun _ _ _ _ _ => (pe_ix ix_seq (pv 16) (pv 14) (fun _ _ => rfl)))) pa_nil)) pe_int (nomark _))) (fun _ _ _ _ _ => (pv 14))))
      (pss_cons (ps_set (i := 13) sc_law.nd rfl (by first | exact Or.inl rfl | exact Or.inr rfl) (pe_callO o_without_empty hr (by decide) (pa_cons (pv 8) pa_nil)))
      (pss_cons (ps_if (pt_not (pt_val (pe_callO o_law_shows hr (by decide) (pa_cons (pv 13) (pa_cons (pe_lst (pa_cons (pe_ix ix_seq (pv 3) pe_int (fun _ _ => rfl)) (pa_cons (pe_lc (own := [("_law_row_here", 16)]) rfl sc_law.nd (pi_seq (pe_ix ix_seq (pv 3) pe_int (fun _ _ => rfl))) (blkOk_by (own := [("_law_row_here", 16)]) (N := ["_law_script", "_law_pool_here", "_law_spoil", "_law_table_here", "_law_signal", "_law_weights", "_law_at", "_law_kept", "_law_e", "_law_due_here", "_law_told_here", "_law_second", "_law_here", "_law_less", "_law_k", "_law_weight", "_law_row_here"]) (sc := defScope s_law) (by decide +kernel)) (fun _ _ _ _ _ => (pg_name (i := 16) sc_law.nd rfl (by first | exact Or.inl rfl | exact Or.inr rfl))) (fun _ _ _ _ _ => pts_nil) (fun _ _ _ _ _ => (pe_lc (own := [("_law_k", 14)]) rfl sc_law.nd (pi_seq (pv 12)) (blkOk_by (own := [("_law_k", 14)]) (N := ["_law_script", "_law_pool_here", "_law_spoil", "_law_table_here", "_law_signal", "_law_weights", "_law_at", "_law_kept", "_law_e", "_law_due_here", "_law_told_here", "_law_second", "_law_here", "_law_less", "_law_k", "_law_weight", "_law_row_here"]) (by rfl)) (fun _ _ _ _ _ => (pg_name (i := 14) sc_law.nd rfl (by first | exact Or.inl rfl | exact Or.inr rfl))) (fun _ _ _ _ _ => pts_nil) (fun _ _ _ _ _ => (pe_ix ix_seq (pv 16) (pv 14) (fun _ _ => rfl)))))) pa_nil))) pa_nil))))) (pss_one (ps_ret pe_bl)) pss_nil)
      (pss_one (ps_ret (pe_and (pe_callO o_law_is hr (by decide) (pa_cons (pe_callX o_alike hr (by decide) takes0 (pa_cons (pv 13) (pa_cons (pv 8) pa_nil))) (pa_cons pe_bl pa_nil))) (pe_one (pe_cmpR (op_eqX o_Experiment___eq hr (by decide)) (pe_callO o_without_empty hr (by decide) (pa_cons (pv 13) pa_nil)) (pv 13) (nomark _)))))))))))))))))))))))))))),
      (sim_seq (sim_asg (sim_call0 (sim_cons sim_var (sim_cons sim_int sim_nil))) sim_gn)
      (sim_seq (sim_asg (sim_call0 (sim_cons sim_var (sim_cons (sim_op sr_add sim_int (sim_call0 (sim_cons sim_var (sim_cons sim_int sim_nil)))) (sim_cons sim_int (sim_cons sim_int sim_nil))))) sim_gn)
      (sim_seq (sim_ifS (sim_test (sim_op sr_eq (sim_call0 (sim_cons sim_var (sim_cons sim_int sim_nil))) sim_int)) (sim_asg (sim_call0 (sim_cons sim_var (sim_cons sim_var sim_nil))) sim_gn) sim_next)
      (sim_seq (sim_asg (sim_call0 (sim_cons sim_var (sim_cons (sim_cb srl_len (sim_cons (sim_op sr_ix (sim_op sr_ix sim_var sim_int) sim_int) sim_nil)) sim_nil))) sim_gn)
      (sim_seq (sim_asgFO (sim_cons sim_var (sim_cons (sim_op sr_add sim_int (sim_call0 (sim_cons sim_var (sim_cons sim_int sim_nil)))) (sim_cons (sim_op sr_ix (sim_frz (sim_lstO (sim_cons sim_int (sim_cons sim_int sim_nil)))) (sim_call0 (sim_cons sim_var (sim_cons sim_int sim_nil)))) sim_nil))))
      (sim_seq (sim_asg (sim_call0 (sim_cons sim_var (sim_cons (sim_tmpE (i := 5) (sim_cb srl_len (sim_cons sim_var sim_nil))) sim_nil))) sim_gn)
      (sim_seq (sim_ifS (sim_test (sim_op sr_eq sim_var sim_int)) (sim_asgO (sim_tmpO (i := 5) (sim_lc (sim_itS sim_var) (sim_gnw (i := 15) (vs := [15])) sim_yes sim_int))) sim_next)
      (sim_seq (sim_ifS (sim_or (sim_test (sim_op sr_eq sim_var sim_int)) (sim_test (sim_op sr_eq sim_var sim_int))) (sim_setI sim_var (sim_op sr_ix (sim_frz (sim_lstO (sim_cons (sim_un sr_U sim_int) (sim_cons (sim_op sr_ix (sim_frz (sim_lstO (sim_cons sim_bl (sim_cons sim_non (sim_cons sim_str sim_nil))))) (sim_call0 (sim_cons sim_var (sim_cons sim_int sim_nil)))) sim_nil)))) (sim_op sr_I0 sim_var sim_int))) sim_next)
      (sim_seq (sim_ifS (sim_test (sim_op sr_eq sim_var sim_int)) (sim_asgO (sim_lstO sim_nil)) sim_next)
      (sim_seq (sim_ifS (sim_test (sim_op sr_B0 sim_var sim_int)) (sim_asg (sim_op sr_ix (sim_frz (sim_lstO (sim_cons (sim_un sr_U sim_int) (sim_cons (sim_cb srl_len (sim_cons (sim_op sr_ix (sim_op sr_ix sim_var sim_int) sim_int) sim_nil)) (sim_cons sim_bl (sim_cons sim_non sim_nil)))))) (sim_op sr_I0 sim_var sim_int)) sim_gn) sim_next)
      (sim_seq (sim_ifS (sim_test (sim_op sr_B0 sim_var sim_int)) (sim_asgO (sim_tmpO (i := 5) (sim_lc (sim_itS sim_var) (sim_gnw (i := 15) (vs := [15])) sim_yes sim_int))) sim_next)
      (sim_seq (sim_freeze (i := 5) (sim_asg (sim_cb srl_list (sim_cons sim_var sim_nil)) sim_gn))
      (sim_seq (sim_asg (sim_makeX (sim_cons (sim_op sr_ix sim_var sim_int) (sim_cons (sim_op sr_ix sim_var sim_int) sim_nil))) sim_gn)
      (sim_seq (sim_asg (sim_call0 (sim_cons sim_var (sim_cons sim_var (sim_cons sim_var sim_nil)))) sim_gn)
      (sim_seq (sim_asg (sim_call0 (sim_cons sim_var (sim_cons sim_var (sim_cons sim_var sim_nil)))) sim_gn)
      (sim_seq (sim_asg (sim_call0 (sim_cons sim_var (sim_cons sim_var (sim_cons (sim_cb srl_tuple (sim_cons sim_var sim_nil)) sim_nil)))) sim_gn)
      (sim_seq (sim_ifS (sim_or (sim_test (sim_op sr_ne sim_var sim_var)) (sim_or (sim_not (sim_testB (sim_call0 (sim_cons sim_var (sim_cons sim_var sim_nil))))) (sim_not (sim_test (sim_op (sr_or2 sr_eq (sr_eqX cok)) sim_var sim_var))))) (sim_ret sim_bl) sim_next)
      (sim_seq (sim_ifS (sim_not (sim_testB (sim_call0 (sim_cons sim_var (sim_cons sim_var sim_nil))))) (sim_ret sim_bl) sim_next)
      (sim_seq (sim_ifS (sim_testB (sim_isi (T := "str") (by decide +kernel) (sim_op sr_ix sim_var sim_int))) (sim_ifS (sim_test (sim_op sr_ne sim_var sim_var)) (sim_ret sim_bl) sim_next) (sim_ifS (sim_or (sim_not (sim_testB (sim_call0 (sim_cons sim_var (sim_cons sim_var sim_nil))))) (sim_not (sim_testB (sim_call0 (sim_cons (sim_callX (sim_cons sim_var (sim_cons sim_var sim_nil))) (sim_cons sim_bl sim_nil)))))) (sim_ret sim_bl) sim_next))
      (sim_seq (sim_asg (sim_frz (sim_lc (sim_rng1 (sim_cons (sim_cb srl_len (sim_cons (sim_op sr_ix (sim_op sr_ix sim_var sim_int) sim_int) sim_nil)) sim_nil)) (sim_gnw (i := 14) (vs := [14])) (sim_test (sim_op sr_B0 (sim_cb srl_sum (sim_cons (sim_frz (sim_lc (sim_itS (sim_op sr_ix sim_var sim_int)) (sim_gnw (i := 16) (vs := [16])) sim_yes (sim_op sr_ix sim_var sim_var))) sim_nil)) sim_int)) sim_var)) sim_gn)
      (sim_seq (sim_asg (sim_call0 (sim_cons sim_var sim_nil)) sim_gn)
      (sim_seq (sim_ifS (sim_not (sim_testB (sim_call0 (sim_cons sim_var (sim_cons (sim_frz (sim_lstO (sim_cons (sim_op sr_ix sim_var sim_int) (sim_cons (sim_frz (sim_lc (sim_itS (sim_op sr_ix sim_var sim_int)) (sim_gnw (i := 16) (vs := [16])) sim_yes (sim_frz (sim_lc (sim_itS sim_var) (sim_gnw (i := 14) (vs := [14])) sim_yes (sim_op sr_ix sim_var sim_var))))) sim_nil)))) sim_nil))))) (sim_ret sim_bl) sim_next)
      (sim_ret (sim_andV (sim_call0 (sim_cons (sim_callX (sim_cons sim_var (sim_cons sim_var sim_nil))) (sim_cons sim_bl sim_nil))) (sim_op (sr_eqX cok) (sim_call0 (sim_cons sim_var sim_nil)) sim_var)))))))))))))))))))))))))⟩) d_law
end
theorem all_mk {l : PySem.W.OpenLaw} {w : World} {K : PySem.W.Frag} {h : Heap} {mg : Str → Option Value} {fa : Addr} (X : K.In h) (G : h.Ns mainGlobals mg) (hfa : mg "law" = some (.ref fa))
    {D_Experiment : Addr}
    {f0 : Addr} {od0 an0 : Option Addr} {sl0 : Array (Option Value)} {oc0 kV0 dc0 pm0 cd0 ct0 : Value}
    {f1 : Addr} {od1 an1 : Option Addr} {sl1 : Array (Option Value)} {oc1 kV1 dc1 pm1 cd1 ct1 : Value}
    {f2 : Addr} {od2 an2 : Option Addr} {sl2 : Array (Option Value)} {oc2 kV2 dc2 pm2 cd2 ct2 : Value}
    {f3 : Addr} {od3 an3 : Option Addr} {sl3 : Array (Option Value)} {oc3 kV3 dc3 pm3 cd3 ct3 : Value}
    {f4 : Addr} {od4 an4 : Option Addr} {sl4 : Array (Option Value)} {oc4 kV4 dc4 pm4 cd4 ct4 : Value}
    {f5 : Addr} {od5 an5 : Option Addr} {sl5 : Array (Option Value)} {oc5 kV5 dc5 pm5 cd5 ct5 : Value}
    {f6 : Addr} {od6 an6 : Option Addr} {sl6 : Array (Option Value)} {oc6 kV6 dc6 pm6 cd6 ct6 : Value}
    {f7 : Addr} {od7 an7 : Option Addr} {sl7 : Array (Option Value)} {oc7 kV7 dc7 pm7 cd7 ct7 : Value}
    {f8 : Addr} {od8 an8 : Option Addr} {sl8 : Array (Option Value)} {oc8 kV8 dc8 pm8 cd8 ct8 : Value}
    {f9 : Addr} {od9 an9 : Option Addr} {sl9 : Array (Option Value)} {oc9 kV9 dc9 pm9 cd9 ct9 : Value}
    {f10 : Addr} {od10 an10 : Option Addr} {sl10 : Array (Option Value)} {oc10 kV10 dc10 pm10 cd10 ct10 : Value}
    {f11 : Addr} {od11 an11 : Option Addr} {sl11 : Array (Option Value)} {oc11 kV11 dc11 pm11 cd11 ct11 : Value}
    {f12 : Addr} {od12 an12 : Option Addr} {sl12 : Array (Option Value)} {oc12 kV12 dc12 pm12 cd12 ct12 : Value}
    {f13 : Addr} {od13 an13 : Option Addr} {sl13 : Array (Option Value)} {oc13 kV13 dc13 pm13 cd13 ct13 : Value}
    {f14 : Addr} {od14 an14 : Option Addr} {sl14 : Array (Option Value)} {oc14 kV14 dc14 pm14 cd14 ct14 : Value}
    {f15 : Addr} {od15 an15 : Option Addr} {sl15 : Array (Option Value)} {oc15 kV15 dc15 pm15 cd15 ct15 : Value}
    {f16 : Addr} {od16 an16 : Option Addr} {sl16 : Array (Option Value)} {oc16 kV16 dc16 pm16 cd16 ct16 : Value}
    {f17 : Addr} {od17 an17 : Option Addr} {sl17 : Array (Option Value)} {oc17 kV17 dc17 pm17 cd17 ct17 : Value}
    {f18 : Addr} {od18 an18 : Option Addr} {sl18 : Array (Option Value)} {oc18 kV18 dc18 pm18 cd18 ct18 : Value}
    {f19 : Addr} {od19 an19 : Option Addr} {sl19 : Array (Option Value)} {oc19 kV19 dc19 pm19 cd19 ct19 : Value}
    {f20 : Addr} {od20 an20 : Option Addr} {sl20 : Array (Option Value)} {oc20 kV20 dc20 pm20 cd20 ct20 : Value}
    {f21 : Addr} {od21 an21 : Option Addr} {sl21 : Array (Option Value)} {oc21 kV21 dc21 pm21 cd21 ct21 : Value}
    {f22 : Addr} {od22 an22 : Option Addr} {sl22 : Array (Option Value)} {oc22 kV22 dc22 pm22 cd22 ct22 : Value}
    {f23 : Addr} {od23 an23 : Option Addr} {sl23 : Array (Option Value)} {oc23 kV23 dc23 pm23 cd23 ct23 : Value}
    {f24 : Addr} {od24 an24 : Option Addr} {sl24 : Array (Option Value)} {oc24 kV24 dc24 pm24 cd24 ct24 : Value}
    {f25 : Addr} {od25 an25 : Option Addr} {sl25 : Array (Option Value)} {oc25 kV25 dc25 pm25 cd25 ct25 : Value}
    {f26 : Addr} {od26 an26 : Option Addr} {sl26 : Array (Option Value)} {oc26 kV26 dc26 pm26 cd26 ct26 : Value}
    {f27 : Addr} {od27 an27 : Option Addr} {sl27 : Array (Option Value)} {oc27 kV27 dc27 pm27 cd27 ct27 : Value}
    {f28 : Addr} {od28 an28 : Option Addr} {sl28 : Array (Option Value)} {oc28 kV28 dc28 pm28 cd28 ct28 : Value}
    {f29 : Addr} {od29 an29 : Option Addr} {sl29 : Array (Option Value)} {oc29 kV29 dc29 pm29 cd29 ct29 : Value}
    {f30 : Addr} {od30 an30 : Option Addr} {sl30 : Array (Option Value)} {oc30 kV30 dc30 pm30 cd30 ct30 : Value}
    {f31 : Addr} {od31 an31 : Option Addr} {sl31 : Array (Option Value)} {oc31 kV31 dc31 pm31 cd31 ct31 : Value}
    {f32 : Addr} {od32 an32 : Option Addr} {sl32 : Array (Option Value)} {oc32 kV32 dc32 pm32 cd32 ct32 : Value}
    {f33 : Addr} {od33 an33 : Option Addr} {sl33 : Array (Option Value)} {oc33 kV33 dc33 pm33 cd33 ct33 : Value}
    {f34 : Addr} {od34 an34 : Option Addr} {sl34 : Array (Option Value)} {oc34 kV34 dc34 pm34 cd34 ct34 : Value}
    {f35 : Addr} {od35 an35 : Option Addr} {sl35 : Array (Option Value)} {oc35 kV35 dc35 pm35 cd35 ct35 : Value}
    {f36 : Addr} {od36 an36 : Option Addr} {sl36 : Array (Option Value)} {oc36 kV36 dc36 pm36 cd36 ct36 : Value}
    {C0 fI0 N0 : Addr} {nm0 q0 : Str} {bs0 bm0 sub0 : List Value} {sn0 : List Str} {ab0 : Bool} {col0 : Option Bool} {dd0 : Option Addr} {xa0 xb0 xc0 xd0 xe0 : Option Value} {iod0 ian0 : Option Addr} {isl0 : Array (Option Value)} {ioc0 ikV0 idc0 ipm0 icd0 ict0 : Value}
    {C1 fI1 N1 : Addr} {nm1 q1 : Str} {bs1 bm1 sub1 : List Value} {sn1 : List Str} {ab1 : Bool} {col1 : Option Bool} {dd1 : Option Addr} {xa1 xb1 xc1 xd1 xe1 : Option Value} {iod1 ian1 : Option Addr} {isl1 : Array (Option Value)} {ioc1 ikV1 idc1 ipm1 icd1 ict1 : Value}
    {C2 fI2 N2 : Addr} {nm2 q2 : Str} {bs2 bm2 sub2 : List Value} {sn2 : List Str} {ab2 : Bool} {col2 : Option Bool} {dd2 : Option Addr} {xa2 xb2 xc2 xd2 xe2 : Option Value} {iod2 ian2 : Option Addr} {isl2 : Array (Option Value)} {ioc2 ikV2 idc2 ipm2 icd2 ict2 : Value}
    {C3 fI3 N3 : Addr} {nm3 q3 : Str} {bs3 bm3 sub3 : List Value} {sn3 : List Str} {ab3 : Bool} {col3 : Option Bool} {dd3 : Option Addr} {xa3 xb3 xc3 xd3 xe3 : Option Value} {iod3 ian3 : Option Addr} {isl3 : Array (Option Value)} {ioc3 ikV3 idc3 ipm3 icd3 ict3 : Value}
    {C4 fI4 N4 : Addr} {nm4 q4 : Str} {bs4 bm4 sub4 : List Value} {sn4 : List Str} {ab4 : Bool} {col4 : Option Bool} {dd4 : Option Addr} {xa4 xb4 xc4 xd4 xe4 : Option Value} {iod4 ian4 : Option Addr} {isl4 : Array (Option Value)} {ioc4 ikV4 idc4 ipm4 icd4 ict4 : Value}
    {C5 fI5 N5 : Addr} {nm5 q5 : Str} {bs5 bm5 sub5 : List Value} {sn5 : List Str} {ab5 : Bool} {col5 : Option Bool} {dd5 : Option Addr} {xa5 xb5 xc5 xd5 xe5 : Option Value} {iod5 ian5 : Option Addr} {isl5 : Array (Option Value)} {ioc5 ikV5 idc5 ipm5 icd5 ict5 : Value}
    {C6 : Addr}
    {C7 : Addr}
    (gca : PySem.W.specialIn K (.builtin "object.__class__") "__get__" = some (some (.builtin "getset_descriptor.__get__")))
    (gcb : PySem.W.takesIn K (.builtin "object.__class__") = some true)
    (gaExperiment : PySem.W.nsIn K mainGlobals "Experiment" = some (some (.ref D_Experiment)))
    (gbExperiment : PySem.W.plainGet K D_Experiment Str.empty = true)
    (gcExperiment : PySem.W.hasDictIn K D_Experiment = true)
    (gdExperiment : PySem.W.plainOver K D_Experiment = true)
    (geExperiment : PySem.W.findIn K (.ref D_Experiment) "__setattr__" = some (some (.builtin "object.__setattr__")))
    (gfExperiment : PySem.W.makesIn K D_Experiment = true)
    (ggExperiment : PySem.W.keepIn K (.ref D_Experiment) = true)
    (ghExperiment : PySem.W.findIn K (.ref D_Experiment) "__class__" = some (some (.builtin "object.__class__")))
    (giExperiment : PySem.W.mroIn K D_Experiment (.type "object") = some true)
    (gjExperiment : PySem.W.typeIn K (.ref D_Experiment) = some (.type "type"))
    (gnExperimentstates : PySem.W.findIn K (.ref D_Experiment) "states" = some none)
    (gnExperimentsignals : PySem.W.findIn K (.ref D_Experiment) "signals" = some none)
    (gnExperimentunit : PySem.W.findIn K (.ref D_Experiment) "unit" = some none)
    (gnExperimentrows : PySem.W.findIn K (.ref D_Experiment) "_rows" = some none)
    (gqExperimentExperiment : PySem.W.subIn K (.ref D_Experiment) (.ref D_Experiment) = some true)
    (a0 : PySem.W.nsIn K mainGlobals "is_integer" = some (some (.ref f0)))
    (l0 : K.lookup f0 = some ⟨oc0, od0, .func (PySem.W.fnOf "is_integer" "is_integer" (defArgs s_is_integer) (defBody s_is_integer) (defScope s_is_integer) .none kV0 dc0 pm0 an0 cd0 ct0), sl0⟩)
    (c0 : PySem.W.codeIn K cd0 "is_integer" = true)
    (k0 : PySem.W.keepIn K (.ref f0) = true)
    (a1 : PySem.W.nsIn K mainGlobals "is_number_below" = some (some (.ref f1)))
    (l1 : K.lookup f1 = some ⟨oc1, od1, .func (PySem.W.fnOf "is_number_below" "is_number_below" (defArgs s_is_number_below) (defBody s_is_number_below) (defScope s_is_number_below) .none kV1 dc1 pm1 an1 cd1 ct1), sl1⟩)
    (c1 : PySem.W.codeIn K cd1 "is_number_below" = true)
    (k1 : PySem.W.keepIn K (.ref f1) = true)
    (a2 : PySem.W.nsIn K mainGlobals "are_integers" = some (some (.ref f2)))
    (l2 : K.lookup f2 = some ⟨oc2, od2, .func (PySem.W.fnOf "are_integers" "are_integers" (defArgs s_are_integers) (defBody s_are_integers) (defScope s_are_integers) .none kV2 dc2 pm2 an2 cd2 ct2), sl2⟩)
    (c2 : PySem.W.codeIn K cd2 "are_integers" = true)
    (k2 : PySem.W.keepIn K (.ref f2) = true)
    (a3 : PySem.W.nsIn K mainGlobals "are_amounts" = some (some (.ref f3)))
    (l3 : K.lookup f3 = some ⟨oc3, od3, .func (PySem.W.fnOf "are_amounts" "are_amounts" (defArgs s_are_amounts) (defBody s_are_amounts) (defScope s_are_amounts) .none kV3 dc3 pm3 an3 cd3 ct3), sl3⟩)
    (c3 : PySem.W.codeIn K cd3 "are_amounts" = true)
    (k3 : PySem.W.keepIn K (.ref f3) = true)
    (a4 : PySem.W.nsIn K mainGlobals "are_weights" = some (some (.ref f4)))
    (l4 : K.lookup f4 = some ⟨oc4, od4, .func (PySem.W.fnOf "are_weights" "are_weights" (defArgs s_are_weights) (defBody s_are_weights) (defScope s_are_weights) .none kV4 dc4 pm4 an4 cd4 ct4), sl4⟩)
    (c4 : PySem.W.codeIn K cd4 "are_weights" = true)
    (k4 : PySem.W.keepIn K (.ref f4) = true)
    (a5 : PySem.W.nsIn K mainGlobals "check_same_states" = some (some (.ref f5)))
    (l5 : K.lookup f5 = some ⟨oc5, od5, .func (PySem.W.fnOf "check_same_states" "check_same_states" (defArgs s_check_same_states) (defBody s_check_same_states) (defScope s_check_same_states) .none kV5 dc5 pm5 an5 cd5 ct5), sl5⟩)
    (c5 : PySem.W.codeIn K cd5 "check_same_states" = true)
    (k5 : PySem.W.keepIn K (.ref f5) = true)
    (a6 : PySem.W.nsIn K mainGlobals "check_states" = some (some (.ref f6)))
    (l6 : K.lookup f6 = some ⟨oc6, od6, .func (PySem.W.fnOf "check_states" "check_states" (defArgs s_check_states) (defBody s_check_states) (defScope s_check_states) .none kV6 dc6 pm6 an6 cd6 ct6), sl6⟩)
    (c6 : PySem.W.codeIn K cd6 "check_states" = true)
    (k6 : PySem.W.keepIn K (.ref f6) = true)
    (a7 : PySem.W.nsIn K mainGlobals "common" = some (some (.ref f7)))
    (l7 : K.lookup f7 = some ⟨oc7, od7, .func (PySem.W.fnOf "common" "common" (defArgs s_common) (defBody s_common) (defScope s_common) .none kV7 dc7 pm7 an7 cd7 ct7), sl7⟩)
    (c7 : PySem.W.codeIn K cd7 "common" = true)
    (k7 : PySem.W.keepIn K (.ref f7) = true)
    (a8 : PySem.W.nsIn K mainGlobals "lowest" = some (some (.ref f8)))
    (l8 : K.lookup f8 = some ⟨oc8, od8, .func (PySem.W.fnOf "lowest" "lowest" (defArgs s_lowest) (defBody s_lowest) (defScope s_lowest) .none kV8 dc8 pm8 an8 cd8 ct8), sl8⟩)
    (c8 : PySem.W.codeIn K cd8 "lowest" = true)
    (k8 : PySem.W.keepIn K (.ref f8) = true)
    (a9 : PySem.W.nsIn K mainGlobals "check_unit" = some (some (.ref f9)))
    (l9 : K.lookup f9 = some ⟨oc9, od9, .func (PySem.W.fnOf "check_unit" "check_unit" (defArgs s_check_unit) (defBody s_check_unit) (defScope s_check_unit) .none kV9 dc9 pm9 an9 cd9 ct9), sl9⟩)
    (c9 : PySem.W.codeIn K cd9 "check_unit" = true)
    (k9 : PySem.W.keepIn K (.ref f9) = true)
    (a10 : PySem.W.nsIn K mainGlobals "check_rows" = some (some (.ref f10)))
    (l10 : K.lookup f10 = some ⟨oc10, od10, .func (PySem.W.fnOf "check_rows" "check_rows" (defArgs s_check_rows) (defBody s_check_rows) (defScope s_check_rows) .none kV10 dc10 pm10 an10 cd10 ct10), sl10⟩)
    (c10 : PySem.W.codeIn K cd10 "check_rows" = true)
    (k10 : PySem.W.keepIn K (.ref f10) = true)
    (a11 : PySem.W.nsIn K mainGlobals "lowest_rows" = some (some (.ref f11)))
    (l11 : K.lookup f11 = some ⟨oc11, od11, .func (PySem.W.fnOf "lowest_rows" "lowest_rows" (defArgs s_lowest_rows) (defBody s_lowest_rows) (defScope s_lowest_rows) .none kV11 dc11 pm11 an11 cd11 ct11), sl11⟩)
    (c11 : PySem.W.codeIn K cd11 "lowest_rows" = true)
    (k11 : PySem.W.keepIn K (.ref f11) = true)
    (a12 : PySem.W.nsIn K mainGlobals "turned" = some (some (.ref f12)))
    (l12 : K.lookup f12 = some ⟨oc12, od12, .func (PySem.W.fnOf "turned" "turned" (defArgs s_turned) (defBody s_turned) (defScope s_turned) .none kV12 dc12 pm12 an12 cd12 ct12), sl12⟩)
    (c12 : PySem.W.codeIn K cd12 "turned" = true)
    (k12 : PySem.W.keepIn K (.ref f12) = true)
    (a13 : PySem.W.findIn K (.ref D_Experiment) "__init__" = some (some (.ref f13)))
    (i13 : PySem.W.isFn K (.ref f13) = true)
    (y13 : PySem.W.fnIn K f13 = true)
    (l13 : K.lookup f13 = some ⟨oc13, od13, .func (PySem.W.fnOf "__init__" "Experiment.__init__" (defArgs s_Experiment___init) (defBody s_Experiment___init) (defScope s_Experiment___init) .none kV13 dc13 pm13 an13 cd13 ct13), sl13⟩)
    (c13 : PySem.W.codeIn K cd13 "Experiment.__init__" = true)
    (k13 : PySem.W.keepIn K (.ref f13) = true)
    (a14 : PySem.W.findIn K (.ref D_Experiment) "rows" = some (some (.ref f14)))
    (i14 : PySem.W.isFn K (.ref f14) = true)
    (y14 : PySem.W.fnIn K f14 = true)
    (l14 : K.lookup f14 = some ⟨oc14, od14, .func (PySem.W.fnOf "rows" "Experiment.rows" (defArgs s_Experiment_rows) (defBody s_Experiment_rows) (defScope s_Experiment_rows) .none kV14 dc14 pm14 an14 cd14 ct14), sl14⟩)
    (c14 : PySem.W.codeIn K cd14 "Experiment.rows" = true)
    (k14 : PySem.W.keepIn K (.ref f14) = true)
    (a15 : PySem.W.findIn K (.ref D_Experiment) "__eq__" = some (some (.ref f15)))
    (i15 : PySem.W.isFn K (.ref f15) = true)
    (y15 : PySem.W.fnIn K f15 = true)
    (l15 : K.lookup f15 = some ⟨oc15, od15, .func (PySem.W.fnOf "__eq__" "Experiment.__eq__" (defArgs s_Experiment___eq) (defBody s_Experiment___eq) (defScope s_Experiment___eq) .none kV15 dc15 pm15 an15 cd15 ct15), sl15⟩)
    (c15 : PySem.W.codeIn K cd15 "Experiment.__eq__" = true)
    (k15 : PySem.W.keepIn K (.ref f15) = true)
    (a16 : PySem.W.nsIn K mainGlobals "standard" = some (some (.ref f16)))
    (l16 : K.lookup f16 = some ⟨oc16, od16, .func (PySem.W.fnOf "standard" "standard" (defArgs s_standard) (defBody s_standard) (defScope s_standard) .none kV16 dc16 pm16 an16 cd16 ct16), sl16⟩)
    (c16 : PySem.W.codeIn K cd16 "standard" = true)
    (k16 : PySem.W.keepIn K (.ref f16) = true)
    (a17 : PySem.W.nsIn K mainGlobals "alike" = some (some (.ref f17)))
    (l17 : K.lookup f17 = some ⟨oc17, od17, .func (PySem.W.fnOf "alike" "alike" (defArgs s_alike) (defBody s_alike) (defScope s_alike) .none kV17 dc17 pm17 an17 cd17 ct17), sl17⟩)
    (c17 : PySem.W.codeIn K cd17 "alike" = true)
    (k17 : PySem.W.keepIn K (.ref f17) = true)
    (a18 : PySem.W.nsIn K mainGlobals "split" = some (some (.ref f18)))
    (l18 : K.lookup f18 = some ⟨oc18, od18, .func (PySem.W.fnOf "split" "split" (defArgs s_split) (defBody s_split) (defScope s_split) .none kV18 dc18 pm18 an18 cd18 ct18), sl18⟩)
    (c18 : PySem.W.codeIn K cd18 "split" = true)
    (k18 : PySem.W.keepIn K (.ref f18) = true)
    (a19 : PySem.W.nsIn K mainGlobals "without_empty" = some (some (.ref f19)))
    (l19 : K.lookup f19 = some ⟨oc19, od19, .func (PySem.W.fnOf "without_empty" "without_empty" (defArgs s_without_empty) (defBody s_without_empty) (defScope s_without_empty) .none kV19 dc19 pm19 an19 cd19 ct19), sl19⟩)
    (c19 : PySem.W.codeIn K cd19 "without_empty" = true)
    (k19 : PySem.W.keepIn K (.ref f19) = true)
    (a20 : PySem.W.nsIn K mainGlobals "_groups" = some (some (.ref f20)))
    (l20 : K.lookup f20 = some ⟨oc20, od20, .func (PySem.W.fnOf "_groups" "_groups" (defArgs s_groups) (defBody s_groups) (defScope s_groups) .none kV20 dc20 pm20 an20 cd20 ct20), sl20⟩)
    (c20 : PySem.W.codeIn K cd20 "_groups" = true)
    (k20 : PySem.W.keepIn K (.ref f20) = true)
    (a21 : PySem.W.nsIn K mainGlobals "_law_pool" = some (some (.ref f21)))
    (l21 : K.lookup f21 = some ⟨oc21, od21, .func (PySem.W.fnOf "_law_pool" "_law_pool" (defArgs s_law_pool) (defBody s_law_pool) (defScope s_law_pool) .none kV21 dc21 pm21 an21 cd21 ct21), sl21⟩)
    (c21 : PySem.W.codeIn K cd21 "_law_pool" = true)
    (k21 : PySem.W.keepIn K (.ref f21) = true)
    (a22 : PySem.W.nsIn K mainGlobals "_law_take" = some (some (.ref f22)))
    (l22 : K.lookup f22 = some ⟨oc22, od22, .func (PySem.W.fnOf "_law_take" "_law_take" (defArgs s_law_take) (defBody s_law_take) (defScope s_law_take) .none kV22 dc22 pm22 an22 cd22 ct22), sl22⟩)
    (c22 : PySem.W.codeIn K cd22 "_law_take" = true)
    (k22 : PySem.W.keepIn K (.ref f22) = true)
    (a23 : PySem.W.nsIn K mainGlobals "_law_is" = some (some (.ref f23)))
    (l23 : K.lookup f23 = some ⟨oc23, od23, .func (PySem.W.fnOf "_law_is" "_law_is" (defArgs s_law_is) (defBody s_law_is) (defScope s_law_is) .none kV23 dc23 pm23 an23 cd23 ct23), sl23⟩)
    (c23 : PySem.W.codeIn K cd23 "_law_is" = true)
    (k23 : PySem.W.keepIn K (.ref f23) = true)
    (a24 : PySem.W.nsIn K mainGlobals "_law_is_number" = some (some (.ref f24)))
    (l24 : K.lookup f24 = some ⟨oc24, od24, .func (PySem.W.fnOf "_law_is_number" "_law_is_number" (defArgs s_law_is_number) (defBody s_law_is_number) (defScope s_law_is_number) .none kV24 dc24 pm24 an24 cd24 ct24), sl24⟩)
    (c24 : PySem.W.codeIn K cd24 "_law_is_number" = true)
    (k24 : PySem.W.keepIn K (.ref f24) = true)
    (a25 : PySem.W.nsIn K mainGlobals "_law_divisor" = some (some (.ref f25)))
    (l25 : K.lookup f25 = some ⟨oc25, od25, .func (PySem.W.fnOf "_law_divisor" "_law_divisor" (defArgs s_law_divisor) (defBody s_law_divisor) (defScope s_law_divisor) .none kV25 dc25 pm25 an25 cd25 ct25), sl25⟩)
    (c25 : PySem.W.codeIn K cd25 "_law_divisor" = true)
    (k25 : PySem.W.keepIn K (.ref f25) = true)
    (a26 : PySem.W.nsIn K mainGlobals "_law_lowest" = some (some (.ref f26)))
    (l26 : K.lookup f26 = some ⟨oc26, od26, .func (PySem.W.fnOf "_law_lowest" "_law_lowest" (defArgs s_law_lowest) (defBody s_law_lowest) (defScope s_law_lowest) .none kV26 dc26 pm26 an26 cd26 ct26), sl26⟩)
    (c26 : PySem.W.codeIn K cd26 "_law_lowest" = true)
    (k26 : PySem.W.keepIn K (.ref f26) = true)
    (a27 : PySem.W.nsIn K mainGlobals "_law_row" = some (some (.ref f27)))
    (l27 : K.lookup f27 = some ⟨oc27, od27, .func (PySem.W.fnOf "_law_row" "_law_row" (defArgs s_law_row) (defBody s_law_row) (defScope s_law_row) .none kV27 dc27 pm27 an27 cd27 ct27), sl27⟩)
    (c27 : PySem.W.codeIn K cd27 "_law_row" = true)
    (k27 : PySem.W.keepIn K (.ref f27) = true)
    (a28 : PySem.W.nsIn K mainGlobals "_law_rows" = some (some (.ref f28)))
    (l28 : K.lookup f28 = some ⟨oc28, od28, .func (PySem.W.fnOf "_law_rows" "_law_rows" (defArgs s_law_rows) (defBody s_law_rows) (defScope s_law_rows) .none kV28 dc28 pm28 an28 cd28 ct28), sl28⟩)
    (c28 : PySem.W.codeIn K cd28 "_law_rows" = true)
    (k28 : PySem.W.keepIn K (.ref f28) = true)
    (a29 : PySem.W.nsIn K mainGlobals "_law_table" = some (some (.ref f29)))
    (l29 : K.lookup f29 = some ⟨oc29, od29, .func (PySem.W.fnOf "_law_table" "_law_table" (defArgs s_law_table) (defBody s_law_table) (defScope s_law_table) .none kV29 dc29 pm29 an29 cd29 ct29), sl29⟩)
    (c29 : PySem.W.codeIn K cd29 "_law_table" = true)
    (k29 : PySem.W.keepIn K (.ref f29) = true)
    (a30 : PySem.W.nsIn K mainGlobals "_law_prior" = some (some (.ref f30)))
    (l30 : K.lookup f30 = some ⟨oc30, od30, .func (PySem.W.fnOf "_law_prior" "_law_prior" (defArgs s_law_prior) (defBody s_law_prior) (defScope s_law_prior) .none kV30 dc30 pm30 an30 cd30 ct30), sl30⟩)
    (c30 : PySem.W.codeIn K cd30 "_law_prior" = true)
    (k30 : PySem.W.keepIn K (.ref f30) = true)
    (a31 : PySem.W.nsIn K mainGlobals "_law_shows" = some (some (.ref f31)))
    (l31 : K.lookup f31 = some ⟨oc31, od31, .func (PySem.W.fnOf "_law_shows" "_law_shows" (defArgs s_law_shows) (defBody s_law_shows) (defScope s_law_shows) .none kV31 dc31 pm31 an31 cd31 ct31), sl31⟩)
    (c31 : PySem.W.codeIn K cd31 "_law_shows" = true)
    (k31 : PySem.W.keepIn K (.ref f31) = true)
    (a32 : PySem.W.nsIn K mainGlobals "_law_told" = some (some (.ref f32)))
    (l32 : K.lookup f32 = some ⟨oc32, od32, .func (PySem.W.fnOf "_law_told" "_law_told" (defArgs s_law_told) (defBody s_law_told) (defScope s_law_told) .none kV32 dc32 pm32 an32 cd32 ct32), sl32⟩)
    (c32 : PySem.W.codeIn K cd32 "_law_told" = true)
    (k32 : PySem.W.keepIn K (.ref f32) = true)
    (a33 : PySem.W.nsIn K mainGlobals "_law_due" = some (some (.ref f33)))
    (l33 : K.lookup f33 = some ⟨oc33, od33, .func (PySem.W.fnOf "_law_due" "_law_due" (defArgs s_law_due) (defBody s_law_due) (defScope s_law_due) .none kV33 dc33 pm33 an33 cd33 ct33), sl33⟩)
    (c33 : PySem.W.codeIn K cd33 "_law_due" = true)
    (k33 : PySem.W.keepIn K (.ref f33) = true)
    (a34 : PySem.W.nsIn K mainGlobals "_law_with_empty" = some (some (.ref f34)))
    (l34 : K.lookup f34 = some ⟨oc34, od34, .func (PySem.W.fnOf "_law_with_empty" "_law_with_empty" (defArgs s_law_with_empty) (defBody s_law_with_empty) (defScope s_law_with_empty) .none kV34 dc34 pm34 an34 cd34 ct34), sl34⟩)
    (c34 : PySem.W.codeIn K cd34 "_law_with_empty" = true)
    (k34 : PySem.W.keepIn K (.ref f34) = true)
    (a35 : PySem.W.nsIn K mainGlobals "_law_splits_again" = some (some (.ref f35)))
    (l35 : K.lookup f35 = some ⟨oc35, od35, .func (PySem.W.fnOf "_law_splits_again" "_law_splits_again" (defArgs s_law_splits_again) (defBody s_law_splits_again) (defScope s_law_splits_again) .none kV35 dc35 pm35 an35 cd35 ct35), sl35⟩)
    (c35 : PySem.W.codeIn K cd35 "_law_splits_again" = true)
    (k35 : PySem.W.keepIn K (.ref f35) = true)
    (a36 : PySem.W.nsIn K mainGlobals "law" = some (some (.ref f36)))
    (l36 : K.lookup f36 = some ⟨oc36, od36, .func (PySem.W.fnOf "law" "law" (defArgs s_law) (defBody s_law) (defScope s_law) .none kV36 dc36 pm36 an36 cd36 ct36), sl36⟩)
    (c36 : PySem.W.codeIn K cd36 "law" = true)
    (k36 : PySem.W.keepIn K (.ref f36) = true)
    (ea0 : PySem.W.nsIn K mainGlobals "BadSize" = some (some (.ref C0)))
    (eb0 : K.lookup C0 = some (excClassObj nm0 q0 C0 N0 bs0 bm0 true sn0 sub0 ab0 col0 dd0 xa0 xb0 xc0 xd0 xe0 "ValueError.__new__"))
    (ec0 : PySem.HandSPX.refsVE bm0 = true)
    (ed0 : PySem.W.findIn K (.ref C0) "__setattr__" = some (some (.builtin "object.__setattr__")))
    (ee0 : PySem.W.subIn K (.ref C0) (.type "BaseException") = some true)
    (ef0 : PySem.W.typeIn K (.ref C0) = some (.type "type"))
    (eg0 : PySem.W.keepIn K (.ref C0) = true)
    (eh0 : PySem.W.findIn K (.ref C0) "__getattribute__" = some (some (.builtin "BaseException.__getattribute__")))
    (ei0 : PySem.W.findIn K (.ref C0) "__getattr__" = some none)
    (ej0 : PySem.W.hasDictIn K C0 = true)
    (ek0 : PySem.W.findIn K (.ref C0) "size" = some none)
    (el0 : PySem.W.findIn K (.ref C0) "__init__" = some (some (.ref fI0)))
    (em0 : PySem.W.typeIn K (.ref fI0) = some (.type "function"))
    (en0 : K.lookup fI0 = some ⟨ioc0, iod0, .func (PySem.W.fnOf "__init__" "BadSize.__init__" (defArgs s_init_BadSize) (defBody s_init_BadSize) (defScope s_init_BadSize) .none ikV0 idc0 ipm0 ian0 icd0 ict0), isl0⟩)
    (eo0 : PySem.W.codeIn K icd0 "BadSize.__init__" = true)
    (ep0 : PySem.W.keepIn K (.ref fI0) = true)
    (ea1 : PySem.W.nsIn K mainGlobals "BadRatio" = some (some (.ref C1)))
    (eb1 : K.lookup C1 = some (excClassObj nm1 q1 C1 N1 bs1 bm1 true sn1 sub1 ab1 col1 dd1 xa1 xb1 xc1 xd1 xe1 "ValueError.__new__"))
    (ec1 : PySem.HandSPX.refsVE bm1 = true)
    (ed1 : PySem.W.findIn K (.ref C1) "__setattr__" = some (some (.builtin "object.__setattr__")))
    (ee1 : PySem.W.subIn K (.ref C1) (.type "BaseException") = some true)
    (ef1 : PySem.W.typeIn K (.ref C1) = some (.type "type"))
    (eg1 : PySem.W.keepIn K (.ref C1) = true)
    (eh1 : PySem.W.findIn K (.ref C1) "__getattribute__" = some (some (.builtin "BaseException.__getattribute__")))
    (ei1 : PySem.W.findIn K (.ref C1) "__getattr__" = some none)
    (ej1 : PySem.W.hasDictIn K C1 = true)
    (ek1 : PySem.W.findIn K (.ref C1) "bottom" = some none)
    (el1 : PySem.W.findIn K (.ref C1) "__init__" = some (some (.ref fI1)))
    (em1 : PySem.W.typeIn K (.ref fI1) = some (.type "function"))
    (en1 : K.lookup fI1 = some ⟨ioc1, iod1, .func (PySem.W.fnOf "__init__" "BadRatio.__init__" (defArgs s_init_BadRatio) (defBody s_init_BadRatio) (defScope s_init_BadRatio) .none ikV1 idc1 ipm1 ian1 icd1 ict1), isl1⟩)
    (eo1 : PySem.W.codeIn K icd1 "BadRatio.__init__" = true)
    (ep1 : PySem.W.keepIn K (.ref fI1) = true)
    (ea2 : PySem.W.nsIn K mainGlobals "BadUnit" = some (some (.ref C2)))
    (eb2 : K.lookup C2 = some (excClassObj nm2 q2 C2 N2 bs2 bm2 true sn2 sub2 ab2 col2 dd2 xa2 xb2 xc2 xd2 xe2 "ValueError.__new__"))
    (ec2 : PySem.HandSPX.refsVE bm2 = true)
    (ed2 : PySem.W.findIn K (.ref C2) "__setattr__" = some (some (.builtin "object.__setattr__")))
    (ee2 : PySem.W.subIn K (.ref C2) (.type "BaseException") = some true)
    (ef2 : PySem.W.typeIn K (.ref C2) = some (.type "type"))
    (eg2 : PySem.W.keepIn K (.ref C2) = true)
    (eh2 : PySem.W.findIn K (.ref C2) "__getattribute__" = some (some (.builtin "BaseException.__getattribute__")))
    (ei2 : PySem.W.findIn K (.ref C2) "__getattr__" = some none)
    (ej2 : PySem.W.hasDictIn K C2 = true)
    (ek2 : PySem.W.findIn K (.ref C2) "unit" = some none)
    (el2 : PySem.W.findIn K (.ref C2) "__init__" = some (some (.ref fI2)))
    (em2 : PySem.W.typeIn K (.ref fI2) = some (.type "function"))
    (en2 : K.lookup fI2 = some ⟨ioc2, iod2, .func (PySem.W.fnOf "__init__" "BadUnit.__init__" (defArgs s_init_BadUnit) (defBody s_init_BadUnit) (defScope s_init_BadUnit) .none ikV2 idc2 ipm2 ian2 icd2 ict2), isl2⟩)
    (eo2 : PySem.W.codeIn K icd2 "BadUnit.__init__" = true)
    (ep2 : PySem.W.keepIn K (.ref fI2) = true)
    (ea3 : PySem.W.nsIn K mainGlobals "NoSignal" = some (some (.ref C3)))
    (eb3 : K.lookup C3 = some (excClassObj nm3 q3 C3 N3 bs3 bm3 true sn3 sub3 ab3 col3 dd3 xa3 xb3 xc3 xd3 xe3 "ValueError.__new__"))
    (ec3 : PySem.HandSPX.refsVE bm3 = true)
    (ed3 : PySem.W.findIn K (.ref C3) "__setattr__" = some (some (.builtin "object.__setattr__")))
    (ee3 : PySem.W.subIn K (.ref C3) (.type "BaseException") = some true)
    (ef3 : PySem.W.typeIn K (.ref C3) = some (.type "type"))
    (eg3 : PySem.W.keepIn K (.ref C3) = true)
    (eh3 : PySem.W.findIn K (.ref C3) "__getattribute__" = some (some (.builtin "BaseException.__getattribute__")))
    (ei3 : PySem.W.findIn K (.ref C3) "__getattr__" = some none)
    (ej3 : PySem.W.hasDictIn K C3 = true)
    (ek3 : PySem.W.findIn K (.ref C3) "signal" = some none)
    (el3 : PySem.W.findIn K (.ref C3) "__init__" = some (some (.ref fI3)))
    (em3 : PySem.W.typeIn K (.ref fI3) = some (.type "function"))
    (en3 : K.lookup fI3 = some ⟨ioc3, iod3, .func (PySem.W.fnOf "__init__" "NoSignal.__init__" (defArgs s_init_NoSignal) (defBody s_init_NoSignal) (defScope s_init_NoSignal) .none ikV3 idc3 ipm3 ian3 icd3 ict3), isl3⟩)
    (eo3 : PySem.W.codeIn K icd3 "NoSignal.__init__" = true)
    (ep3 : PySem.W.keepIn K (.ref fI3) = true)
    (ea4 : PySem.W.nsIn K mainGlobals "BadRow" = some (some (.ref C4)))
    (eb4 : K.lookup C4 = some (excClassObj nm4 q4 C4 N4 bs4 bm4 true sn4 sub4 ab4 col4 dd4 xa4 xb4 xc4 xd4 xe4 "ValueError.__new__"))
    (ec4 : PySem.HandSPX.refsVE bm4 = true)
    (ed4 : PySem.W.findIn K (.ref C4) "__setattr__" = some (some (.builtin "object.__setattr__")))
    (ee4 : PySem.W.subIn K (.ref C4) (.type "BaseException") = some true)
    (ef4 : PySem.W.typeIn K (.ref C4) = some (.type "type"))
    (eg4 : PySem.W.keepIn K (.ref C4) = true)
    (eh4 : PySem.W.findIn K (.ref C4) "__getattribute__" = some (some (.builtin "BaseException.__getattribute__")))
    (ei4 : PySem.W.findIn K (.ref C4) "__getattr__" = some none)
    (ej4 : PySem.W.hasDictIn K C4 = true)
    (ek4 : PySem.W.findIn K (.ref C4) "index" = some none)
    (el4 : PySem.W.findIn K (.ref C4) "__init__" = some (some (.ref fI4)))
    (em4 : PySem.W.typeIn K (.ref fI4) = some (.type "function"))
    (en4 : K.lookup fI4 = some ⟨ioc4, iod4, .func (PySem.W.fnOf "__init__" "BadRow.__init__" (defArgs s_init_BadRow) (defBody s_init_BadRow) (defScope s_init_BadRow) .none ikV4 idc4 ipm4 ian4 icd4 ict4), isl4⟩)
    (eo4 : PySem.W.codeIn K icd4 "BadRow.__init__" = true)
    (ep4 : PySem.W.keepIn K (.ref fI4) = true)
    (ea5 : PySem.W.nsIn K mainGlobals "NoState" = some (some (.ref C5)))
    (eb5 : K.lookup C5 = some (excClassObj nm5 q5 C5 N5 bs5 bm5 true sn5 sub5 ab5 col5 dd5 xa5 xb5 xc5 xd5 xe5 "ValueError.__new__"))
    (ec5 : PySem.HandSPX.refsVE bm5 = true)
    (ed5 : PySem.W.findIn K (.ref C5) "__setattr__" = some (some (.builtin "object.__setattr__")))
    (ee5 : PySem.W.subIn K (.ref C5) (.type "BaseException") = some true)
    (ef5 : PySem.W.typeIn K (.ref C5) = some (.type "type"))
    (eg5 : PySem.W.keepIn K (.ref C5) = true)
    (eh5 : PySem.W.findIn K (.ref C5) "__getattribute__" = some (some (.builtin "BaseException.__getattribute__")))
    (ei5 : PySem.W.findIn K (.ref C5) "__getattr__" = some none)
    (ej5 : PySem.W.hasDictIn K C5 = true)
    (ek5 : PySem.W.findIn K (.ref C5) "state" = some none)
    (el5 : PySem.W.findIn K (.ref C5) "__init__" = some (some (.ref fI5)))
    (em5 : PySem.W.typeIn K (.ref fI5) = some (.type "function"))
    (en5 : K.lookup fI5 = some ⟨ioc5, iod5, .func (PySem.W.fnOf "__init__" "NoState.__init__" (defArgs s_init_NoState) (defBody s_init_NoState) (defScope s_init_NoState) .none ikV5 idc5 ipm5 ian5 icd5 ict5), isl5⟩)
    (eo5 : PySem.W.codeIn K icd5 "NoState.__init__" = true)
    (ep5 : PySem.W.keepIn K (.ref fI5) = true)
    (ea6 : PySem.W.nsIn K mainGlobals "Mismatch" = some (some (.ref C6)))
    (eb6 : PySem.W.excIn K C6 [.type "ValueError", .type "Exception", .type "BaseException", .type "object"] "ValueError.__new__" = true)
    (ee6 : PySem.W.subIn K (.ref C6) (.type "BaseException") = some true)
    (ef6 : PySem.W.typeIn K (.ref C6) = some (.type "type"))
    (eg6 : PySem.W.keepIn K (.ref C6) = true)
    (ej6 : PySem.W.hasDictIn K C6 = true)
    (ea7 : PySem.W.nsIn K mainGlobals "BadWeights" = some (some (.ref C7)))
    (eb7 : PySem.W.excIn K C7 [.type "ValueError", .type "Exception", .type "BaseException", .type "object"] "ValueError.__new__" = true)
    (ee7 : PySem.W.subIn K (.ref C7) (.type "BaseException") = some true)
    (ef7 : PySem.W.typeIn K (.ref C7) = some (.type "type"))
    (eg7 : PySem.W.keepIn K (.ref C7) = true)
    (ej7 : PySem.W.hasDictIn K C7 = true)
    (es0_0 : PySem.W.subIn K (.ref C0) (.ref C0) = some true)
    (es0_1 : PySem.W.subIn K (.ref C0) (.ref C1) = some false)
    (es0_2 : PySem.W.subIn K (.ref C0) (.ref C2) = some false)
    (es0_3 : PySem.W.subIn K (.ref C0) (.ref C3) = some false)
    (es0_4 : PySem.W.subIn K (.ref C0) (.ref C4) = some false)
    (es0_5 : PySem.W.subIn K (.ref C0) (.ref C5) = some false)
    (es0_6 : PySem.W.subIn K (.ref C0) (.ref C6) = some false)
    (es0_7 : PySem.W.subIn K (.ref C0) (.ref C7) = some false)
    (es1_0 : PySem.W.subIn K (.ref C1) (.ref C0) = some false)
    (es1_1 : PySem.W.subIn K (.ref C1) (.ref C1) = some true)
    (es1_2 : PySem.W.subIn K (.ref C1) (.ref C2) = some false)
    (es1_3 : PySem.W.subIn K (.ref C1) (.ref C3) = some false)
    (es1_4 : PySem.W.subIn K (.ref C1) (.ref C4) = some false)
    (es1_5 : PySem.W.subIn K (.ref C1) (.ref C5) = some false)
    (es1_6 : PySem.W.subIn K (.ref C1) (.ref C6) = some false)
    (es1_7 : PySem.W.subIn K (.ref C1) (.ref C7) = some false)
    (es2_0 : PySem.W.subIn K (.ref C2) (.ref C0) = some false)
    (es2_1 : PySem.W.subIn K (.ref C2) (.ref C1) = some false)
    (es2_2 : PySem.W.subIn K (.ref C2) (.ref C2) = some true)
    (es2_3 : PySem.W.subIn K (.ref C2) (.ref C3) = some false)
    (es2_4 : PySem.W.subIn K (.ref C2) (.ref C4) = some false)
    (es2_5 : PySem.W.subIn K (.ref C2) (.ref C5) = some false)
    (es2_6 : PySem.W.subIn K (.ref C2) (.ref C6) = some false)
    (es2_7 : PySem.W.subIn K (.ref C2) (.ref C7) = some false)
    (es3_0 : PySem.W.subIn K (.ref C3) (.ref C0) = some false)
    (es3_1 : PySem.W.subIn K (.ref C3) (.ref C1) = some false)
    (es3_2 : PySem.W.subIn K (.ref C3) (.ref C2) = some false)
    (es3_3 : PySem.W.subIn K (.ref C3) (.ref C3) = some true)
    (es3_4 : PySem.W.subIn K (.ref C3) (.ref C4) = some false)
    (es3_5 : PySem.W.subIn K (.ref C3) (.ref C5) = some false)
    (es3_6 : PySem.W.subIn K (.ref C3) (.ref C6) = some false)
    (es3_7 : PySem.W.subIn K (.ref C3) (.ref C7) = some false)
    (es4_0 : PySem.W.subIn K (.ref C4) (.ref C0) = some false)
    (es4_1 : PySem.W.subIn K (.ref C4) (.ref C1) = some false)
    (es4_2 : PySem.W.subIn K (.ref C4) (.ref C2) = some false)
    (es4_3 : PySem.W.subIn K (.ref C4) (.ref C3) = some false)
    (es4_4 : PySem.W.subIn K (.ref C4) (.ref C4) = some true)
    (es4_5 : PySem.W.subIn K (.ref C4) (.ref C5) = some false)
    (es4_6 : PySem.W.subIn K (.ref C4) (.ref C6) = some false)
    (es4_7 : PySem.W.subIn K (.ref C4) (.ref C7) = some false)
    (es5_0 : PySem.W.subIn K (.ref C5) (.ref C0) = some false)
    (es5_1 : PySem.W.subIn K (.ref C5) (.ref C1) = some false)
    (es5_2 : PySem.W.subIn K (.ref C5) (.ref C2) = some false)
    (es5_3 : PySem.W.subIn K (.ref C5) (.ref C3) = some false)
    (es5_4 : PySem.W.subIn K (.ref C5) (.ref C4) = some false)
    (es5_5 : PySem.W.subIn K (.ref C5) (.ref C5) = some true)
    (es5_6 : PySem.W.subIn K (.ref C5) (.ref C6) = some false)
    (es5_7 : PySem.W.subIn K (.ref C5) (.ref C7) = some false)
    (es6_0 : PySem.W.subIn K (.ref C6) (.ref C0) = some false)
    (es6_1 : PySem.W.subIn K (.ref C6) (.ref C1) = some false)
    (es6_2 : PySem.W.subIn K (.ref C6) (.ref C2) = some false)
    (es6_3 : PySem.W.subIn K (.ref C6) (.ref C3) = some false)
    (es6_4 : PySem.W.subIn K (.ref C6) (.ref C4) = some false)
    (es6_5 : PySem.W.subIn K (.ref C6) (.ref C5) = some false)
    (es6_6 : PySem.W.subIn K (.ref C6) (.ref C6) = some true)
    (es6_7 : PySem.W.subIn K (.ref C6) (.ref C7) = some false)
    (es7_0 : PySem.W.subIn K (.ref C7) (.ref C0) = some false)
    (es7_1 : PySem.W.subIn K (.ref C7) (.ref C1) = some false)
    (es7_2 : PySem.W.subIn K (.ref C7) (.ref C2) = some false)
    (es7_3 : PySem.W.subIn K (.ref C7) (.ref C3) = some false)
    (es7_4 : PySem.W.subIn K (.ref C7) (.ref C4) = some false)
    (es7_5 : PySem.W.subIn K (.ref C7) (.ref C5) = some false)
    (es7_6 : PySem.W.subIn K (.ref C7) (.ref C6) = some false)
    (es7_7 : PySem.W.subIn K (.ref C7) (.ref C7) = some true)
    (z_isinstance : PySem.W.nsIn K mainGlobals "isinstance" = some none) (z_int : PySem.W.nsIn K mainGlobals "int" = some none) (z_bool : PySem.W.nsIn K mainGlobals "bool" = some none) (z_list : PySem.W.nsIn K mainGlobals "list" = some none) (z_tuple : PySem.W.nsIn K mainGlobals "tuple" = some none) (z_all : PySem.W.nsIn K mainGlobals "all" = some none) (z_sum : PySem.W.nsIn K mainGlobals "sum" = some none) {tk_MOST_STATES : Tok} (z_MOST_STATES : PySem.W.nsIn K mainGlobals "_MOST_STATES" = some (some (.int 4 tk_MOST_STATES))) (z_lcm : PySem.W.nsIn K mainGlobals "lcm" = some (some (.builtin "math.lcm"))) (z_gcd : PySem.W.nsIn K mainGlobals "gcd" = some (some (.builtin "math.gcd"))) (z_enumerate : PySem.W.nsIn K mainGlobals "enumerate" = some none) (z_len : PySem.W.nsIn K mainGlobals "len" = some none) (z_zip : PySem.W.nsIn K mainGlobals "zip" = some none) (z_sorted : PySem.W.nsIn K mainGlobals "sorted" = some none) (z_max : PySem.W.nsIn K mainGlobals "max" = some none) (z_abs : PySem.W.nsIn K mainGlobals "abs" = some none) (z_range : PySem.W.nsIn K mainGlobals "range" = some none) (z_str : PySem.W.nsIn K mainGlobals "str" = some none) :
    ∃ fd : FuncData, (∀ (s : Shared) (v : Value), BindsTo s fd ⟨[v], []⟩ [("_law_script", v)]) ∧ ∀ base : Heap, K.In base → base.Ns mainGlobals mg → FnOk l.prog w K mg base CX0 9 fa fd ["_law_script"] (spLaw K) := by
  have e := hfa.symm.trans (PySem.W.mg_of X G a36)
  cases e
  have g_isinstance := PySem.W.mg_none_of X G z_isinstance
  have g_int := PySem.W.mg_none_of X G z_int
  have g_bool := PySem.W.mg_none_of X G z_bool
  have g_list := PySem.W.mg_none_of X G z_list
  have g_tuple := PySem.W.mg_none_of X G z_tuple
  have g_all := PySem.W.mg_none_of X G z_all
  have g_sum := PySem.W.mg_none_of X G z_sum
  have g_MOST_STATES := PySem.W.mg_of X G z_MOST_STATES
  have g_lcm := PySem.W.mg_of X G z_lcm
  have g_gcd := PySem.W.mg_of X G z_gcd
  have g_enumerate := PySem.W.mg_none_of X G z_enumerate
  have g_len := PySem.W.mg_none_of X G z_len
  have g_zip := PySem.W.mg_none_of X G z_zip
  have g_sorted := PySem.W.mg_none_of X G z_sorted
  have g_max := PySem.W.mg_none_of X G z_max
  have g_abs := PySem.W.mg_none_of X G z_abs
  have g_range := PySem.W.mg_none_of X G z_range
  have g_str := PySem.W.mg_none_of X G z_str
  have m_Experiment : mg "Experiment" = some (.ref D_Experiment) := PySem.W.mg_of X G gaExperiment
  have cl_Experiment : Cls K D_Experiment := ⟨gbExperiment, gcExperiment, gdExperiment, geExperiment⟩
  have c_Experiment : ClsAt ⟨K, mg, l.prog, w⟩ "Experiment" D_Experiment := ⟨m_Experiment, cl_Experiment⟩
  have cd_Experiment : ClsD ⟨K, mg, l.prog, w⟩ "Experiment" D_Experiment := ⟨m_Experiment, cl_Experiment, ghExperiment, gca, gcb, giExperiment, gjExperiment⟩
  have n_Experiment_states : NoAttr K D_Experiment "states" := gnExperimentstates
  have n_Experiment_signals : NoAttr K D_Experiment "signals" := gnExperimentsignals
  have n_Experiment_unit : NoAttr K D_Experiment "unit" := gnExperimentunit
  have n_Experiment_rows : NoAttr K D_Experiment "_rows" := gnExperimentrows
  have cok : CTab.Ok ⟨K, mg, l.prog, w⟩ ctab := cok_mk (fun e he => by
    simp only [ctab, List.mem_cons, List.not_mem_nil, or_false] at he
    rcases he with rfl
    · exact ⟨D_Experiment, cd_Experiment, fun f hf => by
        simp only [List.mem_cons, List.not_mem_nil, or_false] at hf
        rcases hf with rfl | rfl | rfl | rfl
        · exact n_Experiment_states
        · exact n_Experiment_signals
        · exact n_Experiment_unit
        · exact n_Experiment_rows⟩
    ) (fun e he e2 he2 => by
    simp only [ctab, List.mem_cons, List.not_mem_nil, or_false] at he he2
    rcases he with rfl <;> rcases he2 with rfl
    · exact ⟨D_Experiment, D_Experiment, m_Experiment, m_Experiment, gqExperimentExperiment⟩
    )
  have F0 := fun_mk (st := s_is_integer) l0 c0 k0
  have b0 := F0.binds (ps := ["value"]) fun _ _ _ _ _ _ us hl => match us, hl with | [_], _ => rfl
  have F1 := fun_mk (st := s_is_number_below) l1 c1 k1
  have b1 := F1.binds (ps := ["value", "count"]) fun _ _ _ _ _ _ us hl => match us, hl with | [_, _], _ => rfl
  have F2 := fun_mk (st := s_are_integers) l2 c2 k2
  have b2 := F2.binds (ps := ["values"]) fun _ _ _ _ _ _ us hl => match us, hl with | [_], _ => rfl
  have F3 := fun_mk (st := s_are_amounts) l3 c3 k3
  have b3 := F3.binds (ps := ["values"]) fun _ _ _ _ _ _ us hl => match us, hl with | [_], _ => rfl
  have F4 := fun_mk (st := s_are_weights) l4 c4 k4
  have b4 := F4.binds (ps := ["values"]) fun _ _ _ _ _ _ us hl => match us, hl with | [_], _ => rfl
  have F5 := fun_mk (st := s_check_same_states) l5 c5 k5
  have b5 := F5.binds (ps := ["one", "other"]) fun _ _ _ _ _ _ us hl => match us, hl with | [_, _], _ => rfl
  have F6 := fun_mk (st := s_check_states) l6 c6 k6
  have b6 := F6.binds (ps := ["states"]) fun _ _ _ _ _ _ us hl => match us, hl with | [_], _ => rfl
  have F7 := fun_mk (st := s_common) l7 c7 k7
  have b7 := F7.binds (ps := ["ratios"]) fun _ _ _ _ _ _ us hl => match us, hl with | [_], _ => rfl
  have F8 := fun_mk (st := s_lowest) l8 c8 k8
  have b8 := F8.binds (ps := ["numbers"]) fun _ _ _ _ _ _ us hl => match us, hl with | [_], _ => rfl
  have F9 := fun_mk (st := s_check_unit) l9 c9 k9
  have b9 := F9.binds (ps := ["unit"]) fun _ _ _ _ _ _ us hl => match us, hl with | [_], _ => rfl
  have F10 := fun_mk (st := s_check_rows) l10 c10 k10
  have b10 := F10.binds (ps := ["unit", "rows"]) fun _ _ _ _ _ _ us hl => match us, hl with | [_, _], _ => rfl
  have F11 := fun_mk (st := s_lowest_rows) l11 c11 k11
  have b11 := F11.binds (ps := ["unit", "rows"]) fun _ _ _ _ _ _ us hl => match us, hl with | [_, _], _ => rfl
  have F12 := fun_mk (st := s_turned) l12 c12 k12
  have b12 := F12.binds (ps := ["rows"]) fun _ _ _ _ _ _ us hl => match us, hl with | [_], _ => rfl
  have F13 := fun_mk (st := s_Experiment___init) l13 c13 k13
  have b13 := F13.binds (ps := ["self", "unit", "rows"]) fun _ _ _ _ _ _ us hl => match us, hl with | [_, _, _], _ => rfl
  have F14 := fun_mk (st := s_Experiment_rows) l14 c14 k14
  have b14 := F14.binds (ps := ["self"]) fun _ _ _ _ _ _ us hl => match us, hl with | [_], _ => rfl
  have F15 := fun_mk (st := s_Experiment___eq) l15 c15 k15
  have b15 := F15.binds (ps := ["self", "other"]) fun _ _ _ _ _ _ us hl => match us, hl with | [_, _], _ => rfl
  have F16 := fun_mk (st := s_standard) l16 c16 k16
  have b16 := F16.binds (ps := ["e"]) fun _ _ _ _ _ _ us hl => match us, hl with | [_], _ => rfl
  have F17 := fun_mk (st := s_alike) l17 c17 k17
  have b17 := F17.binds (ps := ["one", "other"]) fun _ _ _ _ _ _ us hl => match us, hl with | [_, _], _ => rfl
  have F18 := fun_mk (st := s_split) l18 c18 k18
  have b18 := F18.binds (ps := ["e", "signal", "weights"]) fun _ _ _ _ _ _ us hl => match us, hl with | [_, _, _], _ => rfl
  have F19 := fun_mk (st := s_without_empty) l19 c19 k19
  have b19 := F19.binds (ps := ["e"]) fun _ _ _ _ _ _ us hl => match us, hl with | [_], _ => rfl
  have F20 := fun_mk (st := s_groups) l20 c20 k20
  have b20 := F20.binds (ps := ["columns"]) fun _ _ _ _ _ _ us hl => match us, hl with | [_], _ => rfl
  have F21 := fun_mk (st := s_law_pool) l21 c21 k21
  have b21 := F21.binds (ps := ["_law_script"]) fun _ _ _ _ _ _ us hl => match us, hl with | [_], _ => rfl
  have F22 := fun_mk (st := s_law_take) l22 c22 k22
  have b22 := F22.binds (ps := ["_law_pool_here", "_law_many"]) fun _ _ _ _ _ _ us hl => match us, hl with | [_, _], _ => rfl
  have F23 := fun_mk (st := s_law_is) l23 c23 k23
  have b23 := F23.binds (ps := ["_law_told_here", "_law_due_here"]) fun _ _ _ _ _ _ us hl => match us, hl with | [_, _], _ => rfl
  have F24 := fun_mk (st := s_law_is_number) l24 c24 k24
  have b24 := F24.binds (ps := ["_law_thing"]) fun _ _ _ _ _ _ us hl => match us, hl with | [_], _ => rfl
  have F25 := fun_mk (st := s_law_divisor) l25 c25 k25
  have b25 := F25.binds (ps := ["_law_numbers"]) fun _ _ _ _ _ _ us hl => match us, hl with | [_], _ => rfl
  have F26 := fun_mk (st := s_law_lowest) l26 c26 k26
  have b26 := F26.binds (ps := ["_law_unit", "_law_rows_here"]) fun _ _ _ _ _ _ us hl => match us, hl with | [_, _], _ => rfl
  have F27 := fun_mk (st := s_law_row) l27 c27 k27
  have b27 := F27.binds (ps := ["_law_pool_here", "_law_unit", "_law_many"]) fun _ _ _ _ _ _ us hl => match us, hl with | [_, _, _], _ => rfl
  have F28 := fun_mk (st := s_law_rows) l28 c28 k28
  have b28 := F28.binds (ps := ["_law_pool_here", "_law_lines", "_law_many", "_law_unit"]) fun _ _ _ _ _ _ us hl => match us, hl with | [_, _, _, _], _ => rfl
  have F29 := fun_mk (st := s_law_table) l29 c29 k29
  have b29 := F29.binds (ps := ["_law_pool_here", "_law_lines", "_law_most", "_law_unit_most"]) fun _ _ _ _ _ _ us hl => match us, hl with | [_, _, _, _], _ => rfl
  have F30 := fun_mk (st := s_law_prior) l30 c30 k30
  have b30 := F30.binds (ps := ["_law_pool_here", "_law_states", "_law_most"]) fun _ _ _ _ _ _ us hl => match us, hl with | [_, _, _], _ => rfl
  have F31 := fun_mk (st := s_law_shows) l31 c31 k31
  have b31 := F31.binds (ps := ["_law_thing", "_law_table_here"]) fun _ _ _ _ _ _ us hl => match us, hl with | [_, _], _ => rfl
  have F32 := fun_mk (st := s_law_told) l32 c32 k32
  have b32 := F32.binds (ps := ["_law_e", "_law_signal", "_law_weights"]) fun _ _ _ _ _ _ us hl => match us, hl with | [_, _, _], _ => rfl
  have F33 := fun_mk (st := s_law_due) l33 c33 k33
  have b33 := F33.binds (ps := ["_law_table_here", "_law_signal", "_law_weights"]) fun _ _ _ _ _ _ us hl => match us, hl with | [_, _, _], _ => rfl
  have F34 := fun_mk (st := s_law_with_empty) l34 c34 k34
  have b34 := F34.binds (ps := ["_law_pool_here", "_law_table_here"]) fun _ _ _ _ _ _ us hl => match us, hl with | [_, _], _ => rfl
  have F35 := fun_mk (st := s_law_splits_again) l35 c35 k35
  have b35 := F35.binds (ps := ["_law_e", "_law_table_here"]) fun _ _ _ _ _ _ us hl => match us, hl with | [_, _], _ => rfl
  have F36 := fun_mk (st := s_law) l36 c36 k36
  have T_BadSize : OexC K C0 := ⟨⟨_, _, _, _, _, _, _, _, _, _, _, _, _, _, _, eb0, ec0⟩, ed0, ee0, ef0, eg0⟩
  have t_BadSize : XfC K C0 := ⟨eh0, ei0, ee0, ej0⟩
  have m_BadSize : mg "BadSize" = some (.ref C0) := PySem.W.mg_of X G ea0
  have n_BadSize := ek0
  have I_BadSize := fun_mk (st := s_init_BadSize) en0 eo0 ep0
  have bI_BadSize := I_BadSize.binds (ps := ["self", "size"]) fun _ _ _ _ _ _ us hl => match us, hl with | [_, _], _ => rfl
  have T_BadRatio : OexC K C1 := ⟨⟨_, _, _, _, _, _, _, _, _, _, _, _, _, _, _, eb1, ec1⟩, ed1, ee1, ef1, eg1⟩
  have t_BadRatio : XfC K C1 := ⟨eh1, ei1, ee1, ej1⟩
  have m_BadRatio : mg "BadRatio" = some (.ref C1) := PySem.W.mg_of X G ea1
  have n_BadRatio := ek1
  have I_BadRatio := fun_mk (st := s_init_BadRatio) en1 eo1 ep1
  have bI_BadRatio := I_BadRatio.binds (ps := ["self", "bottom"]) fun _ _ _ _ _ _ us hl => match us, hl with | [_, _], _ => rfl
  have T_BadUnit : OexC K C2 := ⟨⟨_, _, _, _, _, _, _, _, _, _, _, _, _, _, _, eb2, ec2⟩, ed2, ee2, ef2, eg2⟩
  have t_BadUnit : XfC K C2 := ⟨eh2, ei2, ee2, ej2⟩
  have m_BadUnit : mg "BadUnit" = some (.ref C2) := PySem.W.mg_of X G ea2
  have n_BadUnit := ek2
  have I_BadUnit := fun_mk (st := s_init_BadUnit) en2 eo2 ep2
  have bI_BadUnit := I_BadUnit.binds (ps := ["self", "unit"]) fun _ _ _ _ _ _ us hl => match us, hl with | [_, _], _ => rfl
  have T_NoSignal : OexC K C3 := ⟨⟨_, _, _, _, _, _, _, _, _, _, _, _, _, _, _, eb3, ec3⟩, ed3, ee3, ef3, eg3⟩
  have t_NoSignal : XfC K C3 := ⟨eh3, ei3, ee3, ej3⟩
  have m_NoSignal : mg "NoSignal" = some (.ref C3) := PySem.W.mg_of X G ea3
  have n_NoSignal := ek3
  have I_NoSignal := fun_mk (st := s_init_NoSignal) en3 eo3 ep3
  have bI_NoSignal := I_NoSignal.binds (ps := ["self", "signal"]) fun _ _ _ _ _ _ us hl => match us, hl with | [_, _], _ => rfl
  have T_BadRow : OexC K C4 := ⟨⟨_, _, _, _, _, _, _, _, _, _, _, _, _, _, _, eb4, ec4⟩, ed4, ee4, ef4, eg4⟩
  have t_BadRow : XfC K C4 := ⟨eh4, ei4, ee4, ej4⟩
  have m_BadRow : mg "BadRow" = some (.ref C4) := PySem.W.mg_of X G ea4
  have n_BadRow := ek4
  have I_BadRow := fun_mk (st := s_init_BadRow) en4 eo4 ep4
  have bI_BadRow := I_BadRow.binds (ps := ["self", "index"]) fun _ _ _ _ _ _ us hl => match us, hl with | [_, _], _ => rfl
  have T_NoState : OexC K C5 := ⟨⟨_, _, _, _, _, _, _, _, _, _, _, _, _, _, _, eb5, ec5⟩, ed5, ee5, ef5, eg5⟩
  have t_NoState : XfC K C5 := ⟨eh5, ei5, ee5, ej5⟩
  have m_NoState : mg "NoState" = some (.ref C5) := PySem.W.mg_of X G ea5
  have n_NoState := ek5
  have I_NoState := fun_mk (st := s_init_NoState) en5 eo5 ep5
  have bI_NoState := I_NoState.binds (ps := ["self", "state"]) fun _ _ _ _ _ _ us hl => match us, hl with | [_, _], _ => rfl
  have m_Mismatch : mg "Mismatch" = some (.ref C6) := PySem.W.mg_of X G ea6
  have m_BadWeights : mg "BadWeights" = some (.ref C7) := PySem.W.mg_of X G ea7
  have tabOk : Tab.Ok ⟨K, mg, l.prog, w⟩ tab := tab_of fun e he => by
    simp only [tab, List.mem_cons, List.not_mem_nil, or_false] at he
    rcases he with rfl | rfl | rfl | rfl | rfl | rfl | rfl | rfl | rfl | rfl | rfl | rfl | rfl | rfl | rfl | rfl | rfl | rfl | rfl | rfl | rfl | rfl | rfl | rfl | rfl | rfl | rfl | rfl | rfl | rfl | rfl | rfl | rfl | rfl | rfl | rfl | rfl | rfl | rfl | rfl | rfl | rfl | rfl | rfl | rfl | rfl | rfl | rfl | rfl | rfl | rfl | rfl | rfl | rfl | rfl | rfl | rfl | rfl | rfl | rfl | rfl | rfl | rfl | rfl
    · exact ⟨_, _, m_BadSize, m_BadSize, PySem.W.exm_ref ee0 ej0 ef0 es0_0⟩
    · exact ⟨_, _, m_BadSize, m_BadRatio, PySem.W.exm_ref ee1 ej1 ef1 es0_1⟩
    · exact ⟨_, _, m_BadSize, m_BadUnit, PySem.W.exm_ref ee2 ej2 ef2 es0_2⟩
    · exact ⟨_, _, m_BadSize, m_NoSignal, PySem.W.exm_ref ee3 ej3 ef3 es0_3⟩
    · exact ⟨_, _, m_BadSize, m_BadRow, PySem.W.exm_ref ee4 ej4 ef4 es0_4⟩
    · exact ⟨_, _, m_BadSize, m_NoState, PySem.W.exm_ref ee5 ej5 ef5 es0_5⟩
    · exact ⟨_, _, m_BadSize, m_Mismatch, PySem.W.exm_ref ee6 ej6 ef6 es0_6⟩
    · exact ⟨_, _, m_BadSize, m_BadWeights, PySem.W.exm_ref ee7 ej7 ef7 es0_7⟩
    · exact ⟨_, _, m_BadRatio, m_BadSize, PySem.W.exm_ref ee0 ej0 ef0 es1_0⟩
    · exact ⟨_, _, m_BadRatio, m_BadRatio, PySem.W.exm_ref ee1 ej1 ef1 es1_1⟩
    · exact ⟨_, _, m_BadRatio, m_BadUnit, PySem.W.exm_ref ee2 ej2 ef2 es1_2⟩
    · exact ⟨_, _, m_BadRatio, m_NoSignal, PySem.W.exm_ref ee3 ej3 ef3 es1_3⟩
    · exact ⟨_, _, m_BadRatio, m_BadRow, PySem.W.exm_ref ee4 ej4 ef4 es1_4⟩
    · exact ⟨_, _, m_BadRatio, m_NoState, PySem.W.exm_ref ee5 ej5 ef5 es1_5⟩
    · exact ⟨_, _, m_BadRatio, m_Mismatch, PySem.W.exm_ref ee6 ej6 ef6 es1_6⟩
    · exact ⟨_, _, m_BadRatio, m_BadWeights, PySem.W.exm_ref ee7 ej7 ef7 es1_7⟩
    · exact ⟨_, _, m_BadUnit, m_BadSize, PySem.W.exm_ref ee0 ej0 ef0 es2_0⟩
    · exact ⟨_, _, m_BadUnit, m_BadRatio, PySem.W.exm_ref ee1 ej1 ef1 es2_1⟩
    · exact ⟨_, _, m_BadUnit, m_BadUnit, PySem.W.exm_ref ee2 ej2 ef2 es2_2⟩
    · exact ⟨_, _, m_BadUnit, m_NoSignal, PySem.W.exm_ref ee3 ej3 ef3 es2_3⟩
    · exact ⟨_, _, m_BadUnit, m_BadRow, PySem.W.exm_ref ee4 ej4 ef4 es2_4⟩
    · exact ⟨_, _, m_BadUnit, m_NoState, PySem.W.exm_ref ee5 ej5 ef5 es2_5⟩
    · exact ⟨_, _, m_BadUnit, m_Mismatch, PySem.W.exm_ref ee6 ej6 ef6 es2_6⟩
    · exact ⟨_, _, m_BadUnit, m_BadWeights, PySem.W.exm_ref ee7 ej7 ef7 es2_7⟩
    · exact ⟨_, _, m_NoSignal, m_BadSize, PySem.W.exm_ref ee0 ej0 ef0 es3_0⟩
    · exact ⟨_, _, m_NoSignal, m_BadRatio, PySem.W.exm_ref ee1 ej1 ef1 es3_1⟩
    · exact ⟨_, _, m_NoSignal, m_BadUnit, PySem.W.exm_ref ee2 ej2 ef2 es3_2⟩
    · exact ⟨_, _, m_NoSignal, m_NoSignal, PySem.W.exm_ref ee3 ej3 ef3 es3_3⟩
    · exact ⟨_, _, m_NoSignal, m_BadRow, PySem.W.exm_ref ee4 ej4 ef4 es3_4⟩
    · exact ⟨_, _, m_NoSignal, m_NoState, PySem.W.exm_ref ee5 ej5 ef5 es3_5⟩
    · exact ⟨_, _, m_NoSignal, m_Mismatch, PySem.W.exm_ref ee6 ej6 ef6 es3_6⟩
    · exact ⟨_, _, m_NoSignal, m_BadWeights, PySem.W.exm_ref ee7 ej7 ef7 es3_7⟩
    · exact ⟨_, _, m_BadRow, m_BadSize, PySem.W.exm_ref ee0 ej0 ef0 es4_0⟩
    · exact ⟨_, _, m_BadRow, m_BadRatio, PySem.W.exm_ref ee1 ej1 ef1 es4_1⟩
    · exact ⟨_, _, m_BadRow, m_BadUnit, PySem.W.exm_ref ee2 ej2 ef2 es4_2⟩
    · exact ⟨_, _, m_BadRow, m_NoSignal, PySem.W.exm_ref ee3 ej3 ef3 es4_3⟩
    · exact ⟨_, _, m_BadRow, m_BadRow, PySem.W.exm_ref ee4 ej4 ef4 es4_4⟩
    · exact ⟨_, _, m_BadRow, m_NoState, PySem.W.exm_ref ee5 ej5 ef5 es4_5⟩
    · exact ⟨_, _, m_BadRow, m_Mismatch, PySem.W.exm_ref ee6 ej6 ef6 es4_6⟩
    · exact ⟨_, _, m_BadRow, m_BadWeights, PySem.W.exm_ref ee7 ej7 ef7 es4_7⟩
    · exact ⟨_, _, m_NoState, m_BadSize, PySem.W.exm_ref ee0 ej0 ef0 es5_0⟩
    · exact ⟨_, _, m_NoState, m_BadRatio, PySem.W.exm_ref ee1 ej1 ef1 es5_1⟩
    · exact ⟨_, _, m_NoState, m_BadUnit, PySem.W.exm_ref ee2 ej2 ef2 es5_2⟩
    · exact ⟨_, _, m_NoState, m_NoSignal, PySem.W.exm_ref ee3 ej3 ef3 es5_3⟩
    · exact ⟨_, _, m_NoState, m_BadRow, PySem.W.exm_ref ee4 ej4 ef4 es5_4⟩
    · exact ⟨_, _, m_NoState, m_NoState, PySem.W.exm_ref ee5 ej5 ef5 es5_5⟩
    · exact ⟨_, _, m_NoState, m_Mismatch, PySem.W.exm_ref ee6 ej6 ef6 es5_6⟩
    · exact ⟨_, _, m_NoState, m_BadWeights, PySem.W.exm_ref ee7 ej7 ef7 es5_7⟩
    · exact ⟨_, _, m_Mismatch, m_BadSize, PySem.W.exm_ref ee0 ej0 ef0 es6_0⟩
    · exact ⟨_, _, m_Mismatch, m_BadRatio, PySem.W.exm_ref ee1 ej1 ef1 es6_1⟩
    · exact ⟨_, _, m_Mismatch, m_BadUnit, PySem.W.exm_ref ee2 ej2 ef2 es6_2⟩
    · exact ⟨_, _, m_Mismatch, m_NoSignal, PySem.W.exm_ref ee3 ej3 ef3 es6_3⟩
    · exact ⟨_, _, m_Mismatch, m_BadRow, PySem.W.exm_ref ee4 ej4 ef4 es6_4⟩
    · exact ⟨_, _, m_Mismatch, m_NoState, PySem.W.exm_ref ee5 ej5 ef5 es6_5⟩
    · exact ⟨_, _, m_Mismatch, m_Mismatch, PySem.W.exm_ref ee6 ej6 ef6 es6_6⟩
    · exact ⟨_, _, m_Mismatch, m_BadWeights, PySem.W.exm_ref ee7 ej7 ef7 es6_7⟩
    · exact ⟨_, _, m_BadWeights, m_BadSize, PySem.W.exm_ref ee0 ej0 ef0 es7_0⟩
    · exact ⟨_, _, m_BadWeights, m_BadRatio, PySem.W.exm_ref ee1 ej1 ef1 es7_1⟩
    · exact ⟨_, _, m_BadWeights, m_BadUnit, PySem.W.exm_ref ee2 ej2 ef2 es7_2⟩
    · exact ⟨_, _, m_BadWeights, m_NoSignal, PySem.W.exm_ref ee3 ej3 ef3 es7_3⟩
    · exact ⟨_, _, m_BadWeights, m_BadRow, PySem.W.exm_ref ee4 ej4 ef4 es7_4⟩
    · exact ⟨_, _, m_BadWeights, m_NoState, PySem.W.exm_ref ee5 ej5 ef5 es7_5⟩
    · exact ⟨_, _, m_BadWeights, m_Mismatch, PySem.W.exm_ref ee6 ej6 ef6 es7_6⟩
    · exact ⟨_, _, m_BadWeights, m_BadWeights, PySem.W.exm_ref ee7 ej7 ef7 es7_7⟩
  refine ⟨PySem.W.fnOf "law" "law" (defArgs s_law) (defBody s_law) (defScope s_law) .none kV36 dc36 pm36 an36 cd36 ct36, fun s v => .of_eq rfl, fun base _ _ => ?_⟩
  have e_BadSize : OkErr l.prog w K mg base "BadSize" "size" := okErr m_BadSize T_BadSize n_BadSize el0 em0 I_BadSize sc_init_BadSize bI_BadSize (by decide) (by decide) (fun _ _ => ⟨Or.inl rfl, Or.inl rfl⟩) rfl
  have e_BadRatio : OkErr l.prog w K mg base "BadRatio" "bottom" := okErr m_BadRatio T_BadRatio n_BadRatio el1 em1 I_BadRatio sc_init_BadRatio bI_BadRatio (by decide) (by decide) (fun _ _ => ⟨Or.inl rfl, Or.inl rfl⟩) rfl
  have e_BadUnit : OkErr l.prog w K mg base "BadUnit" "unit" := okErr m_BadUnit T_BadUnit n_BadUnit el2 em2 I_BadUnit sc_init_BadUnit bI_BadUnit (by decide) (by decide) (fun _ _ => ⟨Or.inl rfl, Or.inl rfl⟩) rfl
  have e_NoSignal : OkErr l.prog w K mg base "NoSignal" "signal" := okErr m_NoSignal T_NoSignal n_NoSignal el3 em3 I_NoSignal sc_init_NoSignal bI_NoSignal (by decide) (by decide) (fun _ _ => ⟨Or.inl rfl, Or.inl rfl⟩) rfl
  have e_BadRow : OkErr l.prog w K mg base "BadRow" "index" := okErr m_BadRow T_BadRow n_BadRow el4 em4 I_BadRow sc_init_BadRow bI_BadRow (by decide) (by decide) (fun _ _ => ⟨Or.inl rfl, Or.inl rfl⟩) rfl
  have e_NoState : OkErr l.prog w K mg base "NoState" "state" := okErr m_NoState T_NoState n_NoState el5 em5 I_NoState sc_init_NoState bI_NoState (by decide) (by decide) (fun _ _ => ⟨Or.inl rfl, Or.inl rfl⟩) rfl
  have e_Mismatch : OkErr0 l.prog w K mg base "Mismatch" := ⟨C6, _, m_Mismatch, eb6, rfl, eg6, ee6, ef6⟩
  have e_BadWeights : OkErr0 l.prog w K mg base "BadWeights" := ⟨C7, _, m_BadWeights, eb7, rfl, eg7, ee7, ef7⟩
  have o_is_integer := ok_is_integer (P := l.prog) (w := w) (base := base) F0 (PySem.W.mg_of X G a0) b0 g_isinstance g_int g_bool
  have o_check_same_states := ok_check_same_states (P := l.prog) (w := w) (base := base) F5 (PySem.W.mg_of X G a5) b5 cok e_Mismatch
  have o_common := ok_common (P := l.prog) (w := w) (base := base) F7 (PySem.W.mg_of X G a7) b7 g_lcm
  have o_lowest := ok_lowest (P := l.prog) (w := w) (base := base) F8 (PySem.W.mg_of X G a8) b8 g_gcd g_list
  have o_lowest_rows := ok_lowest_rows (P := l.prog) (w := w) (base := base) F11 (PySem.W.mg_of X G a11) b11 g_gcd g_tuple
  have o_turned := ok_turned (P := l.prog) (w := w) (base := base) F12 (PySem.W.mg_of X G a12) b12 g_zip g_list
  have o_Experiment_rows := ok_Experiment_rows (P := l.prog) (w := w) (base := base) F14 m_Experiment cl_Experiment ⟨a14, i14, k14⟩ y14 b14 cok g_list
  have o_Experiment___eq := ok_Experiment___eq (P := l.prog) (w := w) (base := base) F15 m_Experiment cl_Experiment ⟨a15, i15, k15⟩ y15 b15 g_isinstance cok m_Experiment
  have o_law_pool := ok_law_pool (P := l.prog) (w := w) (base := base) F21 (PySem.W.mg_of X G a21) b21 g_list
  have o_law_take := ok_law_take (P := l.prog) (w := w) (base := base) F22 (PySem.W.mg_of X G a22) b22 g_int g_max g_len
  have o_law_is := ok_law_is (P := l.prog) (w := w) (base := base) F23 (PySem.W.mg_of X G a23) b23 g_isinstance g_bool
  have o_law_is_number := ok_law_is_number (P := l.prog) (w := w) (base := base) F24 (PySem.W.mg_of X G a24) b24 g_isinstance g_int g_bool
  have o_law_divisor := ok_law_divisor (P := l.prog) (w := w) (base := base) F25 (PySem.W.mg_of X G a25) b25 g_abs g_int
  have o_is_number_below := ok_is_number_below (P := l.prog) (w := w) (base := base) F1 (PySem.W.mg_of X G a1) b1 o_is_integer
  have o_are_integers := ok_are_integers (P := l.prog) (w := w) (base := base) F2 (PySem.W.mg_of X G a2) b2 g_isinstance g_list g_tuple g_all o_is_integer
  have o_groups := ok_groups (P := l.prog) (w := w) (base := base) F20 (PySem.W.mg_of X G a20) b20 g_enumerate g_sum g_tuple o_lowest o_common g_zip g_sorted g_list
  have o_law_lowest := ok_law_lowest (P := l.prog) (w := w) (base := base) F26 (PySem.W.mg_of X G a26) b26 o_law_divisor
  have o_law_row := ok_law_row (P := l.prog) (w := w) (base := base) F27 (PySem.W.mg_of X G a27) b27 g_range o_law_take
  have o_law_prior := ok_law_prior (P := l.prog) (w := w) (base := base) F30 (PySem.W.mg_of X G a30) b30 g_range o_law_take g_sum
  have o_law_due := ok_law_due (P := l.prog) (w := w) (base := base) F33 (PySem.W.mg_of X G a33) b33 o_law_is_number g_len g_sum g_range g_int
  have o_law_with_empty := ok_law_with_empty (P := l.prog) (w := w) (base := base) F34 (PySem.W.mg_of X G a34) b34 o_law_take g_len
  have o_are_amounts := ok_are_amounts (P := l.prog) (w := w) (base := base) F3 (PySem.W.mg_of X G a3) b3 o_are_integers g_all
  have o_check_states := ok_check_states (P := l.prog) (w := w) (base := base) F6 (PySem.W.mg_of X G a6) b6 o_is_integer g_MOST_STATES e_BadSize
  have o_check_unit := ok_check_unit (P := l.prog) (w := w) (base := base) F9 (PySem.W.mg_of X G a9) b9 o_is_integer e_BadUnit
  have o_law_rows := ok_law_rows (P := l.prog) (w := w) (base := base) F28 (PySem.W.mg_of X G a28) b28 g_range o_law_row
  have o_law_shows := ok_law_shows (P := l.prog) (w := w) (base := base) F31 (PySem.W.mg_of X G a31) b31 o_law_lowest cok o_Experiment_rows
  have o_are_weights := ok_are_weights (P := l.prog) (w := w) (base := base) F4 (PySem.W.mg_of X G a4) b4 o_are_amounts g_sum
  have o_check_rows := ok_check_rows (P := l.prog) (w := w) (base := base) F10 (PySem.W.mg_of X G a10) b10 g_enumerate o_are_amounts g_len g_sum e_BadRow
  have o_law_table := ok_law_table (P := l.prog) (w := w) (base := base) F29 (PySem.W.mg_of X G a29) b29 o_law_take o_law_rows
  have o_Experiment := ok_Experiment___init (P := l.prog) (w := w) (base := base) F13 m_Experiment ⟨gfExperiment, a13, i13, ggExperiment⟩ b13 o_check_unit g_len o_check_states o_check_rows o_lowest_rows cok c_Experiment n_Experiment_states n_Experiment_signals n_Experiment_unit n_Experiment_rows
  have o_standard := ok_standard (P := l.prog) (w := w) (base := base) F16 (PySem.W.mg_of X G a16) b16 o_turned o_Experiment_rows o_groups g_sum o_Experiment cok
  have o_split := ok_split (P := l.prog) (w := w) (base := base) F18 (PySem.W.mg_of X G a18) b18 o_is_number_below cok e_NoSignal o_are_weights e_BadWeights g_sum g_enumerate o_turned o_Experiment_rows o_Experiment
  have o_without_empty := ok_without_empty (P := l.prog) (w := w) (base := base) F19 (PySem.W.mg_of X G a19) b19 o_Experiment o_turned o_Experiment_rows g_sum cok
  have o_alike := ok_alike (P := l.prog) (w := w) (base := base) F17 (PySem.W.mg_of X G a17) b17 o_check_same_states o_standard o_Experiment___eq cok
  have o_law_told := ok_law_told (P := l.prog) (w := w) (base := base) F32 (PySem.W.mg_of X G a32) b32 o_split m_NoSignal t_NoSignal n_NoSignal tabOk m_BadWeights tabOk
  have o_law_splits_again := ok_law_splits_again (P := l.prog) (w := w) (base := base) F35 (PySem.W.mg_of X G a35) b35 g_len o_law_shows o_law_due o_split
  exact ok_law F36 o_law_pool o_law_take o_law_table o_law_with_empty g_len o_law_prior g_list o_Experiment o_law_due o_law_told g_tuple o_law_shows o_Experiment___eq cok o_law_splits_again g_isinstance g_str o_law_is o_alike g_range g_sum o_without_empty
theorem walk {l : PySem.W.OpenLaw} {q : Program} {loose : List Str} {XP : (Str → Option Value) → Heap → Prop} {YP : World → Heap → Prop} {d : DefRec} {K : Params → PySem.W.Frag} (hn : l.most = some 63) (hdf : d.params.defaults = [])
    (hY : ∀ (w : World) (h : Heap), YP w h → (K w.params).In h)
    (F : ∀ (w : World) (mg : Str → Option Value) (fa : Addr) (h : Heap), (K w.params).In h → h.Ns mainGlobals mg → mg d.name = some (.ref fa) →
      ∃ fd : FuncData, (∀ (s : Shared) (u : Value), BindsTo s fd ⟨[u], []⟩ [("_law_script", u)]) ∧ ∀ base : Heap, (K w.params).In base → base.Ns mainGlobals mg → FnOk l.prog w (K w.params) mg base CX0 9 fa fd ["_law_script"] (spLaw (K w.params))) :
    PySem.W.WalkO q loose XP YP l.row.toRowW d [] (fun f vs => PySem.call f vs) :=
  L2.walk_of (n := 63) (k := 9) (x := "_law_script") (CX := fun _ => CX0) (sp := fun w => spLaw (K w.params)) hn (by decide) hdf ⟨rfl, by decide, by decide⟩ hY F (fun _ _ a ns hl _ hS => ⟨a, ns, rfl, hS, hl, fun _ => rfl⟩) fun _ _ _ _ _ z => z
end Lw
open PySem PySem.W PyProof.Rows
def PySem.W.Fast.tw4470268283918629816 : Unit := ()
def PySem.W.Fast.tw633918222322455052 : Unit := ()
def PySem.W.Fast.tw13244190949146358472 : Unit := ()
def PySem.W.Fast.tw13869392363821301037 : Unit := ()
def PySem.W.Fast.tw16943270577449900353 : Unit := ()
def PySem.W.Fast.tw17787848402519712196 : Unit := ()
def PySem.W.Fast.tw13985588828416480079 : Unit := ()
def PySem.W.Fast.tw14127371482583654776 : Unit := ()
def PySem.W.Fast.tw7175563698461337540 : Unit := ()
def PySem.W.Fast.tw9913061885738625108 : Unit := ()
def PySem.W.Fast.tw2268471475210430538 : Unit := ()
def PySem.W.Fast.tw8974219680217156876 : Unit := ()
def PySem.W.Fast.tw9083524062637330848 : Unit := ()
def PySem.W.Fast.tw17055713818638369929 : Unit := ()
def PySem.W.Fast.tw6613592274970487841 : Unit := ()
def PySem.W.Fast.tw12288551394002339841 : Unit := ()
def PySem.W.Fast.tw17514464963752006002 : Unit := ()
def PySem.W.Fast.tw15778342955712980101 : Unit := ()
def PySem.W.Fast.tw892575112107209257 : Unit := ()
def PySem.W.Fast.tw7777668220452405535 : Unit := ()
def PySem.W.Fast.tw10121391404105720283 : Unit := ()
def PySem.W.Fast.tw497194409150911115 : Unit := ()
def PySem.W.Fast.tw8945312144289268309 : Unit := ()
def PySem.W.Fast.tw3797699457291506714 : Unit := ()
def PySem.W.Fast.tw13870960602187255625 : Unit := ()
def PySem.W.Fast.tw11967454128889014297 : Unit := ()
def PySem.W.Fast.tw3629595629184398734 : Unit := ()
def PySem.W.Fast.tw2034883186834461020 : Unit := ()
def PySem.W.Fast.tw3378247358138441152 : Unit := ()
def PySem.W.Fast.tw11140119299843517856 : Unit := ()
def PySem.W.Fast.tw7233752977454748973 : Unit := ()
def PySem.W.Fast.tw4908693249557304280 : Unit := ()
def PySem.W.Fast.tw17427728735096128052 : Unit := ()
def PySem.W.Fast.tw11380136979138864630 : Unit := ()
def PySem.W.Fast.tw7127641857565273669 : Unit := ()
def PySem.W.Fast.tw15445668318490230202 : Unit := ()
def PySem.W.Fast.tw4362392060554518350 : Unit := ()
def PySem.W.Fast.tw1981107038229119341 : Unit := ()
def PySem.W.Fast.tw6801789227963781201 : Unit := ()
def PySem.W.Fast.tw14051200100392709721 : Unit := ()
def PySem.W.Fast.tw8713185519616942581 : Unit := ()
def PySem.W.Fast.tw15065919765204052396 : Unit := ()
def PySem.W.Fast.tw145935839793547203 : Unit := ()
def PySem.W.Fast.tw17235166536727512084 : Unit := ()
def PySem.W.Fast.tw5743162989280695791 : Unit := ()
def PySem.W.Fast.tw2995543213502279272 : Unit := ()
def PySem.W.Fast.tw8764511517206592465 : Unit := ()
def PySem.W.Fast.tw1911446114330181242 : Unit := ()
def PySem.W.Fast.tw4642855819252225676 : Unit := ()
def PySem.W.Fast.tw15999285888829481334 : Unit := ()
def PySem.W.Fast.tw589771792386715744 : Unit := ()
def PySem.W.Fast.tw9862312923964057805 : Unit := ()
def PySem.W.Fast.tw14938067804029792060 : Unit := ()
def PySem.W.Fast.tw4610444931254831115 : Unit := ()
def PySem.W.Fast.tw14932497930250238848 : Unit := ()
def PySem.W.Fast.tw17711576203919376879 : Unit := ()
def PySem.W.Fast.tw11391204104296877797 : Unit := ()
def PySem.W.Fast.tw1640850267717482216 : Unit := ()
def PySem.W.Fast.tw9476709177382219925 : Unit := ()
def PySem.W.Fast.tw9505541109360359739 : Unit := ()
def PySem.W.Fast.tw8798311007079608744 : Unit := ()
def PySem.W.Fast.tw1013035817138234442 : Unit := ()
def PySem.W.Fast.tw5598471074415817506 : Unit := ()
def PySem.W.Fast.tw14314853235532638731 : Unit := ()
def PySem.W.Fast.tw6891089404585632057 : Unit := ()
def PySem.W.Fast.tw16101908389428749133 : Unit := ()
def PySem.W.Fast.tw8624470564003970716 : Unit := ()
def PySem.W.Fast.tw18438600476953810622 : Unit := ()
def PySem.W.Fast.tw9954101093722399310 : Unit := ()
def PySem.W.Fast.tw17882005943328910820 : Unit := ()
def PySem.W.Fast.tw18289886224487938813 : Unit := ()
def PySem.W.Fast.tw15799779277400099167 : Unit := ()
def PySem.W.Fast.tw5101545838204407466 : Unit := ()
def PySem.W.Fast.tw12339646538248253701 : Unit := ()
def PySem.W.Fast.tw4637468083298973835 : Unit := ()
def PySem.W.Fast.tw2881527082686157985 : Unit := ()
def PySem.W.Fast.tw5351735000826945558 : Unit := ()
def PySem.W.Fast.tw15992875293410115560 : Unit := ()
def PySem.W.Fast.tw14612998018588129675 : Unit := ()
def PySem.W.Fast.tw1412721933245036884 : Unit := ()
def PySem.W.Fast.tw3240638094125008569 : Unit := ()
def PySem.W.Fast.tw3427530748005399835 : Unit := ()
def PySem.W.Fast.tw14916929046623057174 : Unit := ()
def PySem.W.Fast.tw13772878735268950272 : Unit := ()
def PySem.W.Fast.tw11385432002023372705 : Unit := ()
def PySem.W.Fast.tw13383983993504679164 : Unit := ()
def PySem.W.Fast.tw5962754812781852101 : Unit := ()
def PySem.W.Fast.tw1901129261107012541 : Unit := ()
def PySem.W.Fast.tw2733792109591576139 : Unit := ()
def PySem.W.Fast.tw2742586609078179220 : Unit := ()
def PySem.W.Fast.tw8401208198038785108 : Unit := ()
def PySem.W.Fast.tw11379306046480100294 : Unit := ()
def PySem.W.Fast.tw12992500627263821340 : Unit := ()
def PySem.W.Fast.tw2287001002528656341 : Unit := ()
def PySem.W.Fast.tw5970963061481086155 : Unit := ()
def PySem.W.Fast.tw801241472172178729 : Unit := ()
def PySem.W.Fast.tw6232218187220302693 : Unit := ()
def PySem.W.Fast.tw17401229701179604764 : Unit := ()
def PySem.W.Fast.tw7114779081298711576 : Unit := ()
def PySem.W.Fast.tw17690030359939456561 : Unit := ()
def PySem.W.Fast.tw5162566227475730942 : Unit := ()
def PySem.W.Fast.tw17426859367896027700 : Unit := ()
def PySem.W.Fast.tw12075252910029797923 : Unit := ()
def PySem.W.Fast.tw13974355645749628378 : Unit := ()
def PySem.W.Fast.tw12367244659214640459 : Unit := ()
def PySem.W.Fast.tw18005886480536059960 : Unit := ()
def PySem.W.Fast.tw563783204389463428 : Unit := ()
def PySem.W.Fast.tw9629931049268177949 : Unit := ()
def PySem.W.Fast.tw13233670462175208655 : Unit := ()
def PySem.W.Fast.tw4274687648085621028 : Unit := ()
def PySem.W.Fast.tw4623177116002857990 : Unit := ()
def PySem.W.Fast.tw4013686654519836179 : Unit := ()
def PySem.W.Fast.tw7578049955228234940 : Unit := ()
def PySem.W.Fast.tw11786957941895401644 : Unit := ()
def PySem.W.Fast.tw4340243356510363096 : Unit := ()
def PySem.W.Fast.tw2418479566004965295 : Unit := ()
def PySem.W.Fast.tw11391757653450046750 : Unit := ()
def PySem.W.Fast.tw3524518302578118016 : Unit := ()
def PySem.W.Fast.tw2199578282589317365 : Unit := ()
def PySem.W.Fast.tw6850332652503041620 : Unit := ()
def PySem.W.Fast.tw12677783620213446301 : Unit := ()
def PySem.W.Fast.tw13242387687012999813 : Unit := ()
def PySem.W.Fast.tw8154600383552922587 : Unit := ()
def PySem.W.Fast.tw11384862805069965733 : Unit := ()
def PySem.W.Fast.tw1814871532427532848 : Unit := ()
def PySem.W.Fast.tw9264701934131973003 : Unit := ()
def PySem.W.Fast.tw17146585099793178901 : Unit := ()
def PySem.W.Fast.tw11702302049040893258 : Unit := ()
def PySem.W.Fast.tw1373907067234816550 : Unit := ()
def PySem.W.Fast.tw2237459535453892829 : Unit := ()
def PySem.W.Fast.tw7439162734691263711 : Unit := ()
def PySem.W.Fast.tw10820547216216318136 : Unit := ()
def PySem.W.Fast.tw14208956102174793790 : Unit := ()
def PySem.W.Fast.tw16201448326812862421 : Unit := ()
def PySem.W.Fast.tw15978436340386193752 : Unit := ()
def PySem.W.Fast.tw13313009191870365277 : Unit := ()
def PySem.W.Fast.tw15119547706977724582 : Unit := ()
def PySem.W.Fast.tw7595987865084915546 : Unit := ()
def PySem.W.Fast.tw1569074864971736138 : Unit := ()
def PySem.W.Fast.tw18120910749219586613 : Unit := ()
def PySem.W.Fast.tw14112392868481950071 : Unit := ()
def PySem.W.Fast.tw5922367641410503360 : Unit := ()
def PySem.W.Fast.tw2966836689854673239 : Unit := ()
def PySem.W.Fast.tw8618967943550667055 : Unit := ()
def PySem.W.Fast.tw5285103494683094488 : Unit := ()
def PySem.W.Fast.tw12855654713418574432 : Unit := ()
def PySem.W.Fast.tw15105674698457063216 : Unit := ()
def PySem.W.Fast.tw6432677824235965796 : Unit := ()
def PySem.W.Fast.tw152667232222270032 : Unit := ()
def PySem.W.Fast.tw2136402338076593501 : Unit := ()
def PySem.W.Fast.tw2355592021782033645 : Unit := ()
def PySem.W.Fast.tw11162982692648933456 : Unit := ()
def PySem.W.Fast.tw4546997670779199637 : Unit := ()
def PySem.W.Fast.tw16294324378761612458 : Unit := ()
def PySem.W.Fast.tw11631419309377121382 : Unit := ()
def PySem.W.Fast.tw11049455183721955653 : Unit := ()
def PySem.W.Fast.tw1061110919173316777 : Unit := ()
def PySem.W.Fast.tw37200422080206774 : Unit := ()
def PySem.W.Fast.tw15687360116737008261 : Unit := ()
def PySem.W.Fast.tw3020716833647268320 : Unit := ()
def PySem.W.Fast.tw11861156630987998036 : Unit := ()
def PySem.W.Fast.tw2825629674612013339 : Unit := ()
def PySem.W.Fast.tw13646801269566397046 : Unit := ()
def PySem.W.Fast.tw13060160602770719209 : Unit := ()
def PySem.W.Fast.tw6177093745550507394 : Unit := ()
def PySem.W.Fast.tw5300042333038587437 : Unit := ()
def PySem.W.Fast.tw17361217395743506579 : Unit := ()
def PySem.W.Fast.tw12592288268233765113 : Unit := ()
def PySem.W.Fast.tw804623464200078671 : Unit := ()
def PySem.W.Fast.tw10370595906135261402 : Unit := ()
def PySem.W.Fast.tw9066994328113954043 : Unit := ()
def PySem.W.Fast.tw6999005429435401790 : Unit := ()
def PySem.W.Fast.tw3551089362071655459 : Unit := ()
def PySem.W.Fast.tw174754841398583223 : Unit := ()
def PySem.W.Fast.tw636811488377165483 : Unit := ()
def PySem.W.Fast.tw7452922664440961889 : Unit := ()
def PySem.W.Fast.tw4428344403610461144 : Unit := ()
def PySem.W.Fast.tw16109277859516941891 : Unit := ()
def PySem.W.Fast.tw14304421706190384113 : Unit := ()
def PySem.W.Fast.tw7415388758145155354 : Unit := ()
def PySem.W.Fast.tw5874284314396321022 : Unit := ()
def PySem.W.Fast.tw7105714762811105530 : Unit := ()
def PySem.W.Fast.tw1977861167131347521 : Unit := ()
def PySem.W.Fast.tw11608761031015675857 : Unit := ()
def PySem.W.Fast.tw11830010479766857732 : Unit := ()
def PySem.W.Fast.tw15100025089636690130 : Unit := ()
def PySem.W.Fast.tw13839166018365022737 : Unit := ()
def PySem.W.Fast.tw805030995349600948 : Unit := ()
def PySem.W.Fast.tw3028661018605150107 : Unit := ()
def PySem.W.Fast.tw14121920999317890343 : Unit := ()
def PySem.W.Fast.tw18149632318489378214 : Unit := ()
def PySem.W.Fast.tw9718377776114264102 : Unit := ()
def PySem.W.Fast.tw2821772713138960275 : Unit := ()
def PySem.W.Fast.tw3110968223602518536 : Unit := ()
def PySem.W.Fast.tw11991509560048878487 : Unit := ()
def PySem.W.Fast.tw14469859425491145755 : Unit := ()
def PySem.W.Fast.tw1776384081358952336 : Unit := ()
def PySem.W.Fast.tw6071192201766011939 : Unit := ()
def PySem.W.Fast.tw11750750490297336864 : Unit := ()
def PySem.W.Fast.tw16803767020717133873 : Unit := ()
def PySem.W.Fast.tw13420183367183395493 : Unit := ()
def PySem.W.Fast.tw13111874389714102577 : Unit := ()
def PySem.W.Fast.tw11179585959954027399 : Unit := ()
def PySem.W.Fast.tw1768551934538864767 : Unit := ()
def PySem.W.Fast.tw3554689534321308230 : Unit := ()
def PySem.W.Fast.tw16817914714763040894 : Unit := ()
def PySem.W.Fast.tw5824193582672955142 : Unit := ()
def PySem.W.Fast.tw16777584714743195827 : Unit := ()
def PySem.W.Fast.tw13400728395454742412 : Unit := ()
def PySem.W.Fast.tw1435513814887771829 : Unit := ()
def PySem.W.Fast.tw14535142675938082568 : Unit := ()
def PySem.W.Fast.tw1845153343087638137 : Unit := ()
def PySem.W.Fast.tw15318538875455804959 : Unit := ()
def PySem.W.Fast.tw1992274763982431963 : Unit := ()
def PySem.W.Fast.tw903947223432367290 : Unit := ()
def PySem.W.Fast.tw13019270028843807186 : Unit := ()
def PySem.W.Fast.tw13488743531577895123 : Unit := ()
def PySem.W.Fast.tw1117190139524902701 : Unit := ()
def PySem.W.Fast.tw11439555303456731131 : Unit := ()
def PySem.W.Fast.tw14221342151558133135 : Unit := ()
def PySem.W.Fast.tw917035372360912898 : Unit := ()
def PySem.W.Fast.tw700213950176096053 : Unit := ()
def PySem.W.Fast.tw5777989872002368226 : Unit := ()
def PySem.W.Fast.tw15957772791465614236 : Unit := ()
def PySem.W.Fast.tw17706475094288998322 : Unit := ()
def PySem.W.Fast.tw926926991052959249 : Unit := ()
def PySem.W.Fast.tw6372123176973028791 : Unit := ()
def PySem.W.Fast.tw13392017645142271375 : Unit := ()
def PySem.W.Fast.tw710653400337588856 : Unit := ()
def PySem.W.Fast.tw6797068255051082200 : Unit := ()
def PySem.W.Fast.tw1476761815068675142 : Unit := ()
def PySem.W.Fast.tw15057466166760377484 : Unit := ()
def PySem.W.Fast.tw10276220003992776631 : Unit := ()
def PySem.W.Fast.tw5095307507123688862 : Unit := ()
def PySem.W.Fast.tw8091227508673316951 : Unit := ()
def PySem.W.Fast.tw9128282584918473702 : Unit := ()
def PySem.W.Fast.tw1344951113173073825 : Unit := ()
def PySem.W.Fast.tw5087106336453325693 : Unit := ()
def PySem.W.Fast.tw5669686435995983709 : Unit := ()
def PySem.W.Fast.tw7034796758684069850 : Unit := ()
def PySem.W.Fast.tw12772353004267451268 : Unit := ()
def PySem.W.Fast.tw8519549516689663503 : Unit := ()
def PySem.W.Fast.tw17513185396089809663 : Unit := ()
def PySem.W.Fast.tw15451169136876742364 : Unit := ()
def PySem.W.Fast.tw9997727973544957220 : Unit := ()
def PySem.W.Fast.tw7048926513906263540 : Unit := ()
def PySem.W.Fast.tw11124262397349669658 : Unit := ()
def PySem.W.Fast.tw1447346060219831037 : Unit := ()
def PySem.W.Fast.tw9842100943749746626 : Unit := ()
def PySem.W.Fast.tw1133710541487007278 : Unit := ()
def PySem.W.Fast.tw1348667628356472708 : Unit := ()
def PySem.W.Fast.tw13107995341727985294 : Unit := ()
def PySem.W.Fast.tw8126694227589193766 : Unit := ()
def PySem.W.Fast.tw7219545575051153504 : Unit := ()
def PySem.W.Fast.tw1439188517864666781 : Unit := ()
def PySem.W.Fast.tw18426903919452392875 : Unit := ()
def PySem.W.Fast.tw12712182029613924849 : Unit := ()
def PySem.W.Fast.tw13165780022393768957 : Unit := ()
def PySem.W.Fast.tw3649057746997660362 : Unit := ()
def PySem.W.Fast.tw5643652466591776422 : Unit := ()
def PySem.W.Fast.tw17027187640378845725 : Unit := ()
def PySem.W.Fast.tw14764252367421753070 : Unit := ()
def PySem.W.Fast.tw1829096634852477106 : Unit := ()
def PySem.W.Fast.tw8209717620098403746 : Unit := ()
def PySem.W.Fast.tw16386569816170203005 : Unit := ()
def PySem.W.Fast.tw3001479312674428158 : Unit := ()
def PySem.W.Fast.tw4745009679533098799 : Unit := ()
def PySem.W.Fast.tw17544463953355725922 : Unit := ()
def PySem.W.Fast.tw353781375662155940 : Unit := ()
def PySem.W.Fast.tw17695077373855633628 : Unit := ()
def PySem.W.Fast.tw18185810902850125960 : Unit := ()
def PySem.W.Fast.tw3574935470849174354 : Unit := ()
def PySem.W.Fast.tw9577807894869036276 : Unit := ()
def PySem.W.Fast.tw16667975816100949263 : Unit := ()
def PySem.W.Fast.tw11830281755618571060 : Unit := ()
def PySem.W.Fast.tw13911353477765680863 : Unit := ()
def PySem.W.Fast.tw7522270700491510685 : Unit := ()
def PySem.W.Fast.tw4574210319107477383 : Unit := ()
def PySem.W.Fast.tw8361549245524143403 : Unit := ()
def PySem.W.Fast.tw5313460839262620308 : Unit := ()
def PySem.W.Fast.tw4047811868396006200 : Unit := ()
def PySem.W.Fast.tw974173526156100497 : Unit := ()
def PySem.W.Fast.tw651392759115217867 : Unit := ()
def PySem.W.Fast.tw12533925215930868684 : Unit := ()
def PySem.W.Fast.tw6012657437212005419 : Unit := ()
def PySem.W.Fast.tw5101920643314047359 : Unit := ()
def PySem.W.Fast.tw8967142747808743761 : Unit := ()
def PySem.W.Fast.tw2396780261575062204 : Unit := ()
def PySem.W.Fast.tw4971208381378934600 : Unit := ()
def PySem.W.Fast.tw6470321009774624342 : Unit := ()
def PySem.W.Fast.tw14969373265170577721 : Unit := ()
def PySem.W.Fast.tw17278932081618511267 : Unit := ()
def PySem.W.Fast.tw14339709301064009748 : Unit := ()
def PySem.W.Fast.tw10888533933831030109 : Unit := ()
def PySem.W.Fast.tw16652172583832154023 : Unit := ()
def PySem.W.Fast.tw11467331710925823299 : Unit := ()
def PySem.W.Fast.tw53087459059524890 : Unit := ()
def PySem.W.Fast.tw3194257064787127378 : Unit := ()
def PySem.W.Fast.tw13785242875846050348 : Unit := ()
def PySem.W.Fast.tw5697293177103040706 : Unit := ()
def PySem.W.Fast.tw816814404666582999 : Unit := ()
def PySem.W.Fast.tw14351586023023377816 : Unit := ()
def PySem.W.Fast.tw8767914224985758481 : Unit := ()
def PySem.W.Fast.tw5449152596412684638 : Unit := ()
def PySem.W.Fast.tw10566190888109699190 : Unit := ()
def PySem.W.Fast.tw6429385125925143184 : Unit := ()
def PySem.W.Fast.tw3197371859069578628 : Unit := ()
def PySem.W.Fast.tw3429392131139395349 : Unit := ()
def PySem.W.Fast.tw3982764708291192061 : Unit := ()
def PySem.W.Fast.tw18387822913200855037 : Unit := ()
def PySem.W.Fast.tw9414496420774437943 : Unit := ()
def PySem.W.Fast.tw18055099957146047715 : Unit := ()
def PySem.W.Fast.tw4276675312151799715 : Unit := ()
def PySem.W.Fast.tw10292354234314037597 : Unit := ()
def PySem.W.Fast.tw14330421643749761273 : Unit := ()
def PySem.W.Fast.tw18361396646298615091 : Unit := ()
def PySem.W.Fast.tw7801217713291157672 : Unit := ()
def PySem.W.Fast.tw7759019435598146438 : Unit := ()
def PySem.W.Fast.tw18299720877024849668 : Unit := ()
def PySem.W.Fast.tw14304105283391367644 : Unit := ()
def PySem.W.Fast.tw13175983571776119868 : Unit := ()
def PySem.W.Fast.tw8188863123326888331 : Unit := ()
def PySem.W.Fast.tw872631118386391084 : Unit := ()
def PySem.W.Fast.tw9516735350624668747 : Unit := ()
def PySem.W.Fast.tw13138442062834788423 : Unit := ()
def PySem.W.Fast.tw1058374049562214508 : Unit := ()
def PySem.W.Fast.tw14537542588799834586 : Unit := ()
def PySem.W.Fast.tw6354527271070785349 : Unit := ()
def PySem.W.Fast.tw6184177069653944590 : Unit := ()
def PySem.W.Fast.tw18303460579599300984 : Unit := ()
def PySem.W.Fast.tw17219707391391331857 : Unit := ()
def PySem.W.Fast.tw14940167419981200767 : Unit := ()
def PySem.W.Fast.tw2918074375073571996 : Unit := ()
def PySem.W.Fast.tw17859834961601689062 : Unit := ()
def PySem.W.Fast.tw911479879203094545 : Unit := ()
def PySem.W.Fast.tw7266074588757738847 : Unit := ()
def PySem.W.Fast.tw16182733166541046937 : Unit := ()
def PySem.W.Fast.tw16607087084545561128 : Unit := ()
def PySem.W.Fast.tw13844625431032246760 : Unit := ()
def PySem.W.Fast.tw2078912176929345101 : Unit := ()
def PySem.W.Fast.tw4380850065638646020 : Unit := ()
def PySem.W.Fast.tw11497381314421169583 : Unit := ()
def PySem.W.Fast.tw17689744551357490422 : Unit := ()
def PySem.W.Fast.tw17323992907514677707 : Unit := ()
def PySem.W.Fast.tw4386159554755102996 : Unit := ()
def PySem.W.Fast.tw9882210825791971020 : Unit := ()
def PySem.W.Fast.tw13395036399537020817 : Unit := ()
def PySem.W.Fast.tw13444330160364709519 : Unit := ()
def PySem.W.Fast.tw5480418766215952460 : Unit := ()
def PySem.W.Fast.tw16946285306027658124 : Unit := ()
def PySem.W.Fast.tw15204479684770501387 : Unit := ()
def PySem.W.Fast.tw3688322312420586846 : Unit := ()
def PySem.W.Fast.tw5626635789171709591 : Unit := ()
def PySem.W.Fast.tw10177098133373798783 : Unit := ()
def PySem.W.Fast.tw13290014669433358933 : Unit := ()
def PySem.W.Fast.tw3736091609071992557 : Unit := ()
def PySem.W.Fast.tw4126333529182854612 : Unit := ()
def PySem.W.Fast.tw17354348909408759837 : Unit := ()
def PySem.W.Fast.tw9072495003108687950 : Unit := ()
def PySem.W.Fast.tw12599293208402184972 : Unit := ()
def PySem.W.Fast.tw16128134234828534561 : Unit := ()
def PySem.W.Fast.tw17926496966137131747 : Unit := ()
def PySem.W.Fast.tw10895288306430267036 : Unit := ()
def PySem.W.Fast.tw1626167032364614560 : Unit := ()
def PySem.W.Fast.tw2053185060894000238 : Unit := ()
def PySem.W.Fast.tw5532317847070076795 : Unit := ()
def PySem.W.Fast.tw15541199822414536077 : Unit := ()
def PySem.W.Fast.tw4249406181221427654 : Unit := ()
def PySem.W.Fast.tw18022904722324696197 : Unit := ()
def PySem.W.Fast.tw6118340175202047043 : Unit := ()
def PySem.W.Fast.tw9446339904099065156 : Unit := ()
def PySem.W.Fast.tw11978154977648316036 : Unit := ()
def PySem.W.Fast.tw3070251787053851573 : Unit := ()
def PySem.W.Fast.tw15361219843574351932 : Unit := ()
def PySem.W.Fast.tw17195360160315646178 : Unit := ()
def PySem.W.Fast.tw7384919511192974833 : Unit := ()
def PySem.W.Fast.tw9639677735358507439 : Unit := ()
def PySem.W.Fast.tw11514833950257872898 : Unit := ()
def PySem.W.Fast.tw18197131615713677028 : Unit := ()
def PySem.W.Fast.tw17810488189096864281 : Unit := ()
def PySem.W.Fast.tw3790620416716667879 : Unit := ()
def PySem.W.Fast.tw3458310120060225251 : Unit := ()
def PySem.W.Fast.tw1007146828322780416 : Unit := ()
def PySem.W.Fast.tw521227025121930864 : Unit := ()
def PySem.W.Fast.tw1189774818701456365 : Unit := ()
def PySem.W.Fast.tw5683232603443132545 : Unit := ()
def PySem.W.Fast.tw16030100854690645017 : Unit := ()
def PySem.W.Fast.tw9232567974227640443 : Unit := ()
def PySem.W.Fast.tw246462701440338022 : Unit := ()
def PySem.W.Fast.tw8037621658049407243 : Unit := ()
def PySem.W.Fast.tw10658143792818954800 : Unit := ()
def PySem.W.Fast.tw7879360842432141769 : Unit := ()
def PySem.W.Fast.tw14846473034208393154 : Unit := ()
def PySem.W.Fast.tw4469063291883452828 : Unit := ()
def PySem.W.Fast.tw12849600254829719441 : Unit := ()
def PySem.W.Fast.tw2788717217006337523 : Unit := ()
def PySem.W.Fast.tw17426028809791542731 : Unit := ()
def PySem.W.Fast.tw2113074001269566121 : Unit := ()
def PySem.W.Fast.tw16911372533437342956 : Unit := ()
def PySem.W.Fast.tw9725819716517537064 : Unit := ()
def PySem.W.Fast.tw574528318913082746 : Unit := ()
def PySem.W.Fast.tw14942008075712578826 : Unit := ()
def PySem.W.Fast.tw2905319619123744879 : Unit := ()
def PySem.W.Fast.tw4357339686084308005 : Unit := ()
def PySem.W.Fast.tw1847920067589941051 : Unit := ()
def PySem.W.Fast.tw11620837657006803377 : Unit := ()
def PySem.W.Fast.tw10776317518137432520 : Unit := ()
def PySem.W.Fast.tw1129992058242982757 : Unit := ()
def PySem.W.Fast.tw3116399601923111741 : Unit := ()
def PySem.W.Fast.tw16724252245235354466 : Unit := ()
def PySem.W.Fast.tw17985099762831405926 : Unit := ()
def PySem.W.Fast.tw13273309780484709143 : Unit := ()
def PySem.W.Fast.tw8069687998118816330 : Unit := ()
def PySem.W.Fast.tw1247453931705344421 : Unit := ()
def PySem.W.Fast.tw16328877784208300931 : Unit := ()
def PySem.W.Fast.tw4532350722735157053 : Unit := ()
def PySem.W.Fast.tw16050529914656731941 : Unit := ()
def PySem.W.Fast.tw6709657552346809800 : Unit := ()
def PySem.W.Fast.tw16435232260550035764 : Unit := ()
def PySem.W.Fast.tw9266576820102700544 : Unit := ()
def PySem.W.Fast.tw855540020474564989 : Unit := ()
def PySem.W.Fast.tw1381284113080711333 : Unit := ()
def PySem.W.Fast.tw765855111707263989 : Unit := ()
def PySem.W.Fast.tw11661233249509965709 : Unit := ()
def PySem.W.Fast.tw3742681744695574874 : Unit := ()
def PySem.W.Fast.tw5414248251310107502 : Unit := ()
def PySem.W.Fast.tw11440272541632057149 : Unit := ()
def PySem.W.Fast.tw10064653433834774240 : Unit := ()
def PySem.W.Fast.tw17570500412567850303 : Unit := ()
def PySem.W.Fast.tw8589706552866469096 : Unit := ()
def PySem.W.Fast.tw5425717414530816336 : Unit := ()
def PySem.W.Fast.tw13368279320277171914 : Unit := ()
def PySem.W.Fast.tw4890146091364549290 : Unit := ()
def PySem.W.Fast.tw6301674711781669802 : Unit := ()
def PySem.W.Fast.tw13191176039703173323 : Unit := ()
def PySem.W.Fast.tw5318402235159220221 : Unit := ()
def PySem.W.Fast.tw13211158553132108193 : Unit := ()
def PySem.W.Fast.tw11606174516943990121 : Unit := ()
def PySem.W.Fast.tw15443844975268988797 : Unit := ()
def PySem.W.Fast.tw9674756605493083145 : Unit := ()
def PySem.W.Fast.tw10584309212644185967 : Unit := ()
def PySem.W.Fast.tw17099216340429430344 : Unit := ()
def PySem.W.Fast.tw16757581824430057262 : Unit := ()
def PySem.W.Fast.tw5494352815038967726 : Unit := ()
def PySem.W.Fast.tw13195294433762459642 : Unit := ()
def PySem.W.Fast.tw11393953737580780780 : Unit := ()
def PySem.W.Fast.tw15944257708226847244 : Unit := ()
def PySem.W.Fast.tw18089624859167304010 : Unit := ()
def PySem.W.Fast.tw6965527734049436091 : Unit := ()
def PySem.W.Fast.tw17278817325118702221 : Unit := ()
def PySem.W.Fast.tw2751906328164075594 : Unit := ()
def PySem.W.Fast.tw14904891167172180246 : Unit := ()
def PySem.W.Fast.tw15055664175091730178 : Unit := ()
def PySem.W.Fast.tw15893412572787865798 : Unit := ()
def PySem.W.Fast.tw10641496470587727889 : Unit := ()
def PySem.W.Fast.tw11550994067980399880 : Unit := ()
def PySem.W.Fast.tw6514961972420440266 : Unit := ()
def PySem.W.Fast.tw10010038837059952781 : Unit := ()
def PySem.W.Fast.tw10294562214456561588 : Unit := ()
def PySem.W.Fast.tw8232865371230276553 : Unit := ()
def PySem.W.Fast.tw14814288416355239779 : Unit := ()
def PySem.W.Fast.tw2666233163250587792 : Unit := ()
def PySem.W.Fast.tw5049055726488178573 : Unit := ()
def PySem.W.Fast.tw3086289755156316358 : Unit := ()
def PySem.W.Fast.tw13575048970763832923 : Unit := ()
def PySem.W.Fast.tw12040367629082104542 : Unit := ()
def PySem.W.Fast.tw9947003726867611891 : Unit := ()
def PySem.W.Fast.tw14704988695404781415 : Unit := ()
def PySem.W.Fast.tw12975725281625228344 : Unit := ()
def PySem.W.Fast.tw12624702062571931576 : Unit := ()
def PySem.W.Fast.tw18263813238208130776 : Unit := ()
def PySem.W.Fast.tw1011331262138974032 : Unit := ()
def PySem.W.Fast.tw2810875497432728432 : Unit := ()
def PySem.W.Fast.tw13724715341528089581 : Unit := ()
def PySem.W.Fast.tw338020971671218436 : Unit := ()
def PySem.W.Fast.tw12469481084340680231 : Unit := ()
def PySem.W.Fast.tw13763949538634774141 : Unit := ()
def PySem.W.Fast.tw13804396804435599477 : Unit := ()
def PySem.W.Fast.tw17982075137789983830 : Unit := ()
def PySem.W.Fast.tw540632808041004425 : Unit := ()
def PySem.W.Fast.tw15620113344063181811 : Unit := ()
def PySem.W.Fast.tw730802826883266274 : Unit := ()
def PySem.W.Fast.tw17341740063362317912 : Unit := ()
def PySem.W.Fast.tw12916529703055950146 : Unit := ()
def PySem.W.Fast.tw18202279413734185885 : Unit := ()
def PySem.W.Fast.tw16365348639091052467 : Unit := ()
def PySem.W.Fast.tw11697705609822571510 : Unit := ()
def PySem.W.Fast.tw11372102316806220196 : Unit := ()
def PySem.W.Fast.tw1217881403255962325 : Unit := ()
def PySem.W.Fast.tw10547979837168426495 : Unit := ()
def PySem.W.Fast.tw17836498941401576520 : Unit := ()
def PySem.W.Fast.tw2518604640356231916 : Unit := ()
def PySem.W.Fast.tw4673295866694382536 : Unit := ()
def PySem.W.Fast.tw13066164707679539256 : Unit := ()
def PySem.W.Fast.tw15716500131095484506 : Unit := ()
def PySem.W.Fast.tw14720569954418881326 : Unit := ()
def PySem.W.Fast.tw4778632196501396692 : Unit := ()
def PySem.W.Fast.tw5016049907794178266 : Unit := ()
def PySem.W.Fast.tw8378058452488857208 : Unit := ()
def PySem.W.Fast.tw12558521012424358965 : Unit := ()
def PySem.W.Fast.tw2148876197708432328 : Unit := ()
def PySem.W.Fast.tw13707100230403158132 : Unit := ()
def PySem.W.Fast.tw9619705444519529095 : Unit := ()
def PySem.W.Fast.tw5486123760044703318 : Unit := ()
def PySem.W.Fast.tw12024014162961331437 : Unit := ()
def PySem.W.Fast.tw12082311885212009064 : Unit := ()
def PySem.W.Fast.tw3634794451981249573 : Unit := ()
def PySem.W.Fast.tw13567236662223680876 : Unit := ()
def PySem.W.Fast.tw18167753211716884892 : Unit := ()
def PySem.W.Fast.tw8522256886099647054 : Unit := ()
def PySem.W.Fast.tw7811898197584706294 : Unit := ()
def PySem.W.Fast.tw5744072972184622713 : Unit := ()
def PySem.W.Fast.tw9877110751995674088 : Unit := ()
def PySem.W.Fast.tw14916344018517828508 : Unit := ()
def PySem.W.Fast.tw1504451827768740755 : Unit := ()
def PySem.W.Fast.tw8238634628219169787 : Unit := ()
def PySem.W.Fast.tw3728163150164255665 : Unit := ()
def PySem.W.Fast.tw9999382657169500773 : Unit := ()
def PySem.W.Fast.tw7672273405885854304 : Unit := ()
def PySem.W.Fast.tw14349614907022988949 : Unit := ()
def PySem.W.Fast.tw12344896917205726454 : Unit := ()
def PySem.W.Fast.tw268134628649907634 : Unit := ()
def PySem.W.Fast.tw14531774338746220570 : Unit := ()
def PySem.W.Fast.tw881018981496439043 : Unit := ()
def PySem.W.Fast.tw15497960100686069836 : Unit := ()
def PySem.W.Fast.tw79362058763274658 : Unit := ()
def PySem.W.Fast.tw3940659279189985881 : Unit := ()
def PySem.W.Fast.tw15740517592796474451 : Unit := ()
def PySem.W.Fast.tw313273924639153114 : Unit := ()
def PySem.W.Fast.tw17886148285103546875 : Unit := ()
def PySem.W.Fast.tw16938207116705486249 : Unit := ()
def PySem.W.Fast.tw15670256178964003243 : Unit := ()
def PySem.W.Fast.tw11658070756347576245 : Unit := ()
def PySem.W.Fast.tw12596270830211082416 : Unit := ()
def PySem.W.Fast.tw15337526168012209617 : Unit := ()
def PySem.W.Fast.tw16950388401282415237 : Unit := ()
def PySem.W.Fast.tw12684475158082537487 : Unit := ()
def PySem.W.Fast.tw1476941335575506236 : Unit := ()
def PySem.W.Fast.tw6177279048495489115 : Unit := ()
def PySem.W.Fast.tw15846611768820897930 : Unit := ()
def PySem.W.Fast.tw17730893056391855355 : Unit := ()
def PySem.W.Fast.tw10711701885346074439 : Unit := ()
def PySem.W.Fast.tw8987029522123521617 : Unit := ()
def PySem.W.Fast.tw4219656857861427790 : Unit := ()
def PySem.W.Fast.tw9613151919641423522 : Unit := ()
def PySem.W.Fast.tw808933267430682863 : Unit := ()
def PySem.W.Fast.tw1192022677380894113 : Unit := ()
def PySem.W.Fast.tw9316149887187854773 : Unit := ()
def PySem.W.Fast.tw13017310779330653813 : Unit := ()
def PySem.W.Fast.tw6213419673595561750 : Unit := ()
def PySem.W.Fast.tw7682333930203230940 : Unit := ()
def PySem.W.Fast.tw12448115647134798368 : Unit := ()
def PySem.W.Fast.tw2642842331487044238 : Unit := ()
def PySem.W.Fast.tw16097448180172075112 : Unit := ()
def PySem.W.Fast.tw9491281986901407502 : Unit := ()
def PySem.W.Fast.tw11383884386599611314 : Unit := ()
def PySem.W.Fast.tw15272347726342640389 : Unit := ()
def PySem.W.Fast.tw17355508641655725540 : Unit := ()
def PySem.W.Fast.tw7769135065398309345 : Unit := ()
def PySem.W.Fast.tw17410975424974375436 : Unit := ()
def PySem.W.Fast.tw17381469528049375074 : Unit := ()
def PySem.W.Fast.tw4935709183390674095 : Unit := ()
def PySem.W.Fast.tw3710785311799084755 : Unit := ()
def PySem.W.Fast.tw3749391946914474678 : Unit := ()
def PySem.W.Fast.tw9303845192350186372 : Unit := ()
def PySem.W.Fast.tw21295948567823817 : Unit := ()
def PySem.W.Fast.tw14494180309915779783 : Unit := ()
def PySem.W.Fast.tw4644917303175588389 : Unit := ()
def PySem.W.Fast.tw18340960537676936633 : Unit := ()
def PySem.W.Fast.tw7085679009548045994 : Unit := ()
def PySem.W.Fast.tw10229775510987920608 : Unit := ()
def PySem.W.Fast.tw8524607168374713518 : Unit := ()
def PySem.W.Fast.tw15856136334555814954 : Unit := ()
def PySem.W.Fast.tw13577692080675443153 : Unit := ()
def PySem.W.Fast.tw11139752816723198387 : Unit := ()
def PySem.W.Fast.tw2632595767928765646 : Unit := ()
def PySem.W.Fast.tw8054894560689450727 : Unit := ()
def PySem.W.Fast.tw8582696695285264024 : Unit := ()
def PySem.W.Fast.tw11182326403818075695 : Unit := ()
def PySem.W.Fast.tw3545359428273692091 : Unit := ()
def PySem.W.Fast.tw16800480700653859134 : Unit := ()
def PySem.W.Fast.tw16756586961122195226 : Unit := ()
def PySem.W.Fast.tw17956373089048345010 : Unit := ()
def PySem.W.Fast.tw13472728609845408096 : Unit := ()
def PySem.W.Fast.tw3081130243953101897 : Unit := ()
def PySem.W.Fast.tw5085333517997177951 : Unit := ()
def PySem.W.Fast.tw9897329783398673229 : Unit := ()
def PySem.W.Fast.tw2449593818110159311 : Unit := ()
def PySem.W.Fast.tw12643137882466370838 : Unit := ()
def PySem.W.Fast.tw1332750262418071520 : Unit := ()
def PySem.W.Fast.tw12966907686807203976 : Unit := ()
def PySem.W.Fast.tw6590235695165071484 : Unit := ()
def PySem.W.Fast.tw15324646193052092962 : Unit := ()
def PySem.W.Fast.tw593660262151407338 : Unit := ()
def PySem.W.Fast.tw2076595762807165554 : Unit := ()
def PySem.W.Fast.tw9061738429540926227 : Unit := ()
def PySem.W.Fast.tw6128386176648121799 : Unit := ()
def PySem.W.Fast.tw7526610848723924882 : Unit := ()
def PySem.W.Fast.tw12105139750045315459 : Unit := ()
def PySem.W.Fast.tw10466421672660942525 : Unit := ()
def PySem.W.Fast.tw7648083447953125283 : Unit := ()
def PySem.W.Fast.tw14470634938099035457 : Unit := ()
def PySem.W.Fast.tw4302894500643549033 : Unit := ()
def PySem.W.Fast.tw18206157150431459317 : Unit := ()
def PySem.W.Fast.tw6191443946095126966 : Unit := ()
def PySem.W.Fast.tw496716207568565206 : Unit := ()
def PySem.W.Fast.tw12133095276801465 : Unit := ()
def PySem.W.Fast.tw8420757034542875177 : Unit := ()
def PySem.W.Fast.tw13153776644054342655 : Unit := ()
def PySem.W.Fast.tw3502039454741497111 : Unit := ()
def PySem.W.Fast.tw440099986505460738 : Unit := ()
def PySem.W.Fast.tw5191849288640837372 : Unit := ()
def PySem.W.Fast.tw17711480936135820299 : Unit := ()
def PySem.W.Fast.tw335737729666942412 : Unit := ()
def PySem.W.Fast.tw9349529882707817927 : Unit := ()
def PySem.W.Fast.tw16127604760335589531 : Unit := ()
def PySem.W.Fast.tw653944352034984262 : Unit := ()
def PySem.W.Fast.tw9645085297132566218 : Unit := ()
def PySem.W.Fast.tw13950730287741614190 : Unit := ()
def PySem.W.Fast.tw7566711493769666024 : Unit := ()
def PySem.W.Fast.tw4511065736425117599 : Unit := ()
def PySem.W.Fast.tw16989365128687522840 : Unit := ()
def PySem.W.Fast.tw17929828464969461045 : Unit := ()
def PySem.W.Fast.tw18265963390471677121 : Unit := ()
def PySem.W.Fast.tw8050889599110212602 : Unit := ()
def PySem.W.Fast.tw14914056257540128610 : Unit := ()
def PySem.W.Fast.tw11980475227941085320 : Unit := ()
def PySem.W.Fast.tw9776959641736052112 : Unit := ()
def PySem.W.Fast.tw16580896435054216133 : Unit := ()
def PySem.W.Fast.tw14305553791028784240 : Unit := ()
def PySem.W.Fast.tw3276483811778452536 : Unit := ()
def PySem.W.Fast.tw12357217820089488809 : Unit := ()
def PySem.W.Fast.tw3356669419379303926 : Unit := ()
def PySem.W.Fast.tw10509701763757508810 : Unit := ()
def PySem.W.Fast.tw12628848461698660764 : Unit := ()
def PySem.W.Fast.tw1800302768454736968 : Unit := ()
def PySem.W.Fast.tw10480184746146997755 : Unit := ()
def PySem.W.Fast.tw128789455585409681 : Unit := ()
def PySem.W.Fast.tw4860213519482238006 : Unit := ()
def PySem.W.Fast.tw511462683202325853 : Unit := ()
def PySem.W.Fast.tw17945454666426312928 : Unit := ()
def PySem.W.Fast.tw5245983534196359887 : Unit := ()
def PySem.W.Fast.tw8289355115510008843 : Unit := ()
def PySem.W.Fast.tw5293084575380501006 : Unit := ()
def PySem.W.Fast.tw10874404441620299171 : Unit := ()
def PySem.W.Fast.tw5010935159247822043 : Unit := ()
def PySem.W.Fast.tw11560592258637223257 : Unit := ()
def PySem.W.Fast.tw15564205892568310024 : Unit := ()
def PySem.W.Fast.tw1811269768429015674 : Unit := ()
def PySem.W.Fast.tw6257813393869309651 : Unit := ()
def PySem.W.Fast.tw4285824758136354551 : Unit := ()
def PySem.W.Fast.tw13028267067170653177 : Unit := ()
def PySem.W.Fast.tw5078327753263723924 : Unit := ()
def PySem.W.Fast.tw12526095314875665501 : Unit := ()
def PySem.W.Fast.tw12666498375732458200 : Unit := ()
def PySem.W.Fast.tw6925858504580944344 : Unit := ()
def PySem.W.Fast.tw13342478304116496673 : Unit := ()
def PySem.W.Fast.tw8810957719980711426 : Unit := ()
def PySem.W.Fast.tw14025710676995617598 : Unit := ()
def PySem.W.Fast.tw15727119480791593954 : Unit := ()
def PySem.W.Fast.tw5719912293161979198 : Unit := ()
def PySem.W.Fast.tw18163170108546265258 : Unit := ()
def PySem.W.Fast.tw10947854464287274314 : Unit := ()
def PySem.W.Fast.tw7426169912527664751 : Unit := ()
def PySem.W.Fast.tw7130817343308985207 : Unit := ()
def PySem.W.Fast.tw7037864379954710693 : Unit := ()
def PySem.W.Fast.tw11736143758548073358 : Unit := ()
def PySem.W.Fast.tw12904626779313520530 : Unit := ()
def PySem.W.Fast.tw2940526571511470268 : Unit := ()
def PySem.W.Fast.tw15092637245937245399 : Unit := ()
def PySem.W.Fast.tw510012754214159882 : Unit := ()
def PySem.W.Fast.tw3536466372510642678 : Unit := ()
def PySem.W.Fast.tw11708168039978450473 : Unit := ()
def PySem.W.Fast.tw6806350673434543767 : Unit := ()
def PySem.W.Fast.tw3020639342991912409 : Unit := ()
def PySem.W.Fast.tw17280454413060432612 : Unit := ()
def PySem.W.Fast.tw17176057635346233121 : Unit := ()
def PySem.W.Fast.tw9544728192616012513 : Unit := ()
def PySem.W.Fast.tw14280168200902330585 : Unit := ()
def PySem.W.Fast.tw2640207817488938811 : Unit := ()
def PySem.W.Fast.tw524100843758588054 : Unit := ()
def PySem.W.Fast.tw1743970146531430122 : Unit := ()
def PySem.W.Fast.tw6831556770448852273 : Unit := ()
def PySem.W.Fast.tw6827936840873306603 : Unit := ()
def PySem.W.Fast.tw7609025353213274136 : Unit := ()
def PySem.W.Fast.tw15590667116765449401 : Unit := ()
def PySem.W.Fast.tw2327019766534697613 : Unit := ()
def PySem.W.Fast.tw16904323460741876408 : Unit := ()
def PySem.W.Fast.tw4910206714551866211 : Unit := ()
def PySem.W.Fast.tw17454991356486597424 : Unit := ()
def PySem.W.Fast.tw1274865248278670461 : Unit := ()
def PySem.W.Fast.tw3895005305408383514 : Unit := ()
def PySem.W.Fast.tw9048156440921895317 : Unit := ()
def PySem.W.Fast.tw7205535727575850150 : Unit := ()
def PySem.W.Fast.tw12449370276470583523 : Unit := ()
def PySem.W.Fast.tw13237284311195420537 : Unit := ()
def PySem.W.Fast.tw11483245395008081198 : Unit := ()
def PySem.W.Fast.tw13771465186107866745 : Unit := ()
def PySem.W.Fast.tw12137607965888758057 : Unit := ()
def PySem.W.Fast.tw17609791280253012301 : Unit := ()
def PySem.W.Fast.tw9812390610653141172 : Unit := ()
def PySem.W.Fast.tw13737762650476271960 : Unit := ()
def PySem.W.Fast.tw7627726895074785068 : Unit := ()
def PySem.W.Fast.tw5709408675047815702 : Unit := ()
def PySem.W.Fast.tw4744978954466653596 : Unit := ()
def PySem.W.Fast.tw13885635961379720813 : Unit := ()
def PySem.W.Fast.tw16936214407705176980 : Unit := ()
def PySem.W.Fast.tw18326572049631673287 : Unit := ()
def PySem.W.Fast.tw15774985986945530704 : Unit := ()
def PySem.W.Fast.tw13342432272953800666 : Unit := ()
def PySem.W.Fast.tw4157402424584764314 : Unit := ()
def PySem.W.Fast.tw18127616502660899576 : Unit := ()
def PySem.W.Fast.tw18111623161510522368 : Unit := ()
def PySem.W.Fast.tw1151294168569070414 : Unit := ()
def PySem.W.Fast.tw9596909868701998074 : Unit := ()
def PySem.W.Fast.tw7665936336265323231 : Unit := ()
def PySem.W.Fast.tw4411506626262941532 : Unit := ()
def PySem.W.Fast.tw4972555861343349349 : Unit := ()
def PySem.W.Fast.tw4512669501196514085 : Unit := ()
def PySem.W.Fast.tw16110124677740108340 : Unit := ()
def PySem.W.Fast.tw4451548833032958075 : Unit := ()
def PySem.W.Fast.tw488898249487829700 : Unit := ()
def PySem.W.Fast.tw535577207008328402 : Unit := ()
def PySem.W.Fast.tw14354360058608737631 : Unit := ()
def PySem.W.Fast.tw8252222530363759623 : Unit := ()
def PySem.W.Fast.tw13862859252893714338 : Unit := ()
def PySem.W.Fast.tw2303991842933297555 : Unit := ()
def PySem.W.Fast.tw7544041069448614375 : Unit := ()
def PySem.W.Fast.tw6381327784505360726 : Unit := ()
def PySem.W.Fast.tw10957208407953093437 : Unit := ()
def PySem.W.Fast.tw6481214355074189933 : Unit := ()
def PySem.W.Fast.tw3773410149195604093 : Unit := ()
def PySem.W.Fast.tw6211429203643327242 : Unit := ()
def PySem.W.Fast.tw2608518055935287985 : Unit := ()
def PySem.W.Fast.tw14346663895492205920 : Unit := ()
def PySem.W.Fast.tw10509763434773079372 : Unit := ()
def PySem.W.Fast.tw18308151057048757903 : Unit := ()
def PySem.W.Fast.tw18310940619784110341 : Unit := ()
def PySem.W.Fast.tw14446045046523235367 : Unit := ()
def PySem.W.Fast.tw11938526457797627046 : Unit := ()
def PySem.W.Fast.tw14992017742188496788 : Unit := ()
def PySem.W.Fast.tw1777791726065545674 : Unit := ()
def PySem.W.Fast.tw2583228967045843161 : Unit := ()
def PySem.W.Fast.tw11933935400678906695 : Unit := ()
def PySem.W.Fast.tw8715963634833217624 : Unit := ()
def PySem.W.Fast.tw11090027258449571581 : Unit := ()
def PySem.W.Fast.tw16158452883874896975 : Unit := ()
def PySem.W.Fast.tw12719268198900365101 : Unit := ()
def PySem.W.Fast.tw5213659523189323327 : Unit := ()
def PySem.W.Fast.tw14924679098946513122 : Unit := ()
def PySem.W.Fast.tw3657922787471252616 : Unit := ()
def PySem.W.Fast.tw7209589120104037458 : Unit := ()
def PySem.W.Fast.tw16726408800204006311 : Unit := ()
def PySem.W.Fast.tw10965534187977172935 : Unit := ()
def PySem.W.Fast.tw2917084279449706311 : Unit := ()
def PySem.W.Fast.tw16017902401800547642 : Unit := ()
def PySem.W.Fast.tw7093013740569123733 : Unit := ()
def PySem.W.Fast.tw7644366217517852022 : Unit := ()
def PySem.W.Fast.tw17198058604516500462 : Unit := ()
def PySem.W.Fast.tw10431307364071233852 : Unit := ()
def PySem.W.Fast.tw18310456843534733446 : Unit := ()
def PySem.W.Fast.tw436644555411948248 : Unit := ()
def PySem.W.Fast.tw4086707643186871531 : Unit := ()
def PySem.W.Fast.tw3345107506333335079 : Unit := ()
def PySem.W.Fast.tw11387672451887596131 : Unit := ()
def PySem.W.Fast.tw666371916478779038 : Unit := ()
def PySem.W.Fast.tw17158140465246390485 : Unit := ()
def PySem.W.Fast.tw11564515408625247419 : Unit := ()
def PySem.W.Fast.tw13628878296151645690 : Unit := ()
def PySem.W.Fast.tw11591412770458594267 : Unit := ()
def PySem.W.Fast.tw11540531586830391036 : Unit := ()
def PySem.W.Fast.tw11271648601989876162 : Unit := ()
def PySem.W.Fast.tw17763894624936933407 : Unit := ()
def PySem.W.Fast.tw4185985828293232364 : Unit := ()
def PySem.W.Fast.tw3086573474031364068 : Unit := ()
def PySem.W.Fast.tw3037188890759039662 : Unit := ()
def PySem.W.Fast.tw4105779129244369427 : Unit := ()
def PySem.W.Fast.tw15258016737010934831 : Unit := ()
def PySem.W.Fast.tw12114690260602853587 : Unit := ()
def PySem.W.Fast.tw12076973283778139555 : Unit := ()
def PySem.W.Fast.tw12863718943992500110 : Unit := ()
def PySem.W.Fast.tw5024959260111147901 : Unit := ()
def PySem.W.Fast.tw14991192651032548143 : Unit := ()
def PySem.W.Fast.tw4592125281026298539 : Unit := ()
def PySem.W.Fast.tw12985350994875283716 : Unit := ()
def PySem.W.Fast.tw16597238463724593644 : Unit := ()
def PySem.W.Fast.tw11960629860618993147 : Unit := ()
def PySem.W.Fast.tw13954179381447407897 : Unit := ()
def PySem.W.Fast.tw17257052760163446724 : Unit := ()
def PySem.W.Fast.tw8241637655849662186 : Unit := ()
def PySem.W.Fast.tw8978240391975913713 : Unit := ()
def PySem.W.Fast.tw3894379770741894632 : Unit := ()
def PySem.W.Fast.tw16742702944741575824 : Unit := ()
def PySem.W.Fast.tw8162640892288907277 : Unit := ()
def PySem.W.Fast.tw17190753275813849384 : Unit := ()
def PySem.W.Fast.tw9278551643980917651 : Unit := ()
def PySem.W.Fast.tw13696541248556062762 : Unit := ()
def PySem.W.Fast.tw8985390933188710862 : Unit := ()
def PySem.W.Fast.tw6809114382185647081 : Unit := ()
def PySem.W.Fast.tw5765452566625367167 : Unit := ()
def PySem.W.Fast.tw8821268074929178185 : Unit := ()
def PySem.W.Fast.tw9654579847554660843 : Unit := ()
def PySem.W.Fast.tw3928972343821296290 : Unit := ()
def PySem.W.Fast.tw15851075338460312473 : Unit := ()
def PySem.W.Fast.tw9179061657853567650 : Unit := ()
def PySem.W.Fast.tw7869899308047896829 : Unit := ()
def PySem.W.Fast.tw10219518301548029475 : Unit := ()
def PySem.W.Fast.tw12825922965021501206 : Unit := ()
def PySem.W.Fast.tw15118197659409279831 : Unit := ()
def PySem.W.Fast.tw9095460146762035980 : Unit := ()
def PySem.W.Fast.tw15961138176158502185 : Unit := ()
def PySem.W.Fast.tw8643568602737672719 : Unit := ()
def PySem.W.Fast.tw4506053572269873154 : Unit := ()
def PySem.W.Fast.tw3477380216491735828 : Unit := ()
def PySem.W.Fast.tw16685423640513478551 : Unit := ()
def PySem.W.Fast.tw16090761737597221885 : Unit := ()
def PySem.W.Fast.tw3435713915673947560 : Unit := ()
def PySem.W.Fast.tw2332378413133328827 : Unit := ()
def PySem.W.Fast.tw11830010256895763502 : Unit := ()
def PySem.W.Fast.tw1363756876275657335 : Unit := ()
def PySem.W.Fast.tw8788885997812965147 : Unit := ()
def PySem.W.Fast.tw7491681873561915203 : Unit := ()
def PySem.W.Fast.tw8215694114814542058 : Unit := ()
def PySem.W.Fast.tw2592225200739213498 : Unit := ()
def PySem.W.Fast.tw569429147923154863 : Unit := ()
def PySem.W.Fast.tw1501828164176235495 : Unit := ()
def PySem.W.Fast.tw2327511614751232473 : Unit := ()
def PySem.W.Fast.tw3831168944083509351 : Unit := ()
def PySem.W.Fast.tw5272240460163607264 : Unit := ()
def PySem.W.Fast.tw17564338543456633549 : Unit := ()
def PySem.W.Fast.tw14867180542775548679 : Unit := ()
def PySem.W.Fast.tw8720134264683247721 : Unit := ()
def PySem.W.Fast.tw2326287315266218938 : Unit := ()
def PySem.W.Fast.tw3906954816429485341 : Unit := ()
def PySem.W.Fast.tw17256691502405562616 : Unit := ()
def PySem.W.Fast.tw5721542698016169217 : Unit := ()
def PySem.W.Fast.tw13985847428685239476 : Unit := ()
def PySem.W.Fast.tw12983031700896454877 : Unit := ()
def PySem.W.Fast.tw8391311055778426579 : Unit := ()
def PySem.W.Fast.tw7277062047179821299 : Unit := ()
def PySem.W.Fast.tw15435794455548583117 : Unit := ()
def PySem.W.Fast.tw1956033595042815974 : Unit := ()
def PySem.W.Fast.tw11061152448615044465 : Unit := ()
def PySem.W.Fast.tw12204856826109350791 : Unit := ()
def PySem.W.Fast.tw10771691654175371251 : Unit := ()
def PySem.W.Fast.tw11791006787786551609 : Unit := ()
def PySem.W.Fast.tw4557126644220370657 : Unit := ()
def PySem.W.Fast.tw2451811430248479838 : Unit := ()
def PySem.W.Fast.tw9421586531426607554 : Unit := ()
def PySem.W.Fast.tw6942156532671513224 : Unit := ()
def PySem.W.Fast.tw6295704512413773416 : Unit := ()
def PySem.W.Fast.tw12137467413337577096 : Unit := ()
def PySem.W.Fast.tw3745948359637105251 : Unit := ()
def PySem.W.Fast.tw1351244834261432442 : Unit := ()
def PySem.W.Fast.tw11124541353707541531 : Unit := ()
def PySem.W.Fast.tw17638769293026851030 : Unit := ()
def PySem.W.Fast.tw12587291014005487099 : Unit := ()
def PySem.W.Fast.tw915073790967402067 : Unit := ()
def PySem.W.Fast.tw10994868996153471837 : Unit := ()
def PySem.W.Fast.tw15973529935548382563 : Unit := ()
def PySem.W.Fast.tw18324610517741022737 : Unit := ()
def PySem.W.Fast.tw771341889470822796 : Unit := ()
def PySem.W.Fast.tw433775894931542949 : Unit := ()
def PySem.W.Fast.tw11450890013390936341 : Unit := ()
def PySem.W.Fast.tw5094314290727474271 : Unit := ()
def PySem.W.Fast.tw107849364350644540 : Unit := ()
def PySem.W.Fast.tw1765868229746966491 : Unit := ()
def PySem.W.Fast.tw7456310999506223069 : Unit := ()
def PySem.W.Fast.tw3897605638135131200 : Unit := ()
def PySem.W.Fast.tw720142765162704498 : Unit := ()
def PySem.W.Fast.tw14389529911691935295 : Unit := ()
def PySem.W.Fast.tw8069786647880559993 : Unit := ()
def PySem.W.Fast.tw13492376582554573068 : Unit := ()
def PySem.W.Fast.tw4663780030390029948 : Unit := ()
def PySem.W.Fast.tw901276061461869399 : Unit := ()
def PySem.W.Fast.tw7688603561466158561 : Unit := ()
def PySem.W.Fast.tw10922291182132366397 : Unit := ()
def PySem.W.Fast.tw9918131587044588872 : Unit := ()
def PySem.W.Fast.tw8624410714686706219 : Unit := ()
def PySem.W.Fast.tw17660356933119707818 : Unit := ()
def PySem.W.Fast.tw7943048429779840989 : Unit := ()
def PySem.W.Fast.tw5585860702429790270 : Unit := ()
def PySem.W.Fast.tw1602779652517036163 : Unit := ()
def PySem.W.Fast.tw12284514521221116209 : Unit := ()
def PySem.W.Fast.tw10310178133554163141 : Unit := ()
def PySem.W.Fast.tw3156955035744259484 : Unit := ()
def PySem.W.Fast.tw9001986495116611286 : Unit := ()
def PySem.W.Fast.tw8118764034435124112 : Unit := ()
def PySem.W.Fast.tw5456169419155541613 : Unit := ()
def PySem.W.Fast.tw1470511592459805120 : Unit := ()
def PySem.W.Fast.tw9833873130318176374 : Unit := ()
def PySem.W.Fast.tw15779973538201419322 : Unit := ()
def PySem.W.Fast.tw1687145126697828152 : Unit := ()
def PySem.W.Fast.tw16008401329956422834 : Unit := ()
def PySem.W.Fast.tw9085611949505177986 : Unit := ()
def PySem.W.Fast.tw17474936394104093520 : Unit := ()
def PySem.W.Fast.tw3038596970556127055 : Unit := ()
def PySem.W.Fast.tw5618879143951237629 : Unit := ()
def PySem.W.Fast.tw8437178751144598158 : Unit := ()
def PySem.W.Fast.tw5109363179228467795 : Unit := ()
def PySem.W.Fast.tw13539590213452034506 : Unit := ()
def PySem.W.Fast.tw16983066295628759030 : Unit := ()
def PySem.W.Fast.tw1874880929420421762 : Unit := ()
def PySem.W.Fast.tw12022212769826083023 : Unit := ()
def PySem.W.Fast.tw3213936206853390283 : Unit := ()
def PySem.W.Fast.tw1724874651774720063 : Unit := ()
def PySem.W.Fast.tw16691315406184258733 : Unit := ()
def PySem.W.Fast.tw7425220920335060679 : Unit := ()
def PySem.W.Fast.tw12308594368862211556 : Unit := ()
def PySem.W.Fast.tw4420383418000298005 : Unit := ()
def PySem.W.Fast.tw6438000869308707986 : Unit := ()
def PySem.W.Fast.tw7532142512549925432 : Unit := ()
def PySem.W.Fast.tw2874579428988664707 : Unit := ()
def PySem.W.Fast.tw6983982387508962783 : Unit := ()
def PySem.W.Fast.tw15864403407147872007 : Unit := ()
def PySem.W.Fast.tw3982009257517367527 : Unit := ()
def PySem.W.Fast.tw7710780237536955823 : Unit := ()
def PySem.W.Fast.tw4748991806124756381 : Unit := ()
def PySem.W.Fast.tw4113550986276814312 : Unit := ()
def PySem.W.Fast.tw10480720934580515770 : Unit := ()
def PySem.W.Fast.tw15260166461140244403 : Unit := ()
def PySem.W.Fast.tw6303484620989125388 : Unit := ()
def PySem.W.Fast.tw1747475069822095037 : Unit := ()
def PySem.W.Fast.tw8109350913625925050 : Unit := ()
def PySem.W.Fast.tw13836323126615658182 : Unit := ()
def PySem.W.Fast.tw10562097324798167611 : Unit := ()
def PySem.W.Fast.tw10442809512035057956 : Unit := ()
def PySem.W.Fast.tw7032985775986585010 : Unit := ()
def PySem.W.Fast.tw15452875843746485681 : Unit := ()
def PySem.W.Fast.tw8918381231854560861 : Unit := ()
def PySem.W.Fast.tw11537135939749485140 : Unit := ()
def PySem.W.Fast.tw1438311942645818228 : Unit := ()
def PySem.W.Fast.tw10327796726648868520 : Unit := ()
def PySem.W.Fast.tw5356323442915908076 : Unit := ()
def PySem.W.Fast.tw17486716587065292501 : Unit := ()
def PySem.W.Fast.tw1408922913456527345 : Unit := ()
def PySem.W.Fast.tw15050783457454361958 : Unit := ()
def PySem.W.Fast.tw10082469088797780091 : Unit := ()
def PySem.W.Fast.tw15596382522798539755 : Unit := ()
def PySem.W.Fast.tw156090621632283460 : Unit := ()
def PySem.W.Fast.tw16306951708668519282 : Unit := ()
def PySem.W.Fast.tw12133709873900938262 : Unit := ()
def PySem.W.Fast.tw8228828689129255980 : Unit := ()
def PySem.W.Fast.tw5355489647357711993 : Unit := ()
def PySem.W.Fast.tw13856194842069681786 : Unit := ()
def PySem.W.Fast.tw16295791948133363456 : Unit := ()
def PySem.W.Fast.tw7032896586706511914 : Unit := ()
def PySem.W.Fast.tw10133744723224983000 : Unit := ()
def PySem.W.Fast.tw9933848030215292236 : Unit := ()
def PySem.W.Fast.tw6639871384871986774 : Unit := ()
def PySem.W.Fast.tw11554036377453788083 : Unit := ()
def PySem.W.Fast.tw3040413924441311294 : Unit := ()
def PySem.W.Fast.tw585944587822483541 : Unit := ()
def PySem.W.Fast.tw3035796575342390155 : Unit := ()
def PySem.W.Fast.tw273621004562057010 : Unit := ()
def PySem.W.Fast.tw14251964944191257627 : Unit := ()
def PySem.W.Fast.tw2671683555801351450 : Unit := ()
def PySem.W.Fast.tw10478698800276537512 : Unit := ()
def PySem.W.Fast.tw5792018641030788992 : Unit := ()
def PySem.W.Fast.tw8035008386467021200 : Unit := ()
def PySem.W.Fast.tw15879686549067409479 : Unit := ()
def PySem.W.Fast.tw17044139628203835761 : Unit := ()
def PySem.W.Fast.tw11184753429648339058 : Unit := ()
def PySem.W.Fast.tw6255153038837957900 : Unit := ()
def PySem.W.Fast.tw2356114389543590447 : Unit := ()
def PySem.W.Fast.tw12976837033605377237 : Unit := ()
def PySem.W.Fast.tw373171409043864185 : Unit := ()
def PySem.W.Fast.tw6607080873376481357 : Unit := ()
def PySem.W.Fast.tw3310343305476250282 : Unit := ()
def PySem.W.Fast.tw8760888679282822854 : Unit := ()
def PySem.W.Fast.tw13625896367931970847 : Unit := ()
def PySem.W.Fast.tw3916719400476315843 : Unit := ()
def PySem.W.Fast.tw17695495236191442695 : Unit := ()
def PySem.W.Fast.tw3362888455770393084 : Unit := ()
def PySem.W.Fast.tw15802871539672270257 : Unit := ()
def PySem.W.Fast.tw9949295223244145318 : Unit := ()
def PySem.W.Fast.tw18299734079736685111 : Unit := ()
def PySem.W.Fast.tw335781263987282984 : Unit := ()
def PySem.W.Fast.tw6533517354597279717 : Unit := ()
def PySem.W.Fast.tw13647799890142606094 : Unit := ()
def PySem.W.Fast.tw1069294294608815624 : Unit := ()
def PySem.W.Fast.tw10333167726440043754 : Unit := ()
def PySem.W.Fast.tw4866267955576975665 : Unit := ()
def PySem.W.Fast.tw2623936910726221975 : Unit := ()
def PySem.W.Fast.tw1242231830985327803 : Unit := ()
def PySem.W.Fast.tw14404769081616136214 : Unit := ()
def PySem.W.Fast.tw10857687106758128214 : Unit := ()
def PySem.W.Fast.tw13881494070025123834 : Unit := ()
def PySem.W.Fast.tw8847112832918634563 : Unit := ()
def PySem.W.Fast.tw10008009457243633550 : Unit := ()
def PySem.W.Fast.tw16617215558625893007 : Unit := ()
def PySem.W.Fast.tw9736059563813361821 : Unit := ()
def PySem.W.Fast.tw2370554139715917379 : Unit := ()
def PySem.W.Fast.tw15740820200064327250 : Unit := ()
def PySem.W.Fast.tw11659252124811549191 : Unit := ()
def PySem.W.Fast.tw11941851309437062605 : Unit := ()
def PySem.W.Fast.tw14520859802943739023 : Unit := ()
def PySem.W.Fast.tw8933233316346431641 : Unit := ()
def PySem.W.Fast.tw8876277498533727219 : Unit := ()
def PySem.W.Fast.tw17284983228172323111 : Unit := ()
def PySem.W.Fast.tw10050598426541710178 : Unit := ()
def PySem.W.Fast.tw12866886652133395108 : Unit := ()
def PySem.W.Fast.tw6418126396405479805 : Unit := ()
def PySem.W.Fast.tw9549455487716573073 : Unit := ()
def PySem.W.Fast.tw16472228877631734427 : Unit := ()
def PySem.W.Fast.tw6764412687443434385 : Unit := ()
def PySem.W.Fast.tw8452543533533968043 : Unit := ()
def PySem.W.Fast.tw525158518496822768 : Unit := ()
def PySem.W.Fast.tw8752439023911624187 : Unit := ()
def PySem.W.Fast.tw7314256507050936896 : Unit := ()
def PySem.W.Fast.tw3031162871324984106 : Unit := ()
def PySem.W.Fast.tw6928688796801740895 : Unit := ()
def PySem.W.Fast.tw11603290954658071221 : Unit := ()
def PySem.W.Fast.tw7699787830654752187 : Unit := ()
def PySem.W.Fast.tw6899203758621149826 : Unit := ()
def PySem.W.Fast.tw10128832778611052593 : Unit := ()
def PySem.W.Fast.tw3803761874229872575 : Unit := ()
def PySem.W.Fast.tw8388051334137666060 : Unit := ()
def PySem.W.Fast.tw12687502277215516383 : Unit := ()
def PySem.W.Fast.tw6107142857507770434 : Unit := ()
def PySem.W.Fast.tw2186121601120636906 : Unit := ()
def PySem.W.Fast.tw156733581682011253 : Unit := ()
def PySem.W.Fast.tw12390668578365795394 : Unit := ()
def PySem.W.Fast.tw10578521029944058896 : Unit := ()
def PySem.W.Fast.tw8095808772308498387 : Unit := ()
def PySem.W.Fast.tw17680272895735833241 : Unit := ()
def PySem.W.Fast.tw14394003628459598952 : Unit := ()
def PySem.W.Fast.tw7006953667402772388 : Unit := ()
def PySem.W.Fast.tw8065099975712523822 : Unit := ()
def PySem.W.Fast.tw13729142107416721276 : Unit := ()
def PySem.W.Fast.tw5440089694341214066 : Unit := ()
def PySem.W.Fast.tw8091061206334464964 : Unit := ()
def PySem.W.Fast.tw5922563049000327676 : Unit := ()
def PySem.W.Fast.tw15996428548476691666 : Unit := ()
def PySem.W.Fast.tw10896972156761545978 : Unit := ()
def PySem.W.Fast.tw5451273910205062600 : Unit := ()
def PySem.W.Fast.tw11560564655615353546 : Unit := ()
def PySem.W.Fast.tw13312960502304780871 : Unit := ()
def PySem.W.Fast.tw15748347576976855000 : Unit := ()
def PySem.W.Fast.tw1376049627422633532 : Unit := ()
def PySem.W.Fast.tw6617182338161100998 : Unit := ()
def PySem.W.Fast.tw12457407976041235181 : Unit := ()
def PySem.W.Fast.tw3498709699058418610 : Unit := ()
def PySem.W.Fast.tw12413637478199939694 : Unit := ()
def PySem.W.Fast.tw6365324208080704539 : Unit := ()
def PySem.W.Fast.tw6120695828415210509 : Unit := ()
def PySem.W.Fast.tw11808569577791861768 : Unit := ()
def PySem.W.Fast.tw5688296139267227289 : Unit := ()
def PySem.W.Fast.tw16835379058970617035 : Unit := ()
def PySem.W.Fast.tw4175507917096790555 : Unit := ()
def PySem.W.Fast.tw15998624467884750771 : Unit := ()
def PySem.W.Fast.tw13134810136672281000 : Unit := ()
def PySem.W.Fast.tw10442951528885330286 : Unit := ()
def PySem.W.Fast.tw14206750012233089539 : Unit := ()
def PySem.W.Fast.tw1439497078489324194 : Unit := ()
def PySem.W.Fast.tw12247247583838967253 : Unit := ()
def PySem.W.Fast.tw9774909047967750670 : Unit := ()
def PySem.W.Fast.tw8084875136965970845 : Unit := ()
def PySem.W.Fast.tw857641497735654991 : Unit := ()
def PySem.W.Fast.tw18068749486820696476 : Unit := ()
def PySem.W.Fast.tw9388323645201956412 : Unit := ()
def PySem.W.Fast.tw2728400265631255017 : Unit := ()
def PySem.W.Fast.tw7887145013691516185 : Unit := ()
def PySem.W.Fast.tw4542830529206469306 : Unit := ()
def PySem.W.Fast.tw3496532828441231710 : Unit := ()
def PySem.W.Fast.tw8811353245935712010 : Unit := ()
def PySem.W.Fast.tw6960557977177400652 : Unit := ()
def PySem.W.Fast.tw3659781243354929302 : Unit := ()
def PySem.W.Fast.tw7767198726787131840 : Unit := ()
def PySem.W.Fast.tw16322987418793217295 : Unit := ()
def PySem.W.Fast.tw12154377846590461582 : Unit := ()
def PySem.W.Fast.tw9085705434571336009 : Unit := ()
def PySem.W.Fast.tw11949921133159071347 : Unit := ()
def PySem.W.Fast.tw15845187175005511929 : Unit := ()
def PySem.W.Fast.tw1514913115737064312 : Unit := ()
def PySem.W.Fast.tw12848169198879970474 : Unit := ()
def PySem.W.Fast.tw3733176446055942996 : Unit := ()
def PySem.W.Fast.tw17871344076452479759 : Unit := ()
def PySem.W.Fast.tw12929480031269288304 : Unit := ()
def PySem.W.Fast.tw15782991280314033899 : Unit := ()
def PySem.W.Fast.tw9155597608622736355 : Unit := ()
def PySem.W.Fast.tw17345071349167240933 : Unit := ()
def PySem.W.Fast.tw7126540888443286805 : Unit := ()
def PySem.W.Fast.tw13199012800730885310 : Unit := ()
def PySem.W.Fast.tw18165514579049178396 : Unit := ()
def PySem.W.Fast.tw7630171888545512904 : Unit := ()
def PySem.W.Fast.tw6127459250672028891 : Unit := ()
def PySem.W.Fast.tw7653437927108752623 : Unit := ()
def PySem.W.Fast.tw12915703287326556698 : Unit := ()
def PySem.W.Fast.tw11108704773242958820 : Unit := ()
def PySem.W.Fast.tw13316778424207521946 : Unit := ()
def PySem.W.Fast.tw16462635516461466199 : Unit := ()
def PySem.W.Fast.tw7620804240685400134 : Unit := ()
def PySem.W.Fast.tw8613025542639901516 : Unit := ()
def PySem.W.Fast.tw7385064771633642305 : Unit := ()
def PySem.W.Fast.tw4243039838113387822 : Unit := ()
def PySem.W.Fast.tw2563609475589285176 : Unit := ()
def PySem.W.Fast.tw8951621842625916027 : Unit := ()
def PySem.W.Fast.tw5224994791332708093 : Unit := ()
def PySem.W.Fast.tw3548248812921419366 : Unit := ()
def PySem.W.Fast.tw2054435057131365950 : Unit := ()
def PySem.W.Fast.tw11093734649059446729 : Unit := ()
def PySem.W.Fast.tw9721153525682049962 : Unit := ()
def PySem.W.Fast.tw17856644450712283103 : Unit := ()
def PySem.W.Fast.tw8859027733901956806 : Unit := ()
def PySem.W.Fast.tw14588857470774948790 : Unit := ()
def PySem.W.Fast.tw12220998698405218729 : Unit := ()
def PySem.W.Fast.tw4266443325221826052 : Unit := ()
def PySem.W.Fast.tw14614513224664344598 : Unit := ()
def PySem.W.Fast.tw13889351536874000662 : Unit := ()
def PySem.W.Fast.tw5033214811833946839 : Unit := ()
def PySem.W.Fast.tw13866527173298120804 : Unit := ()
def PySem.W.Fast.tw14632791921353525739 : Unit := ()
def PySem.W.Fast.tw12336947652991970076 : Unit := ()
def PySem.W.Fast.tw14574063504246281220 : Unit := ()
def PySem.W.Fast.tw14963651764111515643 : Unit := ()
def PySem.W.Fast.tw7292934068871353173 : Unit := ()
def PySem.W.Fast.tw8409411053009803996 : Unit := ()
def PySem.W.Fast.tw5448563680400662926 : Unit := ()
def PySem.W.Fast.tw13967231599688527115 : Unit := ()
def PySem.W.Fast.tw8570067296633288712 : Unit := ()
def PySem.W.Fast.tw2970761227644462325 : Unit := ()
def PySem.W.Fast.tw8394115011955487540 : Unit := ()
def PySem.W.Fast.tw6082862637411720689 : Unit := ()
def PySem.W.Fast.tw8676878447581344242 : Unit := ()
def PySem.W.Fast.tw14556353601036314856 : Unit := ()
def PySem.W.Fast.tw4050411294515236920 : Unit := ()
def PySem.W.Fast.tw3120877111722584244 : Unit := ()
def PySem.W.Fast.tw14630146083386702339 : Unit := ()
def PySem.W.Fast.tw5777211580523842900 : Unit := ()
def PySem.W.Fast.tw2945328967454498939 : Unit := ()
def PySem.W.Fast.tw8752046217797612991 : Unit := ()
def PySem.W.Fast.tw276103227361695219 : Unit := ()
def PySem.W.Fast.tw3775986653993613355 : Unit := ()
def PySem.W.Fast.tw13509275104753225907 : Unit := ()
def PySem.W.Fast.tw11967715170078809415 : Unit := ()
def PySem.W.Fast.tw4371339281885341070 : Unit := ()
def PySem.W.Fast.tw18039886045366606401 : Unit := ()
def PySem.W.Fast.tw11437999875033723824 : Unit := ()
def PySem.W.Fast.tw3866143469923657936 : Unit := ()
def PySem.W.Fast.tw6901198796990132736 : Unit := ()
def PySem.W.Fast.tw2023104199361138515 : Unit := ()
def PySem.W.Fast.tw5623238674153731642 : Unit := ()
def PySem.W.Fast.tw17343501932282467260 : Unit := ()
def PySem.W.Fast.tw14890826762874913826 : Unit := ()
def PySem.W.Fast.tw2521423863242758141 : Unit := ()
def PySem.W.Fast.tw9869035511629760953 : Unit := ()
def PySem.W.Fast.tw7373122586591939277 : Unit := ()
def PySem.W.Fast.tw2176931667791906605 : Unit := ()
def PySem.W.Fast.tw11924716559204206654 : Unit := ()
def PySem.W.Fast.tw9090583296173391490 : Unit := ()
def PySem.W.Fast.tw13067128043181828283 : Unit := ()
def PySem.W.Fast.tw18194347813421127536 : Unit := ()
def PySem.W.Fast.tw2598425847780634953 : Unit := ()
def PySem.W.Fast.tw12646967052216158484 : Unit := ()
def PySem.W.Fast.tw17526429176719213784 : Unit := ()
def PySem.W.Fast.tw3966792282930386489 : Unit := ()
def PySem.W.Fast.tw17653239829394773332 : Unit := ()
def PySem.W.Fast.tw626431656933736680 : Unit := ()
def PySem.W.Fast.tw16916993330452499673 : Unit := ()
def PySem.W.Fast.tw9526514603018979745 : Unit := ()
def PySem.W.Fast.tw1840641546206107018 : Unit := ()
def PySem.W.Fast.tw15206840568115734449 : Unit := ()
def PySem.W.Fast.tw11733456130474558677 : Unit := ()
def PySem.W.Fast.tw5416254793365035294 : Unit := ()
def PySem.W.Fast.tw12218130074655608205 : Unit := ()
def PySem.W.Fast.tw15880088387199766084 : Unit := ()
def PySem.W.Fast.tw15944938636301620192 : Unit := ()
def PySem.W.Fast.tw5570307183686255735 : Unit := ()
def PySem.W.Fast.tw4493149974028642818 : Unit := ()
def PySem.W.Fast.tw3195414975730593140 : Unit := ()
def PySem.W.Fast.tw555781520891933584 : Unit := ()
def PySem.W.Fast.tw8346123451241351149 : Unit := ()
def PySem.W.Fast.tw8334849534501968611 : Unit := ()
def PySem.W.Fast.tw10959649447352111588 : Unit := ()
def PySem.W.Fast.tw17725358601574875948 : Unit := ()
def PySem.W.Fast.tw16191280405824239381 : Unit := ()
def PySem.W.Fast.tw12332113008025265048 : Unit := ()
def PySem.W.Fast.tw2696949172440177425 : Unit := ()
def PySem.W.Fast.tw138873945570952765 : Unit := ()
def PySem.W.Fast.tw14684314513329407920 : Unit := ()
def PySem.W.Fast.tw18215449028602878234 : Unit := ()
def PySem.W.Fast.tw14374118659115803022 : Unit := ()
def PySem.W.Fast.tw2970364494316814856 : Unit := ()
def PySem.W.Fast.tw2942957361937441636 : Unit := ()
def PySem.W.Fast.tw5708808868243403796 : Unit := ()
def PySem.W.Fast.tw16800450152038771496 : Unit := ()
def PySem.W.Fast.tw7802693912022515071 : Unit := ()
def PySem.W.Fast.tw5772228154177722060 : Unit := ()
def PySem.W.Fast.tw3329722321902757424 : Unit := ()
def PySem.W.Fast.tw307955363707369359 : Unit := ()
def PySem.W.Fast.tw9425115162353720349 : Unit := ()
def PySem.W.Fast.tw4189309684468975739 : Unit := ()
def PySem.W.Fast.tw10297616605206310523 : Unit := ()
def PySem.W.Fast.tw15735712044492036037 : Unit := ()
def PySem.W.Fast.tw13414452239602785054 : Unit := ()
def PySem.W.Fast.tw4524204024810913356 : Unit := ()
def PySem.W.Fast.tw15475593772103782941 : Unit := ()
def PySem.W.Fast.tw12025491763932267298 : Unit := ()
def PySem.W.Fast.tw4043487973314978263 : Unit := ()
def PySem.W.Fast.tw15490887727999118454 : Unit := ()
def PySem.W.Fast.tw10161343439034387597 : Unit := ()
def PySem.W.Fast.tw15390254848295556484 : Unit := ()
def PySem.W.Fast.tw1059386882444173252 : Unit := ()
def PySem.W.Fast.tw6693410753779316494 : Unit := ()
def PySem.W.Fast.tw5423435351810888652 : Unit := ()
def PySem.W.Fast.tw12924761038232989116 : Unit := ()
def PySem.W.Fast.tw11751847755732087111 : Unit := ()
def PySem.W.Fast.tw5107929750198377645 : Unit := ()
def PySem.W.Fast.tw17532236570876839645 : Unit := ()
def PySem.W.Fast.tw656423624003894168 : Unit := ()
def PySem.W.Fast.tw1883434784599874249 : Unit := ()
def PySem.W.Fast.tw11436735632691141272 : Unit := ()
def PySem.W.Fast.tw13181146705281184227 : Unit := ()
def PySem.W.Fast.tw16702778774039131284 : Unit := ()
def PySem.W.Fast.tw10201260029623462441 : Unit := ()
def PySem.W.Fast.tw10591531302267834786 : Unit := ()
def PySem.W.Fast.tw2162750546120914705 : Unit := ()
def PySem.W.Fast.tw17558360558971378773 : Unit := ()
def PySem.W.Fast.tw11427733844643571803 : Unit := ()
def PySem.W.Fast.tw9512843580762233333 : Unit := ()
def PySem.W.Fast.tw15878661846889884467 : Unit := ()
def PySem.W.Fast.tw7260187760301519503 : Unit := ()
def PySem.W.Fast.tw9274017471903976420 : Unit := ()
def PySem.W.Fast.tw11733244814900384375 : Unit := ()
def PySem.W.Fast.tw1872490595197494491 : Unit := ()
def PySem.W.Fast.tw4609597643756993428 : Unit := ()
def PySem.W.Fast.tw5289624283003526434 : Unit := ()
def PySem.W.Fast.tw11630794275096666967 : Unit := ()
def PySem.W.Fast.tw16637471415814213684 : Unit := ()
def PySem.W.Fast.tw7555448339939489443 : Unit := ()
def PySem.W.Fast.tw12152515428188987223 : Unit := ()
def PySem.W.Fast.tw714903248791284272 : Unit := ()
def PySem.W.Fast.tw5699257786765329240 : Unit := ()
def PySem.W.Fast.tw10874399114750345745 : Unit := ()
def PySem.W.Fast.tw14298022893428677878 : Unit := ()
def PySem.W.Fast.tw4593184100305946560 : Unit := ()
def PySem.W.Fast.tw12520823521338029009 : Unit := ()
def PySem.W.Fast.tw15009405193798104731 : Unit := ()
def PySem.W.Fast.tw12105743300187689702 : Unit := ()
def PySem.W.Fast.tw9992119968879550468 : Unit := ()
def PySem.W.Fast.tw16398122884849514841 : Unit := ()
def PySem.W.Fast.tw12952218729126958515 : Unit := ()
def PySem.W.Fast.tw10506781683429000628 : Unit := ()
def PySem.W.Fast.tw17660435939369557324 : Unit := ()
def PySem.W.Fast.tw11465333996321441891 : Unit := ()
def PySem.W.Fast.tw1614828795004221234 : Unit := ()
def PySem.W.Fast.tw6684998376695124671 : Unit := ()
def PySem.W.Fast.tw6463559958853048761 : Unit := ()
def PySem.W.Fast.tw16845148670334191467 : Unit := ()
def PySem.W.Fast.tw12641028946686468127 : Unit := ()
def PySem.W.Fast.tw7288367746193475373 : Unit := ()
def PySem.W.Fast.tw6571635474083121195 : Unit := ()
def PySem.W.Fast.tw5035737727780959069 : Unit := ()
def PySem.W.Fast.tw5202826054147761 : Unit := ()
def PySem.W.Fast.tw7634914296885214418 : Unit := ()
def PySem.W.Fast.tw16215138157757720692 : Unit := ()
def PySem.W.Fast.tw14707253340533742998 : Unit := ()
def PySem.W.Fast.tw8137012729893790830 : Unit := ()
def PySem.W.Fast.tw5825144101752975113 : Unit := ()
def PySem.W.Fast.tw3155324947926395107 : Unit := ()
def PySem.W.Fast.tw12885022067435553598 : Unit := ()
def PySem.W.Fast.tw1901907890851656189 : Unit := ()
def PySem.W.Fast.tw8756164061165337123 : Unit := ()
def PySem.W.Fast.tw15264026510835701458 : Unit := ()
def PySem.W.Fast.tw6467720398642768824 : Unit := ()
def PySem.W.Fast.tw3801822926531643244 : Unit := ()
def PySem.W.Fast.tw5313949837632695840 : Unit := ()
def PySem.W.Fast.tw8160595006723575396 : Unit := ()
def PySem.W.Fast.tw17357705525590111777 : Unit := ()
def PySem.W.Fast.tw6409207971217616709 : Unit := ()
def PySem.W.Fast.tw8961031485221333164 : Unit := ()
def PySem.W.Fast.tw6644205153774409479 : Unit := ()
def PySem.W.Fast.tw9685792735122008721 : Unit := ()
def PySem.W.Fast.tw2228804972390808523 : Unit := ()
def PySem.W.Fast.tw13689733715406969701 : Unit := ()
def PySem.W.Fast.tw9217917932339012137 : Unit := ()
def PySem.W.Fast.tw4709717502276789901 : Unit := ()
def PySem.W.Fast.tw12573777481741898202 : Unit := ()
def PySem.W.Fast.tw1950023006291260230 : Unit := ()
def PySem.W.Fast.tw2464372202860251025 : Unit := ()
def PySem.W.Fast.tw14079228936266073674 : Unit := ()
def PySem.W.Fast.tw5502014952271260725 : Unit := ()
def PySem.W.Fast.tw12406389703853318835 : Unit := ()
def PySem.W.Fast.tw9887097254608339500 : Unit := ()
def PySem.W.Fast.tw11262046934641882451 : Unit := ()
def PySem.W.Fast.tw2942023414050274908 : Unit := ()
def PySem.W.Fast.tw6896354359432458253 : Unit := ()
def PySem.W.Fast.tw15484397609722052560 : Unit := ()
def PySem.W.Fast.tw17334753329452366179 : Unit := ()
def PySem.W.Fast.tw14917078885667198526 : Unit := ()
def PySem.W.Fast.tw6213328139390961914 : Unit := ()
def PySem.W.Fast.tw8329197056950032410 : Unit := ()
def PySem.W.Fast.tw4036420402158868671 : Unit := ()
def PySem.W.Fast.tw11334503163623021018 : Unit := ()
def PySem.W.Fast.tw3811866691763238934 : Unit := ()
def PySem.W.Fast.tw902799383885628210 : Unit := ()
def PySem.W.Fast.tw8591248407627245972 : Unit := ()
def PySem.W.Fast.tw1070981098737769297 : Unit := ()
def PySem.W.Fast.tw2621458632612243417 : Unit := ()
def PySem.W.Fast.tw337104508303024926 : Unit := ()
def PySem.W.Fast.tw1320529439321274015 : Unit := ()
def PySem.W.Fast.tw12856683728396728150 : Unit := ()
def PySem.W.Fast.tw6288373574705051893 : Unit := ()
def PySem.W.Fast.tw14432622316424351167 : Unit := ()
def PySem.W.Fast.tw14752831085910977387 : Unit := ()
def PySem.W.Fast.tw14013440361346779673 : Unit := ()
def PySem.W.Fast.tw3580198139723204571 : Unit := ()
def PySem.W.Fast.tw8204218822713386813 : Unit := ()
def PySem.W.Fast.tw2316418825898158463 : Unit := ()
def PySem.W.Fast.tw6597788037782213057 : Unit := ()
def PySem.W.Fast.tw15053979043716277088 : Unit := ()
def PySem.W.Fast.tw131821926986894388 : Unit := ()
def PySem.W.Fast.tw2092062869545354118 : Unit := ()
def PySem.W.Fast.tw8435864638155149836 : Unit := ()
def PySem.W.Fast.tw11357458131014388009 : Unit := ()
def PySem.W.Fast.tw17852540262237734148 : Unit := ()
def PySem.W.Fast.tw4035408619503526232 : Unit := ()
def PySem.W.Fast.tw5099045696272310316 : Unit := ()
def PySem.W.Fast.tw5703246562232847321 : Unit := ()
def PySem.W.Fast.tw15376629779495414016 : Unit := ()
def PySem.W.Fast.tw10454519329801591555 : Unit := ()
def PySem.W.Fast.tw8513429154779071755 : Unit := ()
def PySem.W.Fast.tw1979704311197375058 : Unit := ()
def PySem.W.Fast.tw2342613687457726641 : Unit := ()
def PySem.W.Fast.tw11760442296199980636 : Unit := ()
def PySem.W.Fast.tw372296774495123106 : Unit := ()
def PySem.W.Fast.tw7206424571354106758 : Unit := ()
def PySem.W.Fast.tw16647542365318035740 : Unit := ()
def PySem.W.Fast.tw17464895184917707557 : Unit := ()
def PySem.W.Fast.tw13563975675583163734 : Unit := ()
def PySem.W.Fast.tw4880368851989278281 : Unit := ()
def PySem.W.Fast.tw3812937079652013889 : Unit := ()
def PySem.W.Fast.tw3077875421695481041 : Unit := ()
def PySem.W.Fast.tw7390950281297192520 : Unit := ()
def PySem.W.Fast.tw8384479207875528159 : Unit := ()
def PySem.W.Fast.tw10611723673845417689 : Unit := ()
def PySem.W.Fast.tw11601414886443467843 : Unit := ()
def PySem.W.Fast.tw10925773463965842363 : Unit := ()
def PySem.W.Fast.tw5945813748677031522 : Unit := ()
def PySem.W.Fast.tw12961036790460476840 : Unit := ()
def PySem.W.Fast.tw4082714281517005123 : Unit := ()
def PySem.W.Fast.tw7276256599930271712 : Unit := ()
def PySem.W.Fast.tw404991213576332659 : Unit := ()
def PySem.W.Fast.tw7886293894006816381 : Unit := ()
def PySem.W.Fast.tw10707248714662596729 : Unit := ()
def PySem.W.Fast.tw8205386874781453509 : Unit := ()
def PySem.W.Fast.tw11322040604850148632 : Unit := ()
def PySem.W.Fast.tw16366433873368161217 : Unit := ()
def PySem.W.Fast.tw3130969648412336623 : Unit := ()
def PySem.W.Fast.tw6877697560027027421 : Unit := ()
def PySem.W.Fast.tw1723645746625152254 : Unit := ()
def PySem.W.Fast.tw12782733607293631385 : Unit := ()
def PySem.W.Fast.tw1134248984960522936 : Unit := ()
def PySem.W.Fast.tw3109742442896816195 : Unit := ()
def PySem.W.Fast.tw9024033538074748519 : Unit := ()
def PySem.W.Fast.tw8403230866038355527 : Unit := ()
def PySem.W.Fast.tw14789383014799057675 : Unit := ()
def PySem.W.Fast.tw9245905393848929457 : Unit := ()
def PySem.W.Fast.tw13972832157920532340 : Unit := ()
def PySem.W.Fast.tw5441998882299443665 : Unit := ()
def PySem.W.Fast.tw13175922205638008033 : Unit := ()
def PySem.W.Fast.tw8258845577105285606 : Unit := ()
def PySem.W.Fast.tw12831608587064522336 : Unit := ()
def PySem.W.Fast.tw8724943161251847952 : Unit := ()
def PySem.W.Fast.tw12723257352640424694 : Unit := ()
def PySem.W.Fast.tw8972273218247914407 : Unit := ()
def PySem.W.Fast.tw319497561189580349 : Unit := ()
def PySem.W.Fast.tw7738785391391140682 : Unit := ()
def PySem.W.Fast.tw14757083058586297600 : Unit := ()
def PySem.W.Fast.tw4912936881699080315 : Unit := ()
def PySem.W.Fast.tw918566038260542236 : Unit := ()
def PySem.W.Fast.tw12517307621421040033 : Unit := ()
def PySem.W.Fast.tw2272934305568088642 : Unit := ()
def PySem.W.Fast.tw5350608717185103145 : Unit := ()
def PySem.W.Fast.tw18426550360545592809 : Unit := ()
def PySem.W.Fast.tw7364537860083367077 : Unit := ()
def PySem.W.Fast.tw16211772575260529244 : Unit := ()
def PySem.W.Fast.tw10192580256491939678 : Unit := ()
def PySem.W.Fast.tw4847334081172607151 : Unit := ()
def PySem.W.Fast.tw7286351537318867703 : Unit := ()
def PySem.W.Fast.tw11337281994419372191 : Unit := ()
def PySem.W.Fast.tw9770050765886939345 : Unit := ()
def PySem.W.Fast.tw17907298844970220016 : Unit := ()
def PySem.W.Fast.tw2101280670275269024 : Unit := ()
def PySem.W.Fast.tw17403012267333030868 : Unit := ()
def PySem.W.Fast.tw12969103907356506577 : Unit := ()
def PySem.W.Fast.tw4462239575213267274 : Unit := ()
def PySem.W.Fast.tw2753660817380671689 : Unit := ()
def PySem.W.Fast.tw12735200178216608339 : Unit := ()
def PySem.W.Fast.tw9249497466964129827 : Unit := ()
def PySem.W.Fast.tw17362210631094354545 : Unit := ()
def PySem.W.Fast.tw11180584855246657965 : Unit := ()
def PySem.W.Fast.tw7410693369737975141 : Unit := ()
def PySem.W.Fast.tw10511929819392380926 : Unit := ()
def PySem.W.Fast.tw10917145903609444386 : Unit := ()
def PySem.W.Fast.tw9032475333592904417 : Unit := ()
def PySem.W.Fast.tw12606447733442320604 : Unit := ()
def PySem.W.Fast.tw16837171667959694924 : Unit := ()
def PySem.W.Fast.tw6539329558764296449 : Unit := ()
def PySem.W.Fast.tw4282743127057599679 : Unit := ()
def PySem.W.Fast.tw18322892931244530132 : Unit := ()
def PySem.W.Fast.tw908197230086258901 : Unit := ()
def PySem.W.Fast.tw5890837402552258543 : Unit := ()
def PySem.W.Fast.tw18160294431628904506 : Unit := ()
def PySem.W.Fast.tw9786177416318650869 : Unit := ()
def PySem.W.Fast.tw3865838390883869654 : Unit := ()
def PySem.W.Fast.tw13810229830022335420 : Unit := ()
def PySem.W.Fast.tw16303467709113964441 : Unit := ()
def PySem.W.Fast.tw4117367744558095463 : Unit := ()
def PySem.W.Fast.tw6437022153270722604 : Unit := ()
def PySem.W.Fast.tw17263556650656590776 : Unit := ()
def PySem.W.Fast.tw12475439896551827514 : Unit := ()
def PySem.W.Fast.tw8053044647153076773 : Unit := ()
def PySem.W.Fast.tw7266201515436626959 : Unit := ()
def PySem.W.Fast.tw4004836049201713373 : Unit := ()
def PySem.W.Fast.tw3264299747630434808 : Unit := ()
def PySem.W.Fast.tw3521247876554256901 : Unit := ()
def PySem.W.Fast.tw6225003724075310315 : Unit := ()
def PySem.W.Fast.tw8061505268581029887 : Unit := ()
def PySem.W.Fast.tw9163662917401914807 : Unit := ()
def PySem.W.Fast.tw18057768433486245218 : Unit := ()
def PySem.W.Fast.tw9022721761696048707 : Unit := ()
def PySem.W.Fast.tw10454310744453804391 : Unit := ()
def PySem.W.Fast.tw11576296406298965830 : Unit := ()
def PySem.W.Fast.tw11002581501409653190 : Unit := ()
def PySem.W.Fast.tw552044131938120799 : Unit := ()
def PySem.W.Fast.tw11515670734445889158 : Unit := ()
def PySem.W.Fast.tw10990527657278265733 : Unit := ()
def PySem.W.Fast.tw15752606512035592870 : Unit := ()
def PySem.W.Fast.tw16540188817432310221 : Unit := ()
def PySem.W.Fast.tw11070731423694394183 : Unit := ()
def PySem.W.Fast.tw1383891944567691412 : Unit := ()
def PySem.W.Fast.tw11676018919240479291 : Unit := ()
def PySem.W.Fast.tw13896622071430554689 : Unit := ()
def PySem.W.Fast.tw15051419783414912920 : Unit := ()
def PySem.W.Fast.tw634712778149194452 : Unit := ()
def PySem.W.Fast.tw14792431139737104529 : Unit := ()
def PySem.W.Fast.tw3308971642361922841 : Unit := ()
def PySem.W.Fast.tw11976161856563922112 : Unit := ()
def PySem.W.Fast.tw17302609842648908940 : Unit := ()
def PySem.W.Fast.tw10817517376514063725 : Unit := ()
def PySem.W.Fast.tw14646569440410615665 : Unit := ()
def PySem.W.Fast.tw1294819403925552013 : Unit := ()
def PySem.W.Fast.tw8527291221231867557 : Unit := ()
def PySem.W.Fast.tw9141957994929660600 : Unit := ()
def PySem.W.Fast.tw6489479751215609020 : Unit := ()
def PySem.W.Fast.tw13740984364370682825 : Unit := ()
def PySem.W.Fast.tw15459894807865831881 : Unit := ()
def PySem.W.Fast.tw11752508099915168632 : Unit := ()
def PySem.W.Fast.tw12271943981447226020 : Unit := ()
def PySem.W.Fast.tw11021322027462183036 : Unit := ()
def PySem.W.Fast.tw10301729744454170671 : Unit := ()
def PySem.W.Fast.tw8236868352552485884 : Unit := ()
def PySem.W.Fast.tw12156811490560512211 : Unit := ()
def PySem.W.Fast.tw7974018223124245151 : Unit := ()
def PySem.W.Fast.tw15544665873784397962 : Unit := ()
def PySem.W.Fast.tw7609557683544132274 : Unit := ()
def PySem.W.Fast.tw16865294811575656585 : Unit := ()
def PySem.W.Fast.tw131006403118307166 : Unit := ()
def PySem.W.Fast.tw1613854902208919948 : Unit := ()
def PySem.W.Fast.tw4860219430015084861 : Unit := ()
def PySem.W.Fast.tw12695773576223375937 : Unit := ()
def PySem.W.Fast.tw18273772240927863755 : Unit := ()
def PySem.W.Fast.tw16824131079042259694 : Unit := ()
def PySem.W.Fast.tw5274648607987445348 : Unit := ()
def PySem.W.Fast.tw5462144027848081736 : Unit := ()
def PySem.W.Fast.tw16888840223504911514 : Unit := ()
def PySem.W.Fast.tw463080769342316645 : Unit := ()
def PySem.W.Fast.tw10571746506257173160 : Unit := ()
def PySem.W.Fast.tw17086074159895921159 : Unit := ()
def PySem.W.Fast.tw17829840420650309104 : Unit := ()
def PySem.W.Fast.tw12487125154762567944 : Unit := ()
def PySem.W.Fast.tw13187381959542222531 : Unit := ()
def PySem.W.Fast.tw3985102354487889679 : Unit := ()
def PySem.W.Fast.tw624066017680877780 : Unit := ()
def PySem.W.Fast.tw3833548487648603979 : Unit := ()
def PySem.W.Fast.tw9973378663904278083 : Unit := ()
def PySem.W.Fast.tw17103451481142334377 : Unit := ()
def PySem.W.Fast.tw12238231430193691858 : Unit := ()
def PySem.W.Fast.tw1523716053445360309 : Unit := ()
def PySem.W.Fast.tw10702875786490991857 : Unit := ()
def PySem.W.Fast.tw2690086547510684877 : Unit := ()
def PySem.W.Fast.tw4799033073218332541 : Unit := ()
def PySem.W.Fast.tw8901490559643882664 : Unit := ()
def PySem.W.Fast.tw13408505921413893108 : Unit := ()
def PySem.W.Fast.tw1416648677553617775 : Unit := ()
def PySem.W.Fast.tw9383204637519722416 : Unit := ()
def PySem.W.Fast.tw1944508641867913432 : Unit := ()
def PySem.W.Fast.tw2457753164381281727 : Unit := ()
def PySem.W.Fast.tw6456931053127496165 : Unit := ()
def PySem.W.Fast.tw5582028751689012525 : Unit := ()
def PySem.W.Fast.tw14983447872755616041 : Unit := ()
def PySem.W.Fast.tw5349272006062398273 : Unit := ()
def PySem.W.Fast.tw15768449744483599925 : Unit := ()
def PySem.W.Fast.tw7588116839678559079 : Unit := ()
def PySem.W.Fast.tw14684381539603716812 : Unit := ()
def PySem.W.Fast.tw12829860931529166739 : Unit := ()
def PySem.W.Fast.tw17425147273619198481 : Unit := ()
def PySem.W.Fast.tw506273536955315978 : Unit := ()
def PySem.W.Fast.tw6433303355019393145 : Unit := ()
def PySem.W.Fast.tw717929808776484527 : Unit := ()
def PySem.W.Fast.tw13179674061877596630 : Unit := ()
def PySem.W.Fast.tw7123496424252201654 : Unit := ()
def PySem.W.Fast.tw12579925760190617810 : Unit := ()
def PySem.W.Fast.tw8456047127355904379 : Unit := ()
def PySem.W.Fast.tw6451029783542257517 : Unit := ()
def PySem.W.Fast.tw8361566991415604074 : Unit := ()
def PySem.W.Fast.tw9037464576035198422 : Unit := ()
def PySem.W.Fast.tw18076954032379535163 : Unit := ()
def PySem.W.Fast.tw7931827435786478176 : Unit := ()
def PySem.W.Fast.tw8831907267279246683 : Unit := ()
def PySem.W.Fast.tw5723586455883449994 : Unit := ()
def PySem.W.Fast.tw10349625308289992326 : Unit := ()
def PySem.W.Fast.tw1382749692765672030 : Unit := ()
def PySem.W.Fast.tw17352631317401356744 : Unit := ()
def PySem.W.Fast.tw1328287082351811212 : Unit := ()
def PySem.W.Fast.tw3009329553128966826 : Unit := ()
def PySem.W.Fast.tw1947714774988947324 : Unit := ()
def PySem.W.Fast.tw17889328088844534754 : Unit := ()
def PySem.W.Fast.tw6281121279525221488 : Unit := ()
def PySem.W.Fast.tw9489572492621418049 : Unit := ()
def PySem.W.Fast.tw5806455633129905455 : Unit := ()
def PySem.W.Fast.tw15129288877167715091 : Unit := ()
def PySem.W.Fast.tw9360921728182644883 : Unit := ()
def PySem.W.Fast.tw12944267374129061067 : Unit := ()
def PySem.W.Fast.tw51142435852740455 : Unit := ()
def PySem.W.Fast.tw5481908119988478891 : Unit := ()
def PySem.W.Fast.tw5760977993089011135 : Unit := ()
def PySem.W.Fast.tw6622477124705109835 : Unit := ()
def PySem.W.Fast.tw7148048145456333870 : Unit := ()
def PySem.W.Fast.tw529750276632105504 : Unit := ()
def PySem.W.Fast.tw4673446228242306098 : Unit := ()
def PySem.W.Fast.tw10362676351251093925 : Unit := ()
def PySem.W.Fast.tw11287480931619897735 : Unit := ()
def PySem.W.Fast.tw11917681944181831691 : Unit := ()
def PySem.W.Fast.tw247268018362695619 : Unit := ()
def PySem.W.Fast.tw12112074308351448725 : Unit := ()
def PySem.W.Fast.tw17493695574474741169 : Unit := ()
def PySem.W.Fast.tw694607916938392579 : Unit := ()
def PySem.W.Fast.tw15835264222470462039 : Unit := ()
def PySem.W.Fast.tw4051987103708395388 : Unit := ()
def PySem.W.Fast.tw12600141812861230997 : Unit := ()
def PySem.W.Fast.tw1607952642747247733 : Unit := ()
def PySem.W.Fast.tw13045769256533598527 : Unit := ()
def PySem.W.Fast.tw14026793294655690260 : Unit := ()
def PySem.W.Fast.tw14834683839961802757 : Unit := ()
def PySem.W.Fast.tw1638151213009671536 : Unit := ()
def PySem.W.Fast.tw14511333966498507826 : Unit := ()
def PySem.W.Fast.tw6861530806464544824 : Unit := ()
def PySem.W.Fast.tw2113774014089910969 : Unit := ()
def PySem.W.Fast.tw4687888993798153484 : Unit := ()
def PySem.W.Fast.tw12082106867117616115 : Unit := ()
def PySem.W.Fast.tw1607815987230682152 : Unit := ()
def PySem.W.Fast.tw14656878558069604803 : Unit := ()
def PySem.W.Fast.tw11876587216353049935 : Unit := ()
def PySem.W.Fast.tw16164972891231919556 : Unit := ()
def PySem.W.Fast.tw8738920859898747061 : Unit := ()
def PySem.W.Fast.tw11798264379919676266 : Unit := ()
def PySem.W.Fast.tw6593830295554744038 : Unit := ()
def PySem.W.Fast.tw16862341355730127723 : Unit := ()
def PySem.W.Fast.tw11088745718906299809 : Unit := ()
def PySem.W.Fast.tw14466402313528086194 : Unit := ()
def PySem.W.Fast.tw9424331819291282929 : Unit := ()
def PySem.W.Fast.tw10384497814933483607 : Unit := ()
def PySem.W.Fast.tw2432098935545359982 : Unit := ()
def PySem.W.Fast.tw1823135398126512049 : Unit := ()
def PySem.W.Fast.tw17036675464003455361 : Unit := ()
def PySem.W.Fast.tw13932498816596141509 : Unit := ()
def PySem.W.Fast.tw4522664473520115357 : Unit := ()
def PySem.W.Fast.tw13968733104746355467 : Unit := ()
def PySem.W.Fast.tw19647329911994366 : Unit := ()
def PySem.W.Fast.tw2647541216313201939 : Unit := ()
def PySem.W.Fast.tw15559060501891427983 : Unit := ()
def PySem.W.Fast.tw8548233433415007401 : Unit := ()
def PySem.W.Fast.tw7697656263880827597 : Unit := ()
def PySem.W.Fast.tw10220735162939155097 : Unit := ()
def PySem.W.Fast.tw13472431550081290103 : Unit := ()
def PySem.W.Fast.tw10346590305102337035 : Unit := ()
def PySem.W.Fast.tw7923248457560389229 : Unit := ()
def PySem.W.Fast.tw2782918799267230147 : Unit := ()
def PySem.W.Fast.tw3029393866171149119 : Unit := ()
def PySem.W.Fast.tw7870140908851540927 : Unit := ()
def PySem.W.Fast.tw4037909375592017152 : Unit := ()
def PySem.W.Fast.tw18177575908679278238 : Unit := ()
def PySem.W.Fast.tw12961931304390820344 : Unit := ()
def PySem.W.Fast.tw16051353655831332616 : Unit := ()
def PySem.W.Fast.tw13464077678961431115 : Unit := ()
def PySem.W.Fast.tw13282825710295918111 : Unit := ()
def PySem.W.Fast.tw9833780648950769104 : Unit := ()
def PySem.W.Fast.tw886866340015738907 : Unit := ()
def PySem.W.Fast.tw4545180819865883464 : Unit := ()
def PySem.W.Fast.tw212972433643678305 : Unit := ()
def PySem.W.Fast.tw10830428742605175481 : Unit := ()
def PySem.W.Fast.tw1070531857554127458 : Unit := ()
def PySem.W.Fast.tw11265903857428575335 : Unit := ()
def PySem.W.Fast.tw11043137514597587891 : Unit := ()
def PySem.W.Fast.tw13447351831606499048 : Unit := ()
def PySem.W.Fast.tw7364601046606678737 : Unit := ()
def PySem.W.Fast.tw2906041114063558455 : Unit := ()
set_option maxRecDepth 100000 in
set_option maxHeartbeats 0 in
theorem PySem.Challenge.cw_everydecider_k74_signals_split_holds : PySem.Challenge.rw_everydecider_k74_signals_split.Holds := by
  w_on; o_law; k_head; (case hw => w_witness2)
  k_fill
  refine Lw.walk (l := PySem.Challenge.rw_everydecider_k74_signals_split) rfl rfl (fun w h Y => PySem.W.kIn_of Y) ?F
  case F =>
    intro w mg fa h KX G hmg
    refine' Lw.all_mk KX G hmg ?gca ?gcb ?gaExperiment ?gbExperiment ?gcExperiment ?gdExperiment ?geExperiment ?gfExperiment ?ggExperiment ?ghExperiment ?giExperiment ?gjExperiment ?gnExperimentstates ?gnExperimentsignals ?gnExperimentunit ?gnExperimentrows ?gqExperimentExperiment ?a0 ?l0 ?c0 ?k0 ?a1 ?l1 ?c1 ?k1 ?a2 ?l2 ?c2 ?k2 ?a3 ?l3 ?c3 ?k3 ?a4 ?l4 ?c4 ?k4 ?a5 ?l5 ?c5 ?k5 ?a6 ?l6 ?c6 ?k6 ?a7 ?l7 ?c7 ?k7 ?a8 ?l8 ?c8 ?k8 ?a9 ?l9 ?c9 ?k9 ?a10 ?l10 ?c10 ?k10 ?a11 ?l11 ?c11 ?k11 ?a12 ?l12 ?c12 ?k12 ?a13 ?i13 ?y13 ?l13 ?c13 ?k13 ?a14 ?i14 ?y14 ?l14 ?c14 ?k14 ?a15 ?i15 ?y15 ?l15 ?c15 ?k15 ?a16 ?l16 ?c16 ?k16 ?a17 ?l17 ?c17 ?k17 ?a18 ?l18 ?c18 ?k18 ?a19 ?l19 ?c19 ?k19 ?a20 ?l20 ?c20 ?k20 ?a21 ?l21 ?c21 ?k21 ?a22 ?l22 ?c22 ?k22 ?a23 ?l23 ?c23 ?k23 ?a24 ?l24 ?c24 ?k24 ?a25 ?l25 ?c25 ?k25 ?a26 ?l26 ?c26 ?k26 ?a27 ?l27 ?c27 ?k27 ?a28 ?l28 ?c28 ?k28 ?a29 ?l29 ?c29 ?k29 ?a30 ?l30 ?c30 ?k30 ?a31 ?l31 ?c31 ?k31 ?a32 ?l32 ?c32 ?k32 ?a33 ?l33 ?c33 ?k33 ?a34 ?l34 ?c34 ?k34 ?a35 ?l35 ?c35 ?k35 ?a36 ?l36 ?c36 ?k36 ?ea0 ?eb0 ?ec0 ?ed0 ?ee0 ?ef0 ?eg0 ?eh0 ?ei0 ?ej0 ?ek0 ?el0 ?em0 ?en0 ?eo0 ?ep0 ?ea1 ?eb1 ?ec1 ?ed1 ?ee1 ?ef1 ?eg1 ?eh1 ?ei1 ?ej1 ?ek1 ?el1 ?em1 ?en1 ?eo1 ?ep1 ?ea2 ?eb2 ?ec2 ?ed2 ?ee2 ?ef2 ?eg2 ?eh2 ?ei2 ?ej2 ?ek2 ?el2 ?em2 ?en2 ?eo2 ?ep2 ?ea3 ?eb3 ?ec3 ?ed3 ?ee3 ?ef3 ?eg3 ?eh3 ?ei3 ?ej3 ?ek3 ?el3 ?em3 ?en3 ?eo3 ?ep3 ?ea4 ?eb4 ?ec4 ?ed4 ?ee4 ?ef4 ?eg4 ?eh4 ?ei4 ?ej4 ?ek4 ?el4 ?em4 ?en4 ?eo4 ?ep4 ?ea5 ?eb5 ?ec5 ?ed5 ?ee5 ?ef5 ?eg5 ?eh5 ?ei5 ?ej5 ?ek5 ?el5 ?em5 ?en5 ?eo5 ?ep5 ?ea6 ?eb6 ?ee6 ?ef6 ?eg6 ?ej6 ?ea7 ?eb7 ?ee7 ?ef7 ?eg7 ?ej7 ?es0_0 ?es0_1 ?es0_2 ?es0_3 ?es0_4 ?es0_5 ?es0_6 ?es0_7 ?es1_0 ?es1_1 ?es1_2 ?es1_3 ?es1_4 ?es1_5 ?es1_6 ?es1_7 ?es2_0 ?es2_1 ?es2_2 ?es2_3 ?es2_4 ?es2_5 ?es2_6 ?es2_7 ?es3_0 ?es3_1 ?es3_2 ?es3_3 ?es3_4 ?es3_5 ?es3_6 ?es3_7 ?es4_0 ?es4_1 ?es4_2 ?es4_3 ?es4_4 ?es4_5 ?es4_6 ?es4_7 ?es5_0 ?es5_1 ?es5_2 ?es5_3 ?es5_4 ?es5_5 ?es5_6 ?es5_7 ?es6_0 ?es6_1 ?es6_2 ?es6_3 ?es6_4 ?es6_5 ?es6_6 ?es6_7 ?es7_0 ?es7_1 ?es7_2 ?es7_3 ?es7_4 ?es7_5 ?es7_6 ?es7_7 ?z_isinstance ?z_int ?z_bool ?z_list ?z_tuple ?z_all ?z_sum ?z_MOST_STATES ?z_lcm ?z_gcd ?z_enumerate ?z_len ?z_zip ?z_sorted ?z_max ?z_abs ?z_range ?z_str
    (case gca => k_is)
    (case gcb => k_is)
    (case gaExperiment => k_is)
    (case gbExperiment => k_is)
    (case gcExperiment => k_is)
    (case gdExperiment => k_is)
    (case geExperiment => k_is)
    (case gfExperiment => k_is)
    (case ggExperiment => k_is)
    (case ghExperiment => k_is)
    (case giExperiment => k_is)
    (case gjExperiment => k_is)
    (case gnExperimentstates => k_is)
    (case gnExperimentsignals => k_is)
    (case gnExperimentunit => k_is)
    (case gnExperimentrows => k_is)
    (case gqExperimentExperiment => k_is)
    (case a0 => k_is)
    (case l0 => k_is)
    (case c0 => k_is)
    (case k0 => k_is)
    (case a1 => k_is)
    (case l1 => k_is)
    (case c1 => k_is)
    (case k1 => k_is)
    (case a2 => k_is)
    (case l2 => k_is)
    (case c2 => k_is)
    (case k2 => k_is)
    (case a3 => k_is)
    (case l3 => k_is)
    (case c3 => k_is)
    (case k3 => k_is)
    (case a4 => k_is)
    (case l4 => k_is)
    (case c4 => k_is)
    (case k4 => k_is)
    (case a5 => k_is)
    (case l5 => k_is)
    (case c5 => k_is)
    (case k5 => k_is)
    (case a6 => k_is)
    (case l6 => k_is)
    (case c6 => k_is)
    (case k6 => k_is)
    (case a7 => k_is)
    (case l7 => k_is)
    (case c7 => k_is)
    (case k7 => k_is)
    (case a8 => k_is)
    (case l8 => k_is)
    (case c8 => k_is)
    (case k8 => k_is)
    (case a9 => k_is)
    (case l9 => k_is)
    (case c9 => k_is)
    (case k9 => k_is)
    (case a10 => k_is)
    (case l10 => k_is)
    (case c10 => k_is)
    (case k10 => k_is)
    (case a11 => k_is)
    (case l11 => k_is)
    (case c11 => k_is)
    (case k11 => k_is)
    (case a12 => k_is)
    (case l12 => k_is)
    (case c12 => k_is)
    (case k12 => k_is)
    (case a13 => k_is)
    (case i13 => k_is)
    (case y13 => k_is)
    (case l13 => k_is)
    (case c13 => k_is)
    (case k13 => k_is)
    (case a14 => k_is)
    (case i14 => k_is)
    (case y14 => k_is)
    (case l14 => k_is)
    (case c14 => k_is)
    (case k14 => k_is)
    (case a15 => k_is)
    (case i15 => k_is)
    (case y15 => k_is)
    (case l15 => k_is)
    (case c15 => k_is)
    (case k15 => k_is)
    (case a16 => k_is)
    (case l16 => k_is)
    (case c16 => k_is)
    (case k16 => k_is)
    (case a17 => k_is)
    (case l17 => k_is)
    (case c17 => k_is)
    (case k17 => k_is)
    (case a18 => k_is)
    (case l18 => k_is)
    (case c18 => k_is)
    (case k18 => k_is)
    (case a19 => k_is)
    (case l19 => k_is)
    (case c19 => k_is)
    (case k19 => k_is)
    (case a20 => k_is)
    (case l20 => k_is)
    (case c20 => k_is)
    (case k20 => k_is)
    (case a21 => k_is)
    (case l21 => k_is)
    (case c21 => k_is)
    (case k21 => k_is)
    (case a22 => k_is)
    (case l22 => k_is)
    (case c22 => k_is)
    (case k22 => k_is)
    (case a23 => k_is)
    (case l23 => k_is)
    (case c23 => k_is)
    (case k23 => k_is)
    (case a24 => k_is)
    (case l24 => k_is)
    (case c24 => k_is)
    (case k24 => k_is)
    (case a25 => k_is)
    (case l25 => k_is)
    (case c25 => k_is)
    (case k25 => k_is)
    (case a26 => k_is)
    (case l26 => k_is)
    (case c26 => k_is)
    (case k26 => k_is)
    (case a27 => k_is)
    (case l27 => k_is)
    (case c27 => k_is)
    (case k27 => k_is)
    (case a28 => k_is)
    (case l28 => k_is)
    (case c28 => k_is)
    (case k28 => k_is)
    (case a29 => k_is)
    (case l29 => k_is)
    (case c29 => k_is)
    (case k29 => k_is)
    (case a30 => k_is)
    (case l30 => k_is)
    (case c30 => k_is)
    (case k30 => k_is)
    (case a31 => k_is)
    (case l31 => k_is)
    (case c31 => k_is)
    (case k31 => k_is)
    (case a32 => k_is)
    (case l32 => k_is)
    (case c32 => k_is)
    (case k32 => k_is)
    (case a33 => k_is)
    (case l33 => k_is)
    (case c33 => k_is)
    (case k33 => k_is)
    (case a34 => k_is)
    (case l34 => k_is)
    (case c34 => k_is)
    (case k34 => k_is)
    (case a35 => k_is)
    (case l35 => k_is)
    (case c35 => k_is)
    (case k35 => k_is)
    (case a36 => k_is)
    (case l36 => k_is)
    (case c36 => k_is)
    (case k36 => k_is)
    (case ea0 => k_is)
    (case eb0 => k_is)
    (case ed0 => k_is)
    (case ee0 => k_is)
    (case ef0 => k_is)
    (case eg0 => k_is)
    (case eh0 => k_is)
    (case ei0 => k_is)
    (case ej0 => k_is)
    (case ek0 => k_is)
    (case el0 => k_is)
    (case em0 => k_is)
    (case en0 => k_is)
    (case eo0 => k_is)
    (case ep0 => k_is)
    (case ea1 => k_is)
    (case eb1 => k_is)
    (case ed1 => k_is)
    (case ee1 => k_is)
    (case ef1 => k_is)
    (case eg1 => k_is)
    (case eh1 => k_is)
    (case ei1 => k_is)
    (case ej1 => k_is)
    (case ek1 => k_is)
    (case el1 => k_is)
    (case em1 => k_is)
    (case en1 => k_is)
    (case eo1 => k_is)
    (case ep1 => k_is)
    (case ea2 => k_is)
    (case eb2 => k_is)
    (case ed2 => k_is)
    (case ee2 => k_is)
    (case ef2 => k_is)
    (case eg2 => k_is)
    (case eh2 => k_is)
    (case ei2 => k_is)
    (case ej2 => k_is)
    (case ek2 => k_is)
    (case el2 => k_is)
    (case em2 => k_is)
    (case en2 => k_is)
    (case eo2 => k_is)
    (case ep2 => k_is)
    (case ea3 => k_is)
    (case eb3 => k_is)
    (case ed3 => k_is)
    (case ee3 => k_is)
    (case ef3 => k_is)
    (case eg3 => k_is)
    (case eh3 => k_is)
    (case ei3 => k_is)
    (case ej3 => k_is)
    (case ek3 => k_is)
    (case el3 => k_is)
    (case em3 => k_is)
    (case en3 => k_is)
    (case eo3 => k_is)
    (case ep3 => k_is)
    (case ea4 => k_is)
    (case eb4 => k_is)
    (case ed4 => k_is)
    (case ee4 => k_is)
    (case ef4 => k_is)
    (case eg4 => k_is)
    (case eh4 => k_is)
    (case ei4 => k_is)
    (case ej4 => k_is)
    (case ek4 => k_is)
    (case el4 => k_is)
    (case em4 => k_is)
    (case en4 => k_is)
    (case eo4 => k_is)
    (case ep4 => k_is)
    (case ea5 => k_is)
    (case eb5 => k_is)
    (case ed5 => k_is)
    (case ee5 => k_is)
    (case ef5 => k_is)
    (case eg5 => k_is)
    (case eh5 => k_is)
    (case ei5 => k_is)
    (case ej5 => k_is)
    (case ek5 => k_is)
    (case el5 => k_is)
    (case em5 => k_is)
    (case en5 => k_is)
    (case eo5 => k_is)
    (case ep5 => k_is)
    (case ea6 => k_is)
    (case eb6 => k_exc)
    (case ee6 => k_is)
    (case ef6 => k_is)
    (case eg6 => k_is)
    (case ej6 => k_is)
    (case ea7 => k_is)
    (case eb7 => k_exc)
    (case ee7 => k_is)
    (case ef7 => k_is)
    (case eg7 => k_is)
    (case ej7 => k_is)
    (case es0_0 => k_is)
    (case es0_1 => k_is)
    (case es0_2 => k_is)
    (case es0_3 => k_is)
    (case es0_4 => k_is)
    (case es0_5 => k_is)
    (case es0_6 => k_is)
    (case es0_7 => k_is)
    (case es1_0 => k_is)
    (case es1_1 => k_is)
    (case es1_2 => k_is)
    (case es1_3 => k_is)
    (case es1_4 => k_is)
    (case es1_5 => k_is)
    (case es1_6 => k_is)
    (case es1_7 => k_is)
    (case es2_0 => k_is)
    (case es2_1 => k_is)
    (case es2_2 => k_is)
    (case es2_3 => k_is)
    (case es2_4 => k_is)
    (case es2_5 => k_is)
    (case es2_6 => k_is)
    (case es2_7 => k_is)
    (case es3_0 => k_is)
    (case es3_1 => k_is)
    (case es3_2 => k_is)
    (case es3_3 => k_is)
    (case es3_4 => k_is)
    (case es3_5 => k_is)
    (case es3_6 => k_is)
    (case es3_7 => k_is)
    (case es4_0 => k_is)
    (case es4_1 => k_is)
    (case es4_2 => k_is)
    (case es4_3 => k_is)
    (case es4_4 => k_is)
    (case es4_5 => k_is)
    (case es4_6 => k_is)
    (case es4_7 => k_is)
    (case es5_0 => k_is)
    (case es5_1 => k_is)
    (case es5_2 => k_is)
    (case es5_3 => k_is)
    (case es5_4 => k_is)
    (case es5_5 => k_is)
    (case es5_6 => k_is)
    (case es5_7 => k_is)
    (case es6_0 => k_is)
    (case es6_1 => k_is)
    (case es6_2 => k_is)
    (case es6_3 => k_is)
    (case es6_4 => k_is)
    (case es6_5 => k_is)
    (case es6_6 => k_is)
    (case es6_7 => k_is)
    (case es7_0 => k_is)
    (case es7_1 => k_is)
    (case es7_2 => k_is)
    (case es7_3 => k_is)
    (case es7_4 => k_is)
    (case es7_5 => k_is)
    (case es7_6 => k_is)
    (case es7_7 => k_is)
    (case z_isinstance => k_is)
    (case z_int => k_is)
    (case z_bool => k_is)
    (case z_list => k_is)
    (case z_tuple => k_is)
    (case z_all => k_is)
    (case z_sum => k_is)
    (case z_MOST_STATES => k_is)
    (case z_lcm => k_is)
    (case z_gcd => k_is)
    (case z_enumerate => k_is)
    (case z_len => k_is)
    (case z_zip => k_is)
    (case z_sorted => k_is)
    (case z_max => k_is)
    (case z_abs => k_is)
    (case z_range => k_is)
    (case z_str => k_is)
    (case ec0 => exact rfl)
    (case ec1 => exact rfl)
    (case ec2 => exact rfl)
    (case ec3 => exact rfl)
    (case ec4 => exact rfl)
    (case ec5 => exact rfl)
